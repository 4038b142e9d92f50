/- The walk of QueueTurns: it answers true, over any world; no condition. -/
import Derived.Test.YtombfempdfdeoaaQueS
import Derived.Deep.Cut
import Derived.Deep.CutRange
namespace Go.Proofs.Ytombfempdfdeoaa
set_option linter.unusedVariables false
set_option linter.unusedSimpArgs false
open Go.RowKit
/-- the tasks of a row: each once, and lesser than a number. -/
def Younger (i : Nat) (own : List Int) : Prop := own.Nodup ∧ ∀ x ∈ own, 0 ≤ x ∧ x < (i : Int)
theorem Younger.first : Younger 0 [] := ⟨List.nodup_nil, by simp⟩
theorem Younger.push {i : Nat} {own : List Int} (h : Younger i own) (front : Bool) : Younger (i + 1) (pushL own i front) := by
  refine ⟨pushL_nodup h.1 (fun hm => by have := (h.2 _ hm).2; omega), fun x hx => ?_⟩
  rcases pushL_mem.1 hx with rfl | hx
  · omega
  · have := h.2 x hx; omega
theorem Younger.mono {i : Nat} {own : List Int} (h : Younger i own) : Younger (i + 1) own := ⟨h.1, fun x hx => by have := h.2 x hx; omega⟩
theorem Younger.but {i : Nat} {own : List Int} (h : Younger i own) (k : Nat) : Younger (i + 1) (butL own k) := ⟨butL_nodup h.1, fun x hx => by
  have hm : x ∈ own := by
    rcases List.mem_append.1 hx with hx | hx
    · exact List.mem_of_mem_take hx
    · exact List.mem_of_mem_drop hx
  have := h.2 x hm; omega⟩
theorem Younger.tail {i : Nat} {x : Int} {own : List Int} (h : Younger i (x :: own)) : Younger (i + 1) own := ⟨(List.nodup_cons.1 h.1).2, fun y hy => by have := h.2 y (by simp [hy]); omega⟩
set_option maxRecDepth 100000 in
set_option maxHeartbeats 16000000 in
theorem turns8_walk (k0 : Int) (A : Option Addr) (n c : Nat) (bs : List Int) (w : World) (hk0 : 0 ≤ k0) (hk1 : k0 ≤ 255) (hx : Bs w A n c bs) :
    Calls Try.prog 6 #[.int .u8 k0, .slice A n c] w fun e w' => e = .returned (.bool true) ∧ Below w.heap.size w w' := by
  have BX := Lib.hid hx
  clear hx
  have HB := Lib.hid (And.intro (Below.refl w.heap.size w) (Nat.le_refl w.heap.size))
  by_cases hn : (60 : Int) < (n : Int)
  · have b0 : decide ((60 : Int) < (n : Int)) = true := decide_eq_true hn
    clear hn
    go_enter Try.func6, Try.ntmps6
    go_wp2_with fail
    refine (alive8 _).mono ?_
    rintro e w1 ⟨rfl, hb⟩
    replace HB := Lib.hid (And.intro (HB.out.1.trans (hb.mono HB.out.2)) (Nat.le_trans HB.out.2 hb.size))
    clear hb
    go_wp2
    go_ret
    exact ⟨rfl, HB.out.1⟩
  · have b0 : decide ((60 : Int) < (n : Int)) = false := decide_eq_false hn
    have hn1 : n ≤ 60 := by omega
    clear hn
    obtain ⟨k, rfl⟩ : ∃ k : Nat, k0 = k := ⟨k0.toNat, by omega⟩
    have hrem : (k : Int).tmod 20 = ((k % 20 : Nat) : Int) := rfl
    obtain ⟨z, hz⟩ : ∃ z : Nat, k % 20 = z := ⟨_, rfl⟩
    have hz1 : z < 20 := by omega
    rw [hz] at hrem
    obtain ⟨hm, hq⟩ := QT.first (n := z) (by omega)
    have c1 := fun W => refMake_own (z : Int) W (by omega) (by omega)
    rw [hm] at c1
    generalize freshL 0 z = rs0 at *
    generalize (if z = 0 then (-1 : Int) else 0) = fr0 at *
    have d1 := Lib.hid (show ∀ W, Calls Try.prog 23 #[.int .i64 (z : Int)] W (fun e w' => ∃ B m d, e = .returned (.tuple #[.agg #[.slice B m d, .int .i64 fr0], .int .i64 0]) ∧ Rr w w' B m d rs0 ∧ Below W.heap.size W w') from fun W => (c1 W).mono (fun e w' ⟨B, m, d, h1, h2, h3⟩ => ⟨B, m, d, h1, Ro.of_own h2 (recC_one _), h3⟩))
    have TQ := Lib.hid hq
    clear hm hq c1 hz
    go_enter Try.func6, Try.ntmps6
    go_wp2_with fail
    refine (alive8 _).mono ?_
    rintro e w1 ⟨rfl, hb⟩
    replace HB := Lib.hid (And.intro (HB.out.1.trans (hb.mono HB.out.2)) (Nat.le_trans HB.out.2 hb.size))
    clear hb
    go_wp2_with fail
    refine (d1.out _).mono ?_
    rintro e w2 ⟨B1, m1, e1, rfl, hrs, hb⟩
    replace HB := Lib.hid (And.intro (HB.out.1.trans (hb.mono HB.out.2)) (Nat.le_trans HB.out.2 hb.size))
    have Ra := Lib.hid hrs
    clear hrs
    clear hb
    have gq := HB.out.2
    obtain ⟨w3, hw3⟩ : ∃ W, (w2.alloc (.cells #[.slice B1 m1 e1, .int .i64 fr0] 24)) = W := ⟨_, rfl⟩
    have hb : Below w2.heap.size w2 w3 := hw3 ▸ ((Below.refl _ _).alloc (Nat.le_refl _) _)
    have hv0 : w3.heap[w2.heap.size]? = some (.cells #[.slice B1 m1 e1, .int .i64 fr0] 24) := by
      have h0 := heap_alloc_new w2 (.cells #[.slice B1 m1 e1, .int .i64 fr0] 24)
      rw [show w2.heap.size = w2.heap.size by simp [Nat.add_assoc]] at h0
      rw [← hw3]
      exact h0
    replace Ra := Lib.hid (Ro.below Ra.out hb)
    replace HB := Lib.hid (And.intro (HB.out.1.trans (hb.mono HB.out.2)) (Nat.le_trans HB.out.2 hb.size))
    have Va := Lib.hid hv0
    have gea := gq
    generalize hsa : w2.heap.size = sa at *
    clear hb gq hv0
    have lta := blk_lt Va.out
    have gq := HB.out.2
    obtain ⟨w4, hw4⟩ : ∃ W, (w3.alloc (.cells #[.int .i64 (-1), .int .i64 (-1)] 26)) = W := ⟨_, rfl⟩
    have hb : Below w3.heap.size w3 w4 := hw4 ▸ ((Below.refl _ _).alloc (Nat.le_refl _) _)
    have hv0 : w4.heap[w3.heap.size]? = some (.cells #[.int .i64 (-1), .int .i64 (-1)] 26) := by
      have h0 := heap_alloc_new w3 (.cells #[.int .i64 (-1), .int .i64 (-1)] 26)
      rw [show w3.heap.size = w3.heap.size by simp [Nat.add_assoc]] at h0
      rw [← hw4]
      exact h0
    replace Va := Lib.hid (blk_below Va.out hb (blk_lt Va.out))
    replace Ra := Lib.hid (Ro.below Ra.out hb)
    replace HB := Lib.hid (And.intro (HB.out.1.trans (hb.mono HB.out.2)) (Nat.le_trans HB.out.2 hb.size))
    have Vq := Lib.hid hv0
    have nea_q := Nat.ne_of_lt lta
    have geq := gq
    generalize hsq : w3.heap.size = sq at *
    clear hb gq hv0 lta
    clear d1
    go_wp2
    have gea2 := gea; have geq2 := geq; have naq := nea_q
    go_loopw [9, 10, 11, 12, 13, 14, 15, 16, 17, 18, 19, 20, 21, 22] (fun ov iv _ _ _ _ _ _ _ _ _ _ _ _ wr => ∃ (i ol oc : Nat) (OA B : Option Addr) (m d : Nat) (rs : List Rec3) (fr hd tl : Int) (own fl l : List Int), ov = .slice OA ol oc ∧ iv = .int .i64 (i : Int) ∧ i ≤ n ∧ Hid (wr.heap[sa]? = some (.cells #[.slice B m d, .int .i64 fr] 24)) ∧ Hid (wr.heap[sq]? = some (.cells #[.int .i64 hd, .int .i64 tl] 26)) ∧ Hid (Rr w wr B m d rs) ∧ Hid (QT z (rs, fr) (hd, tl) own fl l) ∧ Hid (Younger i own) ∧ Hid (wr.ownsRow w.heap.size 3 1 (.slice OA ol oc) ol (intC own)) ∧ Hid (Below w.heap.size w wr ∧ w.heap.size ≤ wr.heap.size)) (fun _ iv _ _ _ _ _ _ _ _ _ _ _ _ _ => n - (intOf iv).toNat)
    case atStart => exact ⟨0, 0, 0, none, _, _, _, _, _, _, _, _, _, _, rfl, rfl, by omega, Va.out, Vq.out, Ra.out, TQ.out, Younger.first, World.ownsRow_nil _ _ _ _, HB.out⟩
    case round =>
      clear Va Vq Ra TQ HB gea geq
      obtain ⟨i, ol, oc, OA, B, m, d, rs, fr, hd, tl, own, fl, l, rfl, rfl, hi, Va, Vq, Ra, TQ, YO, Oo, HB⟩ := hrel
      have gea := gea2; have geq := geq2
      have hrl := Ra.out.es.len
      rw [recC_len] at hrl
      have hql := TQ.out.len
      simp only at hql
      have hml : m = z := by omega
      have hol := Oo.out.1
      rw [intC_len] at hol
      have hos := TQ.out.sum
      have HM := Lib.hid (show m = z ∧ own.length = ol ∧ fl.length + own.length = z from ⟨hml, by omega, hos⟩)
      clear hrl hql hml hol hos
      by_cases hlt : i < n
      · have b1 : decide ((i : Int) < (n : Int)) = true := by simpa using hlt
        obtain ⟨b, off, y, rfl, hb0, hc, y0, y1, _, _⟩ := (Bs.below BX.out HB.out.1).look i hlt
        have i0 : (0 : Int) ≤ (i : Int) := by omega
        have i1 : (i : Int) < (n : Int) := by omega
        have ypos : (0 : Int) ≤ y := y0
        by_cases h2 : y % 4 < 2
        · have b2 : decide (y % 4 < 2) = true := by simpa using h2
          obtain ⟨FB, hFB⟩ : ∃ b, (y % 4 == 1) = b := ⟨_, rfl⟩
          have hFB2 : FB = (y.tmod 4 == 1) := by rw [← hFB, Int.tmod_eq_emod_of_nonneg y0]
          obtain ⟨hml, hol, hos⟩ := HM.out
          obtain ⟨rs2, fr2, h2_, t2_, er, he⟩ : ∃ rs2 fr2 h2_ t2_ er, qPush (rs, fr) (hd, tl) 3 (i : Int) FB = ((rs2, fr2), (h2_, t2_), er) := ⟨_, _, _, _, _, rfl⟩
          have TP : (z ≤ own.length ∧ er = 6 ∧ ∃ fl2 l2, QT z (rs2, fr2) (h2_, t2_) own fl2 l2) ∨ (own.length < z ∧ er = 0 ∧ ∃ fl2 l2, QT z (rs2, fr2) (h2_, t2_) (pushL own (i : Int) FB) fl2 l2) := by
            rcases TQ.out.push (key := 3) (task := (i : Int)) (by omega) i0 FB with ⟨hfull, he2⟩ | ⟨hroom, p2, q2, fl2, l2, he2, hq2⟩
            · rw [he] at he2; simp only [Prod.mk.injEq] at he2; obtain ⟨⟨rfl, rfl⟩, ⟨rfl, rfl⟩, rfl⟩ := he2; exact Or.inl ⟨hfull, rfl, _, _, TQ.out⟩
            · rw [he] at he2; simp only [Prod.mk.injEq] at he2; obtain ⟨rfl, rfl, rfl⟩ := he2; exact Or.inr ⟨hroom, rfl, _, _, hq2⟩
          replace TP := Lib.hid TP
          have CT := Lib.hid (show ∀ W, Rr w W B m d rs → Calls Try.prog 21 #[.agg #[.slice B m d, .int .i64 fr], .agg #[.int .i64 hd, .int .i64 tl], .int .i64 3, .int .i64 (i : Int), .bool (y.tmod 4 == 1)] W (QAs w W rs2 fr2 h2_ t2_ er) from fun W h => hFB2 ▸ pushAs 3 (i : Int) FB h (by omega) he)
          have HOS := Lib.hid (And.intro hol hos)
          have HFB := Lib.hid hFB
          clear he hml hol hos h2 hFB2 hFB
          have gw0 := HB.out.2
          have hlc := Lib.hid hc
          have hbb := hb0
          generalize hg0 : wr.heap.size = g0 at *
          have BZ := Lib.hid (show ∀ X, Below g0 wr X → Below wr.heap.size wr X from fun X h => by rw [hg0]; exact h)
          have HS : Below g0 wr wr := by have h := Below.refl wr.heap.size wr; rwa [hg0] at h
          go_upto_region 25 with fail
          go_cut [11, 12, 13] from 39 to 182 (fun s11 s12 s13 wx => ∃ (sx sp : Nat) (B2 : Option Addr) (m2 d2 : Nat), s11 = .pointer (some ⟨sx, 0, none⟩) ∧ s12 = .pointer (some ⟨sp, 0, none⟩) ∧ s13 = .int .i64 er ∧ Hid (wx.heap[sx]? = some (.cells #[.slice B2 m2 d2, .int .i64 fr2] 24)) ∧ Hid (wx.heap[sp]? = some (.cells #[.int .i64 h2_, .int .i64 t2_] 26)) ∧ Hid (Rr w wx B2 m2 d2 rs2) ∧ Hid (Below g0 wr wx) ∧ g0 ≤ sx ∧ g0 ≤ sp)
          case first => as_aux_lemma =>
            refine wp_region_noPanic ?_
            refine wp_region_held_drew (S := (fun wv => Below g0 wr wv)) (by kernel_rfl) (HS.drew) (fun hS => ?_)
            refine wpAnyH_take (i := 0) (oi := ⟨some 101, .load 24 (.tmp 6), 24, "law.go:101", #[], none⟩) (v := .agg (([.slice B m d, .int .i64 fr] : List Value)).toArray) rfl (by kernel_rfl) (by kernel_rfl) (by kernel_rfl) (fun _ _ _ h => h) (yieldsIf_load_mid (by rfl) _ _ (by rfl) (sa) 0 (by rfl) (([.slice B m d, .int .i64 fr] : List Value)) _ (fun wv hS => blk_rngl (blk_below Va.out (BZ.out _ hS) (blk_lt Va.out))) Try.underlying24 (by rfl) (by kernel_rfl)) hS ?_
            try simp only [Act.put, List.setIfInBounds_toArray, List.set_cons_zero, List.set_cons_succ]
            refine wpAnyH_take (i := 1) (oi := ⟨some 102, .load 26 (.tmp 8), 26, "law.go:101", #[], none⟩) (v := .agg (([.int .i64 hd, .int .i64 tl] : List Value)).toArray) rfl (by kernel_rfl) (by kernel_rfl) (by kernel_rfl) (fun _ _ _ h => h) (yieldsIf_load_mid (by rfl) _ _ (by rfl) (sq) 0 (by rfl) (([.int .i64 hd, .int .i64 tl] : List Value)) _ (fun wv hS => blk_rngl (blk_below Vq.out (BZ.out _ hS) (blk_lt Vq.out))) Try.underlying26 (by rfl) (by kernel_rfl)) hS ?_
            try simp only [Act.put, List.setIfInBounds_toArray, List.set_cons_zero, List.set_cons_succ]
            refine wpAnyH_take (i := 2) (oi := ⟨some 103, .move (.tmp 10), 3, "law.go:101", #[], none⟩) (v := ?_) rfl (by kernel_rfl) (by kernel_rfl) (by kernel_rfl) (fun _ _ _ h => h) (Or.inl ⟨by rfl, ?_⟩) hS ?_
            rotate_left
            · intro wv _; go_simp; try with_reducible rfl
            try simp only [Act.put, List.setIfInBounds_toArray, List.set_cons_zero, List.set_cons_succ]
            refine wpAnyH_take (i := 3) (oi := ⟨some 104, .move (.tmp 1), 45, "law.go:101", #[], none⟩) (v := ?_) rfl (by kernel_rfl) (by kernel_rfl) (by kernel_rfl) (fun _ _ _ h => h) (Or.inl ⟨by rfl, ?_⟩) hS ?_
            rotate_left
            · intro wv _; go_simp; try with_reducible rfl
            try simp only [Act.put, List.setIfInBounds_toArray, List.set_cons_zero, List.set_cons_succ]
            refine wpAnyH_take (i := 4) (oi := ⟨some 105, .move (.tmp 10), 3, "law.go:101", #[], none⟩) (v := ?_) rfl (by kernel_rfl) (by kernel_rfl) (by kernel_rfl) (fun _ _ _ h => h) (Or.inl ⟨by rfl, ?_⟩) hS ?_
            rotate_left
            · intro wv _; go_simp; try with_reducible rfl
            try simp only [Act.put, List.setIfInBounds_toArray, List.set_cons_zero, List.set_cons_succ]
            refine wpAnyH_take (i := 5) (oi := ⟨some 106, .indexAddr 45 (.tmp 104) (.tmp 105), 0, "law.go:101", #[⟨3, .data⟩, ⟨4, .data⟩], none⟩) (v := ?_) rfl (by kernel_rfl) (by kernel_rfl) (by kernel_rfl) (fun _ _ _ h => h) (Or.inl ⟨by rfl, ?_⟩) hS ?_
            rotate_left
            · intro wv _; go_simp; try with_reducible rfl
            try simp only [Act.put, List.setIfInBounds_toArray, List.set_cons_zero, List.set_cons_succ]
            refine wpAnyH_take (i := 6) (oi := ⟨some 107, .load 5 (.tmp 106), 5, "law.go:101", #[⟨5, .data⟩], none⟩) (v := ?_) rfl (by kernel_rfl) (by kernel_rfl) (by kernel_rfl) (fun _ _ _ h => h) (Or.inl ⟨by rfl, ?_⟩) hS ?_
            rotate_left
            · intro wv hS; have hrun := ((BZ.out _ hS).cell (p := ⟨b, off + i, none⟩) (by rw [hg0]; exact hbb)).trans hlc.out; go_simp; try with_reducible rfl
            try simp only [Act.put, List.setIfInBounds_toArray, List.set_cons_zero, List.set_cons_succ]
            refine wpAnyH_take (i := 7) (oi := ⟨some 108, .binOp .rem 5 (.tmp 107) (.const (Value.int IntKind.u8 4)) 5, 5, "law.go:101", #[⟨6, .data⟩], none⟩) (v := ?_) rfl (by kernel_rfl) (by kernel_rfl) (by kernel_rfl) (fun _ _ _ h => h) (Or.inl ⟨by rfl, ?_⟩) hS ?_
            rotate_left
            · intro wv _; go_simp; try with_reducible rfl
            try simp only [Act.put, List.setIfInBounds_toArray, List.set_cons_zero, List.set_cons_succ]
            refine wpAnyH_take (i := 8) (oi := ⟨some 109, .binOp .eql 5 (.tmp 108) (.const (Value.int IntKind.u8 1)) 5, 4, "law.go:101", #[⟨7, .data⟩], none⟩) (v := ?_) rfl (by kernel_rfl) (by kernel_rfl) (by kernel_rfl) (fun _ _ _ h => h) (Or.inl ⟨by rfl, ?_⟩) hS ?_
            rotate_left
            · intro wv _; go_simp; try with_reducible rfl
            try simp only [Act.put, List.setIfInBounds_toArray, List.set_cons_zero, List.set_cons_succ]
            refine wpAnyH_ready (rs := [9, 14, 15]) (by kernel_rfl) (by simp) (AllReadyH.cons (o := ⟨some 110, .call { callee := .value (.func 21), args := #[.tmp 101, .tmp 102, .const (Value.int IntKind.i64 3), .tmp 103, .tmp 109], argTypes := #[24, 26, 3, 3, 4] }, 32, "law.go:101", #[⟨0, .data⟩, ⟨1, .data⟩, ⟨2, .data⟩, ⟨8, .data⟩], none⟩) rfl (fun K hK => ?_) (AllReadyH.cons (o := ⟨some 11, .alloc 24, 0, "law.go:101", #[], none⟩) rfl (fun K hK => ?_) (AllReadyH.cons (o := ⟨some 12, .alloc 26, 0, "law.go:101", #[], none⟩) rfl (fun K hK => ?_) AllReadyH.nil)))
            ·
             go_simp
             have HSw : Below g0 wr wr.drew := HS.drew
             refine (CT.out wr.drew (Ro.below Ra.out (BZ.out _ HSw))).mono ?_
             rintro e wg ⟨B2, m2, d2, rfl, hrr, hb⟩
             have zs : g0 ≤ wr.drew.heap.size := by have h1 := HSw.size; rw [hg0] at h1; exact h1
             have Rx := hrr
             replace HS := HSw.trans (hb.mono zs)
             clear HSw hb hrr zs
             replace hS := HS
             go_wp2_with fail
             refine Shut.out hK _ _ hS (fun _ => ?_)
             clear hK K
             try simp only [Act.put, List.setIfInBounds_toArray, List.set_cons_zero, List.set_cons_succ]
             refine wpAnyH_take (i := 10) (oi := ⟨some 100, .move (.tmp 110), 32, "law.go:101", #[⟨9, .data⟩], none⟩) (v := ?_) rfl (by kernel_rfl) (by kernel_rfl) (by kernel_rfl) (fun _ _ _ h => h) (Or.inl ⟨by rfl, ?_⟩) hS ?_
             rotate_left
             · intro wv _; go_simp; try with_reducible rfl
             try simp only [Act.put, List.setIfInBounds_toArray, List.set_cons_zero, List.set_cons_succ]
             refine wpAnyH_take (i := 11) (oi := ⟨some 111, .extract (.tmp 100) 0, 24, "law.go:101", #[⟨10, .data⟩], none⟩) (v := ?_) rfl (by kernel_rfl) (by kernel_rfl) (by kernel_rfl) (fun _ _ _ h => h) (Or.inl ⟨by rfl, ?_⟩) hS ?_
             rotate_left
             · intro wv _; go_simp; try with_reducible rfl
             try simp only [Act.put, List.setIfInBounds_toArray, List.set_cons_zero, List.set_cons_succ]
             refine wpAnyH_take (i := 12) (oi := ⟨some 112, .extract (.tmp 100) 1, 26, "law.go:101", #[⟨10, .data⟩, ⟨16, .gcOnly .lateStores⟩], none⟩) (v := ?_) rfl (by kernel_rfl) (by kernel_rfl) (by kernel_rfl) (fun _ _ _ h => h) (Or.inl ⟨by rfl, ?_⟩) hS ?_
             rotate_left
             · intro wv _; go_simp; try with_reducible rfl
             try simp only [Act.put, List.setIfInBounds_toArray, List.set_cons_zero, List.set_cons_succ]
             refine wpAnyH_take (i := 13) (oi := ⟨some 113, .extract (.tmp 100) 2, 29, "law.go:101", #[⟨10, .data⟩, ⟨17, .gcOnly .lateStores⟩], none⟩) (v := ?_) rfl (by kernel_rfl) (by kernel_rfl) (by kernel_rfl) (fun _ _ _ h => h) (Or.inl ⟨by rfl, ?_⟩) hS ?_
             rotate_left
             · intro wv _; go_simp; try with_reducible rfl
             try simp only [Act.put, List.setIfInBounds_toArray, List.set_cons_zero, List.set_cons_succ]
             refine wpAnyH_ready (rs := [14, 15]) (by kernel_rfl) (by simp) (AllReadyH.cons (o := ⟨some 11, .alloc 24, 0, "law.go:101", #[], none⟩) rfl (fun K hK => ?_) (AllReadyH.cons (o := ⟨some 12, .alloc 26, 0, "law.go:101", #[], none⟩) rfl (fun K hK => ?_) AllReadyH.nil))
             ·
              go_simp
              have zs : g0 ≤ wg.heap.size := by have h1 := HS.size; rw [hg0] at h1; exact h1
              have bd : Below wg.heap.size wg (wg.alloc (.cells #[.slice none 0 0, .int .i64 0] 24)) := (Below.refl _ _).alloc (Nat.le_refl _) _
              replace Rx := Ro.below Rx bd
              have Vx : (wg.alloc (.cells #[.slice none 0 0, .int .i64 0] 24)).heap[wg.heap.size]? = some (.cells #[.slice none 0 0, .int .i64 0] 24) := heap_alloc_new _ _
              have gex : g0 ≤ wg.heap.size := zs
              replace HS := HS.trans (bd.mono zs)
              clear bd zs
              generalize wg.alloc (.cells #[.slice none 0 0, .int .i64 0] 24) = y1_ at *
              generalize hsx_ : wg.heap.size = sx at *
              replace hS := HS
              go_wp2_with fail
              refine Shut.out hK _ _ hS (fun _ => ?_)
              clear hK K
              try simp only [Act.put, List.setIfInBounds_toArray, List.set_cons_zero, List.set_cons_succ]
              refine wpAnyH_ready (rs := [15]) (by kernel_rfl) (by simp) (AllReadyH.cons (o := ⟨some 12, .alloc 26, 0, "law.go:101", #[], none⟩) rfl (fun K hK => ?_) AllReadyH.nil)
              go_simp
              have zs : g0 ≤ y1_.heap.size := by have h1 := HS.size; rw [hg0] at h1; exact h1
              have bd : Below y1_.heap.size y1_ (y1_.alloc (.cells #[.int .i64 0, .int .i64 0] 26)) := (Below.refl _ _).alloc (Nat.le_refl _) _
              replace Vx := blk_below Vx bd (blk_lt Vx)
              replace Rx := Ro.below Rx bd
              have Vp : (y1_.alloc (.cells #[.int .i64 0, .int .i64 0] 26)).heap[y1_.heap.size]? = some (.cells #[.int .i64 0, .int .i64 0] 26) := heap_alloc_new _ _
              have gep : g0 ≤ y1_.heap.size := zs
              replace HS := HS.trans (bd.mono zs)
              clear bd zs
              generalize y1_.alloc (.cells #[.int .i64 0, .int .i64 0] 26) = y2_ at *
              generalize hsp_ : y1_.heap.size = sp at *
              replace hS := HS
              have cx0 : y2_.cell? ⟨sx, 0, none⟩ = some (.slice none 0 0) := (blk_cell Vx 0).trans rfl
              have cx1 : y2_.cell? ⟨sx, 1, none⟩ = some (.int .i64 0) := (blk_cell Vx 1).trans rfl
              have fx0 : y2_.frozen? ⟨sx, 0, none⟩ = false := blk_frozen Vx 0
              have fx1 : y2_.frozen? ⟨sx, 1, none⟩ = false := blk_frozen Vx 1
              have cp0 : y2_.cell? ⟨sp, 0, none⟩ = some (.int .i64 0) := (blk_cell Vp 0).trans rfl
              have cp1 : y2_.cell? ⟨sp, 1, none⟩ = some (.int .i64 0) := (blk_cell Vp 1).trans rfl
              have fp0 : y2_.frozen? ⟨sp, 0, none⟩ = false := blk_frozen Vp 0
              have fp1 : y2_.frozen? ⟨sp, 1, none⟩ = false := blk_frozen Vp 1
              have nxp : sx ≠ sp := blk_ne Vx Vp (by decide)
              have npx := nxp.symm
              go_wp2_with fail
              refine Shut.out hK _ _ hS (fun _ => ?_)
              clear hK K
              try simp only [Act.put, List.setIfInBounds_toArray, List.set_cons_zero, List.set_cons_succ]
              refine wpAnyH_ready (rs := [16]) (by kernel_rfl) (by simp) (AllReadyH.cons (o := ⟨none, .store 24 (.tmp 11) (.tmp 111), 0, "law.go:101", #[⟨14, .data⟩, ⟨11, .data⟩, ⟨9, .chain⟩, ⟨0, .phase⟩, ⟨1, .phase⟩, ⟨2, .phase⟩, ⟨3, .phase⟩, ⟨4, .phase⟩, ⟨5, .phase⟩, ⟨6, .phase⟩, ⟨7, .phase⟩, ⟨8, .phase⟩, ⟨9, .phase⟩, ⟨10, .phase⟩, ⟨11, .phase⟩, ⟨12, .textOnly .lateStores⟩, ⟨13, .textOnly .lateStores⟩, ⟨14, .phase⟩, ⟨15, .phase⟩], none⟩) rfl (fun K hK => ?_) AllReadyH.nil)
              go_simp
              have Vx2 := blk_pair Vx (.slice B2 m2 d2) (.int .i64 fr2)
              have Vp2 := keep_pair Vp npx (.slice B2 m2 d2) (.int .i64 fr2)
              have Rx2 := Ro.pair Rx Vx (by decide) (Nat.le_trans gw0 gex) (.slice B2 m2 d2) (.int .i64 fr2)
              have HS2 := bel_pair HS gex (.slice B2 m2 d2) (.int .i64 fr2)
              clear Vx Vp Rx HS cx0 cx1 cp0 cp1 fx0 fx1 fp0 fp1
              generalize (y2_.setCell ⟨sx, 0, none⟩ (.slice B2 m2 d2)).setCell ⟨sx, 1, none⟩ (.int .i64 fr2) = z16_ at *
              have Vx := Vx2; have Vp := Vp2; have Rx := Rx2; have HS := HS2
              clear Vx2 Vp2 Rx2 HS2
              replace hS := HS
              have cp0 : z16_.cell? ⟨sp, 0, none⟩ = some (.int .i64 0) := (blk_cell Vp 0).trans rfl
              have cp1 : z16_.cell? ⟨sp, 1, none⟩ = some (.int .i64 0) := (blk_cell Vp 1).trans rfl
              have fp0 : z16_.frozen? ⟨sp, 0, none⟩ = false := blk_frozen Vp 0
              have fp1 : z16_.frozen? ⟨sp, 1, none⟩ = false := blk_frozen Vp 1
              refine Shut.out hK _ _ hS (fun _ => ?_)
              clear hK K
              try simp only [Act.put, List.setIfInBounds_toArray, List.set_cons_zero, List.set_cons_succ]
              refine wpAnyH_ready (rs := [17]) (by kernel_rfl) (by simp) (AllReadyH.cons (o := ⟨none, .store 26 (.tmp 12) (.tmp 112), 0, "law.go:101", #[⟨15, .data⟩, ⟨12, .data⟩, ⟨16, .chain⟩, ⟨0, .phase⟩, ⟨1, .phase⟩, ⟨2, .phase⟩, ⟨3, .phase⟩, ⟨4, .phase⟩, ⟨5, .phase⟩, ⟨6, .phase⟩, ⟨7, .phase⟩, ⟨8, .phase⟩, ⟨9, .phase⟩, ⟨10, .phase⟩, ⟨11, .phase⟩, ⟨12, .phase⟩, ⟨13, .textOnly .lateStores⟩, ⟨14, .phase⟩, ⟨15, .phase⟩, ⟨16, .phase⟩], none⟩) rfl (fun K hK => ?_) AllReadyH.nil)
              go_simp
              have Vp2 := blk_pair Vp (.int .i64 h2_) (.int .i64 t2_)
              have Vx2 := keep_pair Vx nxp (.int .i64 h2_) (.int .i64 t2_)
              have Rx2 := Ro.pair Rx Vp (by decide) (Nat.le_trans gw0 gep) (.int .i64 h2_) (.int .i64 t2_)
              have HS2 := bel_pair HS gep (.int .i64 h2_) (.int .i64 t2_)
              clear Vx Vp Rx HS cp0 cp1 fp0 fp1
              generalize (z16_.setCell ⟨sp, 0, none⟩ (.int .i64 h2_)).setCell ⟨sp, 1, none⟩ (.int .i64 t2_) = z17_ at *
              have Vx := Vx2; have Vp := Vp2; have Rx := Rx2; have HS := HS2
              clear Vx2 Vp2 Rx2 HS2
              replace hS := HS
              refine Shut.out hK _ _ hS (fun _ => ?_)
              clear hK K
              try simp only [Act.put, List.setIfInBounds_toArray, List.set_cons_zero, List.set_cons_succ]
              refine wpAnyH_take (i := 18) (oi := ⟨some 13, .assign (.tmp 113), 29, "law.go:101", #[⟨13, .data⟩, ⟨17, .chain⟩, ⟨0, .phase⟩, ⟨1, .phase⟩, ⟨2, .phase⟩, ⟨3, .phase⟩, ⟨4, .phase⟩, ⟨5, .phase⟩, ⟨6, .phase⟩, ⟨7, .phase⟩, ⟨8, .phase⟩, ⟨9, .phase⟩, ⟨10, .phase⟩, ⟨11, .phase⟩, ⟨12, .phase⟩, ⟨13, .phase⟩, ⟨14, .phase⟩, ⟨15, .phase⟩, ⟨16, .phase⟩, ⟨17, .phase⟩], none⟩) (v := ?_) rfl (by kernel_rfl) (by kernel_rfl) (by kernel_rfl) (fun _ _ _ h => h) (Or.inl ⟨by rfl, ?_⟩) hS ?_
              rotate_left
              · intro wv _; go_simp; try with_reducible rfl
              try simp only [Act.put, List.setIfInBounds_toArray, List.set_cons_zero, List.set_cons_succ]
              refine wpAnyH_done (by kernel_rfl) ?_ _
              refine NoPanic.normal ?_
              go_wp2_with fail
              go_meet
              exact ⟨sx, sp, B2, m2, d2, rfl, rfl, rfl, Lib.hid Vx, Lib.hid Vp, Lib.hid Rx, Lib.hid HS, gex, gep⟩
             ·
              go_simp
              have zs : g0 ≤ wg.heap.size := by have h1 := HS.size; rw [hg0] at h1; exact h1
              have bd : Below wg.heap.size wg (wg.alloc (.cells #[.int .i64 0, .int .i64 0] 26)) := (Below.refl _ _).alloc (Nat.le_refl _) _
              replace Rx := Ro.below Rx bd
              have Vp : (wg.alloc (.cells #[.int .i64 0, .int .i64 0] 26)).heap[wg.heap.size]? = some (.cells #[.int .i64 0, .int .i64 0] 26) := heap_alloc_new _ _
              have gep : g0 ≤ wg.heap.size := zs
              replace HS := HS.trans (bd.mono zs)
              clear bd zs
              generalize wg.alloc (.cells #[.int .i64 0, .int .i64 0] 26) = y1_ at *
              generalize hsp_ : wg.heap.size = sp at *
              replace hS := HS
              go_wp2_with fail
              refine Shut.out hK _ _ hS (fun _ => ?_)
              clear hK K
              try simp only [Act.put, List.setIfInBounds_toArray, List.set_cons_zero, List.set_cons_succ]
              refine wpAnyH_ready (rs := [14]) (by kernel_rfl) (by simp) (AllReadyH.cons (o := ⟨some 11, .alloc 24, 0, "law.go:101", #[], none⟩) rfl (fun K hK => ?_) AllReadyH.nil)
              go_simp
              have zs : g0 ≤ y1_.heap.size := by have h1 := HS.size; rw [hg0] at h1; exact h1
              have bd : Below y1_.heap.size y1_ (y1_.alloc (.cells #[.slice none 0 0, .int .i64 0] 24)) := (Below.refl _ _).alloc (Nat.le_refl _) _
              replace Vp := blk_below Vp bd (blk_lt Vp)
              replace Rx := Ro.below Rx bd
              have Vx : (y1_.alloc (.cells #[.slice none 0 0, .int .i64 0] 24)).heap[y1_.heap.size]? = some (.cells #[.slice none 0 0, .int .i64 0] 24) := heap_alloc_new _ _
              have gex : g0 ≤ y1_.heap.size := zs
              replace HS := HS.trans (bd.mono zs)
              clear bd zs
              generalize y1_.alloc (.cells #[.slice none 0 0, .int .i64 0] 24) = y2_ at *
              generalize hsx_ : y1_.heap.size = sx at *
              replace hS := HS
              have cx0 : y2_.cell? ⟨sx, 0, none⟩ = some (.slice none 0 0) := (blk_cell Vx 0).trans rfl
              have cx1 : y2_.cell? ⟨sx, 1, none⟩ = some (.int .i64 0) := (blk_cell Vx 1).trans rfl
              have fx0 : y2_.frozen? ⟨sx, 0, none⟩ = false := blk_frozen Vx 0
              have fx1 : y2_.frozen? ⟨sx, 1, none⟩ = false := blk_frozen Vx 1
              have cp0 : y2_.cell? ⟨sp, 0, none⟩ = some (.int .i64 0) := (blk_cell Vp 0).trans rfl
              have cp1 : y2_.cell? ⟨sp, 1, none⟩ = some (.int .i64 0) := (blk_cell Vp 1).trans rfl
              have fp0 : y2_.frozen? ⟨sp, 0, none⟩ = false := blk_frozen Vp 0
              have fp1 : y2_.frozen? ⟨sp, 1, none⟩ = false := blk_frozen Vp 1
              have nxp : sx ≠ sp := blk_ne Vx Vp (by decide)
              have npx := nxp.symm
              go_wp2_with fail
              refine Shut.out hK _ _ hS (fun _ => ?_)
              clear hK K
              try simp only [Act.put, List.setIfInBounds_toArray, List.set_cons_zero, List.set_cons_succ]
              refine wpAnyH_ready (rs := [16]) (by kernel_rfl) (by simp) (AllReadyH.cons (o := ⟨none, .store 24 (.tmp 11) (.tmp 111), 0, "law.go:101", #[⟨14, .data⟩, ⟨11, .data⟩, ⟨9, .chain⟩, ⟨0, .phase⟩, ⟨1, .phase⟩, ⟨2, .phase⟩, ⟨3, .phase⟩, ⟨4, .phase⟩, ⟨5, .phase⟩, ⟨6, .phase⟩, ⟨7, .phase⟩, ⟨8, .phase⟩, ⟨9, .phase⟩, ⟨10, .phase⟩, ⟨11, .phase⟩, ⟨12, .textOnly .lateStores⟩, ⟨13, .textOnly .lateStores⟩, ⟨14, .phase⟩, ⟨15, .phase⟩], none⟩) rfl (fun K hK => ?_) AllReadyH.nil)
              go_simp
              have Vx2 := blk_pair Vx (.slice B2 m2 d2) (.int .i64 fr2)
              have Vp2 := keep_pair Vp npx (.slice B2 m2 d2) (.int .i64 fr2)
              have Rx2 := Ro.pair Rx Vx (by decide) (Nat.le_trans gw0 gex) (.slice B2 m2 d2) (.int .i64 fr2)
              have HS2 := bel_pair HS gex (.slice B2 m2 d2) (.int .i64 fr2)
              clear Vx Vp Rx HS cx0 cx1 cp0 cp1 fx0 fx1 fp0 fp1
              generalize (y2_.setCell ⟨sx, 0, none⟩ (.slice B2 m2 d2)).setCell ⟨sx, 1, none⟩ (.int .i64 fr2) = z16_ at *
              have Vx := Vx2; have Vp := Vp2; have Rx := Rx2; have HS := HS2
              clear Vx2 Vp2 Rx2 HS2
              replace hS := HS
              have cp0 : z16_.cell? ⟨sp, 0, none⟩ = some (.int .i64 0) := (blk_cell Vp 0).trans rfl
              have cp1 : z16_.cell? ⟨sp, 1, none⟩ = some (.int .i64 0) := (blk_cell Vp 1).trans rfl
              have fp0 : z16_.frozen? ⟨sp, 0, none⟩ = false := blk_frozen Vp 0
              have fp1 : z16_.frozen? ⟨sp, 1, none⟩ = false := blk_frozen Vp 1
              refine Shut.out hK _ _ hS (fun _ => ?_)
              clear hK K
              try simp only [Act.put, List.setIfInBounds_toArray, List.set_cons_zero, List.set_cons_succ]
              refine wpAnyH_ready (rs := [17]) (by kernel_rfl) (by simp) (AllReadyH.cons (o := ⟨none, .store 26 (.tmp 12) (.tmp 112), 0, "law.go:101", #[⟨15, .data⟩, ⟨12, .data⟩, ⟨16, .chain⟩, ⟨0, .phase⟩, ⟨1, .phase⟩, ⟨2, .phase⟩, ⟨3, .phase⟩, ⟨4, .phase⟩, ⟨5, .phase⟩, ⟨6, .phase⟩, ⟨7, .phase⟩, ⟨8, .phase⟩, ⟨9, .phase⟩, ⟨10, .phase⟩, ⟨11, .phase⟩, ⟨12, .phase⟩, ⟨13, .textOnly .lateStores⟩, ⟨14, .phase⟩, ⟨15, .phase⟩, ⟨16, .phase⟩], none⟩) rfl (fun K hK => ?_) AllReadyH.nil)
              go_simp
              have Vp2 := blk_pair Vp (.int .i64 h2_) (.int .i64 t2_)
              have Vx2 := keep_pair Vx nxp (.int .i64 h2_) (.int .i64 t2_)
              have Rx2 := Ro.pair Rx Vp (by decide) (Nat.le_trans gw0 gep) (.int .i64 h2_) (.int .i64 t2_)
              have HS2 := bel_pair HS gep (.int .i64 h2_) (.int .i64 t2_)
              clear Vx Vp Rx HS cp0 cp1 fp0 fp1
              generalize (z16_.setCell ⟨sp, 0, none⟩ (.int .i64 h2_)).setCell ⟨sp, 1, none⟩ (.int .i64 t2_) = z17_ at *
              have Vx := Vx2; have Vp := Vp2; have Rx := Rx2; have HS := HS2
              clear Vx2 Vp2 Rx2 HS2
              replace hS := HS
              refine Shut.out hK _ _ hS (fun _ => ?_)
              clear hK K
              try simp only [Act.put, List.setIfInBounds_toArray, List.set_cons_zero, List.set_cons_succ]
              refine wpAnyH_take (i := 18) (oi := ⟨some 13, .assign (.tmp 113), 29, "law.go:101", #[⟨13, .data⟩, ⟨17, .chain⟩, ⟨0, .phase⟩, ⟨1, .phase⟩, ⟨2, .phase⟩, ⟨3, .phase⟩, ⟨4, .phase⟩, ⟨5, .phase⟩, ⟨6, .phase⟩, ⟨7, .phase⟩, ⟨8, .phase⟩, ⟨9, .phase⟩, ⟨10, .phase⟩, ⟨11, .phase⟩, ⟨12, .phase⟩, ⟨13, .phase⟩, ⟨14, .phase⟩, ⟨15, .phase⟩, ⟨16, .phase⟩, ⟨17, .phase⟩], none⟩) (v := ?_) rfl (by kernel_rfl) (by kernel_rfl) (by kernel_rfl) (fun _ _ _ h => h) (Or.inl ⟨by rfl, ?_⟩) hS ?_
              rotate_left
              · intro wv _; go_simp; try with_reducible rfl
              try simp only [Act.put, List.setIfInBounds_toArray, List.set_cons_zero, List.set_cons_succ]
              refine wpAnyH_done (by kernel_rfl) ?_ _
              refine NoPanic.normal ?_
              go_wp2_with fail
              go_meet
              exact ⟨sx, sp, B2, m2, d2, rfl, rfl, rfl, Lib.hid Vx, Lib.hid Vp, Lib.hid Rx, Lib.hid HS, gex, gep⟩
            ·
             go_simp
             have zs : g0 ≤ g0 := Nat.le_refl _
             have bd : Below g0 wr (wr.alloc (.cells #[.slice none 0 0, .int .i64 0] 24)) := by have h := (Below.refl wr.heap.size wr).alloc (Nat.le_refl _) (.cells #[.slice none 0 0, .int .i64 0] 24); rwa [hg0] at h
             have Vx : (wr.alloc (.cells #[.slice none 0 0, .int .i64 0] 24)).heap[g0]? = some (.cells #[.slice none 0 0, .int .i64 0] 24) := by have h := heap_alloc_new wr (.cells #[.slice none 0 0, .int .i64 0] 24); rw [hg0] at h; exact h
             have gex : g0 ≤ g0 := zs
             replace HS := HS.trans (bd.mono zs)
             clear bd zs
             generalize wr.alloc (.cells #[.slice none 0 0, .int .i64 0] 24) = y1_ at *
             replace hS := HS.drew
             go_wp2_with fail
             refine Shut.out hK _ _ hS (fun _ => ?_)
             clear hK K
             try simp only [Act.put, List.setIfInBounds_toArray, List.set_cons_zero, List.set_cons_succ]
             refine wpAnyH_ready (rs := [9, 15]) (by kernel_rfl) (by simp) (AllReadyH.cons (o := ⟨some 110, .call { callee := .value (.func 21), args := #[.tmp 101, .tmp 102, .const (Value.int IntKind.i64 3), .tmp 103, .tmp 109], argTypes := #[24, 26, 3, 3, 4] }, 32, "law.go:101", #[⟨0, .data⟩, ⟨1, .data⟩, ⟨2, .data⟩, ⟨8, .data⟩], none⟩) rfl (fun K hK => ?_) (AllReadyH.cons (o := ⟨some 12, .alloc 26, 0, "law.go:101", #[], none⟩) rfl (fun K hK => ?_) AllReadyH.nil))
             ·
              go_simp
              have HSw : Below g0 wr y1_.drew := HS.drew
              refine (CT.out y1_.drew (Ro.below Ra.out (BZ.out _ HSw))).mono ?_
              rintro e wg ⟨B2, m2, d2, rfl, hrr, hb⟩
              have zs : g0 ≤ y1_.drew.heap.size := by have h1 := HSw.size; rw [hg0] at h1; exact h1
              replace Vx := blk_below (show y1_.drew.heap[_]? = _ from Vx) hb (blk_lt Vx)
              have Rx := hrr
              replace HS := HSw.trans (hb.mono zs)
              clear HSw hb hrr zs
              replace hS := HS
              go_wp2_with fail
              refine Shut.out hK _ _ hS (fun _ => ?_)
              clear hK K
              try simp only [Act.put, List.setIfInBounds_toArray, List.set_cons_zero, List.set_cons_succ]
              refine wpAnyH_take (i := 10) (oi := ⟨some 100, .move (.tmp 110), 32, "law.go:101", #[⟨9, .data⟩], none⟩) (v := ?_) rfl (by kernel_rfl) (by kernel_rfl) (by kernel_rfl) (fun _ _ _ h => h) (Or.inl ⟨by rfl, ?_⟩) hS ?_
              rotate_left
              · intro wv _; go_simp; try with_reducible rfl
              try simp only [Act.put, List.setIfInBounds_toArray, List.set_cons_zero, List.set_cons_succ]
              refine wpAnyH_take (i := 11) (oi := ⟨some 111, .extract (.tmp 100) 0, 24, "law.go:101", #[⟨10, .data⟩], none⟩) (v := ?_) rfl (by kernel_rfl) (by kernel_rfl) (by kernel_rfl) (fun _ _ _ h => h) (Or.inl ⟨by rfl, ?_⟩) hS ?_
              rotate_left
              · intro wv _; go_simp; try with_reducible rfl
              try simp only [Act.put, List.setIfInBounds_toArray, List.set_cons_zero, List.set_cons_succ]
              refine wpAnyH_take (i := 12) (oi := ⟨some 112, .extract (.tmp 100) 1, 26, "law.go:101", #[⟨10, .data⟩, ⟨16, .gcOnly .lateStores⟩], none⟩) (v := ?_) rfl (by kernel_rfl) (by kernel_rfl) (by kernel_rfl) (fun _ _ _ h => h) (Or.inl ⟨by rfl, ?_⟩) hS ?_
              rotate_left
              · intro wv _; go_simp; try with_reducible rfl
              try simp only [Act.put, List.setIfInBounds_toArray, List.set_cons_zero, List.set_cons_succ]
              refine wpAnyH_take (i := 13) (oi := ⟨some 113, .extract (.tmp 100) 2, 29, "law.go:101", #[⟨10, .data⟩, ⟨17, .gcOnly .lateStores⟩], none⟩) (v := ?_) rfl (by kernel_rfl) (by kernel_rfl) (by kernel_rfl) (fun _ _ _ h => h) (Or.inl ⟨by rfl, ?_⟩) hS ?_
              rotate_left
              · intro wv _; go_simp; try with_reducible rfl
              try simp only [Act.put, List.setIfInBounds_toArray, List.set_cons_zero, List.set_cons_succ]
              refine wpAnyH_ready (rs := [15]) (by kernel_rfl) (by simp) (AllReadyH.cons (o := ⟨some 12, .alloc 26, 0, "law.go:101", #[], none⟩) rfl (fun K hK => ?_) AllReadyH.nil)
              go_simp
              have zs : g0 ≤ wg.heap.size := by have h1 := HS.size; rw [hg0] at h1; exact h1
              have bd : Below wg.heap.size wg (wg.alloc (.cells #[.int .i64 0, .int .i64 0] 26)) := (Below.refl _ _).alloc (Nat.le_refl _) _
              replace Vx := blk_below Vx bd (blk_lt Vx)
              replace Rx := Ro.below Rx bd
              have Vp : (wg.alloc (.cells #[.int .i64 0, .int .i64 0] 26)).heap[wg.heap.size]? = some (.cells #[.int .i64 0, .int .i64 0] 26) := heap_alloc_new _ _
              have gep : g0 ≤ wg.heap.size := zs
              replace HS := HS.trans (bd.mono zs)
              clear bd zs
              generalize wg.alloc (.cells #[.int .i64 0, .int .i64 0] 26) = y2_ at *
              generalize hsp_ : wg.heap.size = sp at *
              replace hS := HS
              have cx0 : y2_.cell? ⟨g0, 0, none⟩ = some (.slice none 0 0) := (blk_cell Vx 0).trans rfl
              have cx1 : y2_.cell? ⟨g0, 1, none⟩ = some (.int .i64 0) := (blk_cell Vx 1).trans rfl
              have fx0 : y2_.frozen? ⟨g0, 0, none⟩ = false := blk_frozen Vx 0
              have fx1 : y2_.frozen? ⟨g0, 1, none⟩ = false := blk_frozen Vx 1
              have cp0 : y2_.cell? ⟨sp, 0, none⟩ = some (.int .i64 0) := (blk_cell Vp 0).trans rfl
              have cp1 : y2_.cell? ⟨sp, 1, none⟩ = some (.int .i64 0) := (blk_cell Vp 1).trans rfl
              have fp0 : y2_.frozen? ⟨sp, 0, none⟩ = false := blk_frozen Vp 0
              have fp1 : y2_.frozen? ⟨sp, 1, none⟩ = false := blk_frozen Vp 1
              have nxp : g0 ≠ sp := blk_ne Vx Vp (by decide)
              have npx := nxp.symm
              go_wp2_with fail
              refine Shut.out hK _ _ hS (fun _ => ?_)
              clear hK K
              try simp only [Act.put, List.setIfInBounds_toArray, List.set_cons_zero, List.set_cons_succ]
              refine wpAnyH_ready (rs := [16]) (by kernel_rfl) (by simp) (AllReadyH.cons (o := ⟨none, .store 24 (.tmp 11) (.tmp 111), 0, "law.go:101", #[⟨14, .data⟩, ⟨11, .data⟩, ⟨9, .chain⟩, ⟨0, .phase⟩, ⟨1, .phase⟩, ⟨2, .phase⟩, ⟨3, .phase⟩, ⟨4, .phase⟩, ⟨5, .phase⟩, ⟨6, .phase⟩, ⟨7, .phase⟩, ⟨8, .phase⟩, ⟨9, .phase⟩, ⟨10, .phase⟩, ⟨11, .phase⟩, ⟨12, .textOnly .lateStores⟩, ⟨13, .textOnly .lateStores⟩, ⟨14, .phase⟩, ⟨15, .phase⟩], none⟩) rfl (fun K hK => ?_) AllReadyH.nil)
              go_simp
              have Vx2 := blk_pair Vx (.slice B2 m2 d2) (.int .i64 fr2)
              have Vp2 := keep_pair Vp npx (.slice B2 m2 d2) (.int .i64 fr2)
              have Rx2 := Ro.pair Rx Vx (by decide) (Nat.le_trans gw0 gex) (.slice B2 m2 d2) (.int .i64 fr2)
              have HS2 := bel_pair HS gex (.slice B2 m2 d2) (.int .i64 fr2)
              clear Vx Vp Rx HS cx0 cx1 cp0 cp1 fx0 fx1 fp0 fp1
              generalize (y2_.setCell ⟨g0, 0, none⟩ (.slice B2 m2 d2)).setCell ⟨g0, 1, none⟩ (.int .i64 fr2) = z16_ at *
              have Vx := Vx2; have Vp := Vp2; have Rx := Rx2; have HS := HS2
              clear Vx2 Vp2 Rx2 HS2
              replace hS := HS
              have cp0 : z16_.cell? ⟨sp, 0, none⟩ = some (.int .i64 0) := (blk_cell Vp 0).trans rfl
              have cp1 : z16_.cell? ⟨sp, 1, none⟩ = some (.int .i64 0) := (blk_cell Vp 1).trans rfl
              have fp0 : z16_.frozen? ⟨sp, 0, none⟩ = false := blk_frozen Vp 0
              have fp1 : z16_.frozen? ⟨sp, 1, none⟩ = false := blk_frozen Vp 1
              refine Shut.out hK _ _ hS (fun _ => ?_)
              clear hK K
              try simp only [Act.put, List.setIfInBounds_toArray, List.set_cons_zero, List.set_cons_succ]
              refine wpAnyH_ready (rs := [17]) (by kernel_rfl) (by simp) (AllReadyH.cons (o := ⟨none, .store 26 (.tmp 12) (.tmp 112), 0, "law.go:101", #[⟨15, .data⟩, ⟨12, .data⟩, ⟨16, .chain⟩, ⟨0, .phase⟩, ⟨1, .phase⟩, ⟨2, .phase⟩, ⟨3, .phase⟩, ⟨4, .phase⟩, ⟨5, .phase⟩, ⟨6, .phase⟩, ⟨7, .phase⟩, ⟨8, .phase⟩, ⟨9, .phase⟩, ⟨10, .phase⟩, ⟨11, .phase⟩, ⟨12, .phase⟩, ⟨13, .textOnly .lateStores⟩, ⟨14, .phase⟩, ⟨15, .phase⟩, ⟨16, .phase⟩], none⟩) rfl (fun K hK => ?_) AllReadyH.nil)
              go_simp
              have Vp2 := blk_pair Vp (.int .i64 h2_) (.int .i64 t2_)
              have Vx2 := keep_pair Vx nxp (.int .i64 h2_) (.int .i64 t2_)
              have Rx2 := Ro.pair Rx Vp (by decide) (Nat.le_trans gw0 gep) (.int .i64 h2_) (.int .i64 t2_)
              have HS2 := bel_pair HS gep (.int .i64 h2_) (.int .i64 t2_)
              clear Vx Vp Rx HS cp0 cp1 fp0 fp1
              generalize (z16_.setCell ⟨sp, 0, none⟩ (.int .i64 h2_)).setCell ⟨sp, 1, none⟩ (.int .i64 t2_) = z17_ at *
              have Vx := Vx2; have Vp := Vp2; have Rx := Rx2; have HS := HS2
              clear Vx2 Vp2 Rx2 HS2
              replace hS := HS
              refine Shut.out hK _ _ hS (fun _ => ?_)
              clear hK K
              try simp only [Act.put, List.setIfInBounds_toArray, List.set_cons_zero, List.set_cons_succ]
              refine wpAnyH_take (i := 18) (oi := ⟨some 13, .assign (.tmp 113), 29, "law.go:101", #[⟨13, .data⟩, ⟨17, .chain⟩, ⟨0, .phase⟩, ⟨1, .phase⟩, ⟨2, .phase⟩, ⟨3, .phase⟩, ⟨4, .phase⟩, ⟨5, .phase⟩, ⟨6, .phase⟩, ⟨7, .phase⟩, ⟨8, .phase⟩, ⟨9, .phase⟩, ⟨10, .phase⟩, ⟨11, .phase⟩, ⟨12, .phase⟩, ⟨13, .phase⟩, ⟨14, .phase⟩, ⟨15, .phase⟩, ⟨16, .phase⟩, ⟨17, .phase⟩], none⟩) (v := ?_) rfl (by kernel_rfl) (by kernel_rfl) (by kernel_rfl) (fun _ _ _ h => h) (Or.inl ⟨by rfl, ?_⟩) hS ?_
              rotate_left
              · intro wv _; go_simp; try with_reducible rfl
              try simp only [Act.put, List.setIfInBounds_toArray, List.set_cons_zero, List.set_cons_succ]
              refine wpAnyH_done (by kernel_rfl) ?_ _
              refine NoPanic.normal ?_
              go_wp2_with fail
              go_meet
              exact ⟨g0, sp, B2, m2, d2, rfl, rfl, rfl, Lib.hid Vx, Lib.hid Vp, Lib.hid Rx, Lib.hid HS, gex, gep⟩
             ·
              go_simp
              have zs : g0 ≤ y1_.heap.size := by have h1 := HS.size; rw [hg0] at h1; exact h1
              have bd : Below y1_.heap.size y1_ (y1_.alloc (.cells #[.int .i64 0, .int .i64 0] 26)) := (Below.refl _ _).alloc (Nat.le_refl _) _
              replace Vx := blk_below Vx bd (blk_lt Vx)
              have Vp : (y1_.alloc (.cells #[.int .i64 0, .int .i64 0] 26)).heap[y1_.heap.size]? = some (.cells #[.int .i64 0, .int .i64 0] 26) := heap_alloc_new _ _
              have gep : g0 ≤ y1_.heap.size := zs
              replace HS := HS.trans (bd.mono zs)
              clear bd zs
              generalize y1_.alloc (.cells #[.int .i64 0, .int .i64 0] 26) = y2_ at *
              generalize hsp_ : y1_.heap.size = sp at *
              replace hS := HS.drew
              go_wp2_with fail
              refine Shut.out hK _ _ hS (fun _ => ?_)
              clear hK K
              try simp only [Act.put, List.setIfInBounds_toArray, List.set_cons_zero, List.set_cons_succ]
              refine wpAnyH_ready (rs := [9]) (by kernel_rfl) (by simp) (AllReadyH.cons (o := ⟨some 110, .call { callee := .value (.func 21), args := #[.tmp 101, .tmp 102, .const (Value.int IntKind.i64 3), .tmp 103, .tmp 109], argTypes := #[24, 26, 3, 3, 4] }, 32, "law.go:101", #[⟨0, .data⟩, ⟨1, .data⟩, ⟨2, .data⟩, ⟨8, .data⟩], none⟩) rfl (fun K hK => ?_) AllReadyH.nil)
              go_simp
              have HSw : Below g0 wr y2_.drew := HS.drew
              refine (CT.out y2_.drew (Ro.below Ra.out (BZ.out _ HSw))).mono ?_
              rintro e wg ⟨B2, m2, d2, rfl, hrr, hb⟩
              have zs : g0 ≤ y2_.drew.heap.size := by have h1 := HSw.size; rw [hg0] at h1; exact h1
              replace Vx := blk_below (show y2_.drew.heap[_]? = _ from Vx) hb (blk_lt Vx)
              replace Vp := blk_below (show y2_.drew.heap[_]? = _ from Vp) hb (blk_lt Vp)
              have Rx := hrr
              replace HS := HSw.trans (hb.mono zs)
              clear HSw hb hrr zs
              replace hS := HS
              have cx0 : wg.cell? ⟨g0, 0, none⟩ = some (.slice none 0 0) := (blk_cell Vx 0).trans rfl
              have cx1 : wg.cell? ⟨g0, 1, none⟩ = some (.int .i64 0) := (blk_cell Vx 1).trans rfl
              have fx0 : wg.frozen? ⟨g0, 0, none⟩ = false := blk_frozen Vx 0
              have fx1 : wg.frozen? ⟨g0, 1, none⟩ = false := blk_frozen Vx 1
              have cp0 : wg.cell? ⟨sp, 0, none⟩ = some (.int .i64 0) := (blk_cell Vp 0).trans rfl
              have cp1 : wg.cell? ⟨sp, 1, none⟩ = some (.int .i64 0) := (blk_cell Vp 1).trans rfl
              have fp0 : wg.frozen? ⟨sp, 0, none⟩ = false := blk_frozen Vp 0
              have fp1 : wg.frozen? ⟨sp, 1, none⟩ = false := blk_frozen Vp 1
              have nxp : g0 ≠ sp := blk_ne Vx Vp (by decide)
              have npx := nxp.symm
              go_wp2_with fail
              refine Shut.out hK _ _ hS (fun _ => ?_)
              clear hK K
              try simp only [Act.put, List.setIfInBounds_toArray, List.set_cons_zero, List.set_cons_succ]
              refine wpAnyH_take (i := 10) (oi := ⟨some 100, .move (.tmp 110), 32, "law.go:101", #[⟨9, .data⟩], none⟩) (v := ?_) rfl (by kernel_rfl) (by kernel_rfl) (by kernel_rfl) (fun _ _ _ h => h) (Or.inl ⟨by rfl, ?_⟩) hS ?_
              rotate_left
              · intro wv _; go_simp; try with_reducible rfl
              try simp only [Act.put, List.setIfInBounds_toArray, List.set_cons_zero, List.set_cons_succ]
              refine wpAnyH_take (i := 11) (oi := ⟨some 111, .extract (.tmp 100) 0, 24, "law.go:101", #[⟨10, .data⟩], none⟩) (v := ?_) rfl (by kernel_rfl) (by kernel_rfl) (by kernel_rfl) (fun _ _ _ h => h) (Or.inl ⟨by rfl, ?_⟩) hS ?_
              rotate_left
              · intro wv _; go_simp; try with_reducible rfl
              try simp only [Act.put, List.setIfInBounds_toArray, List.set_cons_zero, List.set_cons_succ]
              refine wpAnyH_take (i := 12) (oi := ⟨some 112, .extract (.tmp 100) 1, 26, "law.go:101", #[⟨10, .data⟩, ⟨16, .gcOnly .lateStores⟩], none⟩) (v := ?_) rfl (by kernel_rfl) (by kernel_rfl) (by kernel_rfl) (fun _ _ _ h => h) (Or.inl ⟨by rfl, ?_⟩) hS ?_
              rotate_left
              · intro wv _; go_simp; try with_reducible rfl
              try simp only [Act.put, List.setIfInBounds_toArray, List.set_cons_zero, List.set_cons_succ]
              refine wpAnyH_take (i := 13) (oi := ⟨some 113, .extract (.tmp 100) 2, 29, "law.go:101", #[⟨10, .data⟩, ⟨17, .gcOnly .lateStores⟩], none⟩) (v := ?_) rfl (by kernel_rfl) (by kernel_rfl) (by kernel_rfl) (fun _ _ _ h => h) (Or.inl ⟨by rfl, ?_⟩) hS ?_
              rotate_left
              · intro wv _; go_simp; try with_reducible rfl
              try simp only [Act.put, List.setIfInBounds_toArray, List.set_cons_zero, List.set_cons_succ]
              refine wpAnyH_ready (rs := [16]) (by kernel_rfl) (by simp) (AllReadyH.cons (o := ⟨none, .store 24 (.tmp 11) (.tmp 111), 0, "law.go:101", #[⟨14, .data⟩, ⟨11, .data⟩, ⟨9, .chain⟩, ⟨0, .phase⟩, ⟨1, .phase⟩, ⟨2, .phase⟩, ⟨3, .phase⟩, ⟨4, .phase⟩, ⟨5, .phase⟩, ⟨6, .phase⟩, ⟨7, .phase⟩, ⟨8, .phase⟩, ⟨9, .phase⟩, ⟨10, .phase⟩, ⟨11, .phase⟩, ⟨12, .textOnly .lateStores⟩, ⟨13, .textOnly .lateStores⟩, ⟨14, .phase⟩, ⟨15, .phase⟩], none⟩) rfl (fun K hK => ?_) AllReadyH.nil)
              go_simp
              have Vx2 := blk_pair Vx (.slice B2 m2 d2) (.int .i64 fr2)
              have Vp2 := keep_pair Vp npx (.slice B2 m2 d2) (.int .i64 fr2)
              have Rx2 := Ro.pair Rx Vx (by decide) (Nat.le_trans gw0 gex) (.slice B2 m2 d2) (.int .i64 fr2)
              have HS2 := bel_pair HS gex (.slice B2 m2 d2) (.int .i64 fr2)
              clear Vx Vp Rx HS cx0 cx1 cp0 cp1 fx0 fx1 fp0 fp1
              generalize (wg.setCell ⟨g0, 0, none⟩ (.slice B2 m2 d2)).setCell ⟨g0, 1, none⟩ (.int .i64 fr2) = z16_ at *
              have Vx := Vx2; have Vp := Vp2; have Rx := Rx2; have HS := HS2
              clear Vx2 Vp2 Rx2 HS2
              replace hS := HS
              have cp0 : z16_.cell? ⟨sp, 0, none⟩ = some (.int .i64 0) := (blk_cell Vp 0).trans rfl
              have cp1 : z16_.cell? ⟨sp, 1, none⟩ = some (.int .i64 0) := (blk_cell Vp 1).trans rfl
              have fp0 : z16_.frozen? ⟨sp, 0, none⟩ = false := blk_frozen Vp 0
              have fp1 : z16_.frozen? ⟨sp, 1, none⟩ = false := blk_frozen Vp 1
              refine Shut.out hK _ _ hS (fun _ => ?_)
              clear hK K
              try simp only [Act.put, List.setIfInBounds_toArray, List.set_cons_zero, List.set_cons_succ]
              refine wpAnyH_ready (rs := [17]) (by kernel_rfl) (by simp) (AllReadyH.cons (o := ⟨none, .store 26 (.tmp 12) (.tmp 112), 0, "law.go:101", #[⟨15, .data⟩, ⟨12, .data⟩, ⟨16, .chain⟩, ⟨0, .phase⟩, ⟨1, .phase⟩, ⟨2, .phase⟩, ⟨3, .phase⟩, ⟨4, .phase⟩, ⟨5, .phase⟩, ⟨6, .phase⟩, ⟨7, .phase⟩, ⟨8, .phase⟩, ⟨9, .phase⟩, ⟨10, .phase⟩, ⟨11, .phase⟩, ⟨12, .phase⟩, ⟨13, .textOnly .lateStores⟩, ⟨14, .phase⟩, ⟨15, .phase⟩, ⟨16, .phase⟩], none⟩) rfl (fun K hK => ?_) AllReadyH.nil)
              go_simp
              have Vp2 := blk_pair Vp (.int .i64 h2_) (.int .i64 t2_)
              have Vx2 := keep_pair Vx nxp (.int .i64 h2_) (.int .i64 t2_)
              have Rx2 := Ro.pair Rx Vp (by decide) (Nat.le_trans gw0 gep) (.int .i64 h2_) (.int .i64 t2_)
              have HS2 := bel_pair HS gep (.int .i64 h2_) (.int .i64 t2_)
              clear Vx Vp Rx HS cp0 cp1 fp0 fp1
              generalize (z16_.setCell ⟨sp, 0, none⟩ (.int .i64 h2_)).setCell ⟨sp, 1, none⟩ (.int .i64 t2_) = z17_ at *
              have Vx := Vx2; have Vp := Vp2; have Rx := Rx2; have HS := HS2
              clear Vx2 Vp2 Rx2 HS2
              replace hS := HS
              refine Shut.out hK _ _ hS (fun _ => ?_)
              clear hK K
              try simp only [Act.put, List.setIfInBounds_toArray, List.set_cons_zero, List.set_cons_succ]
              refine wpAnyH_take (i := 18) (oi := ⟨some 13, .assign (.tmp 113), 29, "law.go:101", #[⟨13, .data⟩, ⟨17, .chain⟩, ⟨0, .phase⟩, ⟨1, .phase⟩, ⟨2, .phase⟩, ⟨3, .phase⟩, ⟨4, .phase⟩, ⟨5, .phase⟩, ⟨6, .phase⟩, ⟨7, .phase⟩, ⟨8, .phase⟩, ⟨9, .phase⟩, ⟨10, .phase⟩, ⟨11, .phase⟩, ⟨12, .phase⟩, ⟨13, .phase⟩, ⟨14, .phase⟩, ⟨15, .phase⟩, ⟨16, .phase⟩, ⟨17, .phase⟩], none⟩) (v := ?_) rfl (by kernel_rfl) (by kernel_rfl) (by kernel_rfl) (fun _ _ _ h => h) (Or.inl ⟨by rfl, ?_⟩) hS ?_
              rotate_left
              · intro wv _; go_simp; try with_reducible rfl
              try simp only [Act.put, List.setIfInBounds_toArray, List.set_cons_zero, List.set_cons_succ]
              refine wpAnyH_done (by kernel_rfl) ?_ _
              refine NoPanic.normal ?_
              go_wp2_with fail
              go_meet
              exact ⟨g0, sp, B2, m2, d2, rfl, rfl, rfl, Lib.hid Vx, Lib.hid Vp, Lib.hid Rx, Lib.hid HS, gex, gep⟩
            ·
             go_simp
             have zs : g0 ≤ g0 := Nat.le_refl _
             have bd : Below g0 wr (wr.alloc (.cells #[.int .i64 0, .int .i64 0] 26)) := by have h := (Below.refl wr.heap.size wr).alloc (Nat.le_refl _) (.cells #[.int .i64 0, .int .i64 0] 26); rwa [hg0] at h
             have Vp : (wr.alloc (.cells #[.int .i64 0, .int .i64 0] 26)).heap[g0]? = some (.cells #[.int .i64 0, .int .i64 0] 26) := by have h := heap_alloc_new wr (.cells #[.int .i64 0, .int .i64 0] 26); rw [hg0] at h; exact h
             have gep : g0 ≤ g0 := zs
             replace HS := HS.trans (bd.mono zs)
             clear bd zs
             generalize wr.alloc (.cells #[.int .i64 0, .int .i64 0] 26) = y1_ at *
             replace hS := HS.drew
             go_wp2_with fail
             refine Shut.out hK _ _ hS (fun _ => ?_)
             clear hK K
             try simp only [Act.put, List.setIfInBounds_toArray, List.set_cons_zero, List.set_cons_succ]
             refine wpAnyH_ready (rs := [9, 14]) (by kernel_rfl) (by simp) (AllReadyH.cons (o := ⟨some 110, .call { callee := .value (.func 21), args := #[.tmp 101, .tmp 102, .const (Value.int IntKind.i64 3), .tmp 103, .tmp 109], argTypes := #[24, 26, 3, 3, 4] }, 32, "law.go:101", #[⟨0, .data⟩, ⟨1, .data⟩, ⟨2, .data⟩, ⟨8, .data⟩], none⟩) rfl (fun K hK => ?_) (AllReadyH.cons (o := ⟨some 11, .alloc 24, 0, "law.go:101", #[], none⟩) rfl (fun K hK => ?_) AllReadyH.nil))
             ·
              go_simp
              have HSw : Below g0 wr y1_.drew := HS.drew
              refine (CT.out y1_.drew (Ro.below Ra.out (BZ.out _ HSw))).mono ?_
              rintro e wg ⟨B2, m2, d2, rfl, hrr, hb⟩
              have zs : g0 ≤ y1_.drew.heap.size := by have h1 := HSw.size; rw [hg0] at h1; exact h1
              replace Vp := blk_below (show y1_.drew.heap[_]? = _ from Vp) hb (blk_lt Vp)
              have Rx := hrr
              replace HS := HSw.trans (hb.mono zs)
              clear HSw hb hrr zs
              replace hS := HS
              go_wp2_with fail
              refine Shut.out hK _ _ hS (fun _ => ?_)
              clear hK K
              try simp only [Act.put, List.setIfInBounds_toArray, List.set_cons_zero, List.set_cons_succ]
              refine wpAnyH_take (i := 10) (oi := ⟨some 100, .move (.tmp 110), 32, "law.go:101", #[⟨9, .data⟩], none⟩) (v := ?_) rfl (by kernel_rfl) (by kernel_rfl) (by kernel_rfl) (fun _ _ _ h => h) (Or.inl ⟨by rfl, ?_⟩) hS ?_
              rotate_left
              · intro wv _; go_simp; try with_reducible rfl
              try simp only [Act.put, List.setIfInBounds_toArray, List.set_cons_zero, List.set_cons_succ]
              refine wpAnyH_take (i := 11) (oi := ⟨some 111, .extract (.tmp 100) 0, 24, "law.go:101", #[⟨10, .data⟩], none⟩) (v := ?_) rfl (by kernel_rfl) (by kernel_rfl) (by kernel_rfl) (fun _ _ _ h => h) (Or.inl ⟨by rfl, ?_⟩) hS ?_
              rotate_left
              · intro wv _; go_simp; try with_reducible rfl
              try simp only [Act.put, List.setIfInBounds_toArray, List.set_cons_zero, List.set_cons_succ]
              refine wpAnyH_take (i := 12) (oi := ⟨some 112, .extract (.tmp 100) 1, 26, "law.go:101", #[⟨10, .data⟩, ⟨16, .gcOnly .lateStores⟩], none⟩) (v := ?_) rfl (by kernel_rfl) (by kernel_rfl) (by kernel_rfl) (fun _ _ _ h => h) (Or.inl ⟨by rfl, ?_⟩) hS ?_
              rotate_left
              · intro wv _; go_simp; try with_reducible rfl
              try simp only [Act.put, List.setIfInBounds_toArray, List.set_cons_zero, List.set_cons_succ]
              refine wpAnyH_take (i := 13) (oi := ⟨some 113, .extract (.tmp 100) 2, 29, "law.go:101", #[⟨10, .data⟩, ⟨17, .gcOnly .lateStores⟩], none⟩) (v := ?_) rfl (by kernel_rfl) (by kernel_rfl) (by kernel_rfl) (fun _ _ _ h => h) (Or.inl ⟨by rfl, ?_⟩) hS ?_
              rotate_left
              · intro wv _; go_simp; try with_reducible rfl
              try simp only [Act.put, List.setIfInBounds_toArray, List.set_cons_zero, List.set_cons_succ]
              refine wpAnyH_ready (rs := [14]) (by kernel_rfl) (by simp) (AllReadyH.cons (o := ⟨some 11, .alloc 24, 0, "law.go:101", #[], none⟩) rfl (fun K hK => ?_) AllReadyH.nil)
              go_simp
              have zs : g0 ≤ wg.heap.size := by have h1 := HS.size; rw [hg0] at h1; exact h1
              have bd : Below wg.heap.size wg (wg.alloc (.cells #[.slice none 0 0, .int .i64 0] 24)) := (Below.refl _ _).alloc (Nat.le_refl _) _
              replace Vp := blk_below Vp bd (blk_lt Vp)
              replace Rx := Ro.below Rx bd
              have Vx : (wg.alloc (.cells #[.slice none 0 0, .int .i64 0] 24)).heap[wg.heap.size]? = some (.cells #[.slice none 0 0, .int .i64 0] 24) := heap_alloc_new _ _
              have gex : g0 ≤ wg.heap.size := zs
              replace HS := HS.trans (bd.mono zs)
              clear bd zs
              generalize wg.alloc (.cells #[.slice none 0 0, .int .i64 0] 24) = y2_ at *
              generalize hsx_ : wg.heap.size = sx at *
              replace hS := HS
              have cx0 : y2_.cell? ⟨sx, 0, none⟩ = some (.slice none 0 0) := (blk_cell Vx 0).trans rfl
              have cx1 : y2_.cell? ⟨sx, 1, none⟩ = some (.int .i64 0) := (blk_cell Vx 1).trans rfl
              have fx0 : y2_.frozen? ⟨sx, 0, none⟩ = false := blk_frozen Vx 0
              have fx1 : y2_.frozen? ⟨sx, 1, none⟩ = false := blk_frozen Vx 1
              have cp0 : y2_.cell? ⟨g0, 0, none⟩ = some (.int .i64 0) := (blk_cell Vp 0).trans rfl
              have cp1 : y2_.cell? ⟨g0, 1, none⟩ = some (.int .i64 0) := (blk_cell Vp 1).trans rfl
              have fp0 : y2_.frozen? ⟨g0, 0, none⟩ = false := blk_frozen Vp 0
              have fp1 : y2_.frozen? ⟨g0, 1, none⟩ = false := blk_frozen Vp 1
              have nxp : sx ≠ g0 := blk_ne Vx Vp (by decide)
              have npx := nxp.symm
              go_wp2_with fail
              refine Shut.out hK _ _ hS (fun _ => ?_)
              clear hK K
              try simp only [Act.put, List.setIfInBounds_toArray, List.set_cons_zero, List.set_cons_succ]
              refine wpAnyH_ready (rs := [16]) (by kernel_rfl) (by simp) (AllReadyH.cons (o := ⟨none, .store 24 (.tmp 11) (.tmp 111), 0, "law.go:101", #[⟨14, .data⟩, ⟨11, .data⟩, ⟨9, .chain⟩, ⟨0, .phase⟩, ⟨1, .phase⟩, ⟨2, .phase⟩, ⟨3, .phase⟩, ⟨4, .phase⟩, ⟨5, .phase⟩, ⟨6, .phase⟩, ⟨7, .phase⟩, ⟨8, .phase⟩, ⟨9, .phase⟩, ⟨10, .phase⟩, ⟨11, .phase⟩, ⟨12, .textOnly .lateStores⟩, ⟨13, .textOnly .lateStores⟩, ⟨14, .phase⟩, ⟨15, .phase⟩], none⟩) rfl (fun K hK => ?_) AllReadyH.nil)
              go_simp
              have Vx2 := blk_pair Vx (.slice B2 m2 d2) (.int .i64 fr2)
              have Vp2 := keep_pair Vp npx (.slice B2 m2 d2) (.int .i64 fr2)
              have Rx2 := Ro.pair Rx Vx (by decide) (Nat.le_trans gw0 gex) (.slice B2 m2 d2) (.int .i64 fr2)
              have HS2 := bel_pair HS gex (.slice B2 m2 d2) (.int .i64 fr2)
              clear Vx Vp Rx HS cx0 cx1 cp0 cp1 fx0 fx1 fp0 fp1
              generalize (y2_.setCell ⟨sx, 0, none⟩ (.slice B2 m2 d2)).setCell ⟨sx, 1, none⟩ (.int .i64 fr2) = z16_ at *
              have Vx := Vx2; have Vp := Vp2; have Rx := Rx2; have HS := HS2
              clear Vx2 Vp2 Rx2 HS2
              replace hS := HS
              have cp0 : z16_.cell? ⟨g0, 0, none⟩ = some (.int .i64 0) := (blk_cell Vp 0).trans rfl
              have cp1 : z16_.cell? ⟨g0, 1, none⟩ = some (.int .i64 0) := (blk_cell Vp 1).trans rfl
              have fp0 : z16_.frozen? ⟨g0, 0, none⟩ = false := blk_frozen Vp 0
              have fp1 : z16_.frozen? ⟨g0, 1, none⟩ = false := blk_frozen Vp 1
              refine Shut.out hK _ _ hS (fun _ => ?_)
              clear hK K
              try simp only [Act.put, List.setIfInBounds_toArray, List.set_cons_zero, List.set_cons_succ]
              refine wpAnyH_ready (rs := [17]) (by kernel_rfl) (by simp) (AllReadyH.cons (o := ⟨none, .store 26 (.tmp 12) (.tmp 112), 0, "law.go:101", #[⟨15, .data⟩, ⟨12, .data⟩, ⟨16, .chain⟩, ⟨0, .phase⟩, ⟨1, .phase⟩, ⟨2, .phase⟩, ⟨3, .phase⟩, ⟨4, .phase⟩, ⟨5, .phase⟩, ⟨6, .phase⟩, ⟨7, .phase⟩, ⟨8, .phase⟩, ⟨9, .phase⟩, ⟨10, .phase⟩, ⟨11, .phase⟩, ⟨12, .phase⟩, ⟨13, .textOnly .lateStores⟩, ⟨14, .phase⟩, ⟨15, .phase⟩, ⟨16, .phase⟩], none⟩) rfl (fun K hK => ?_) AllReadyH.nil)
              go_simp
              have Vp2 := blk_pair Vp (.int .i64 h2_) (.int .i64 t2_)
              have Vx2 := keep_pair Vx nxp (.int .i64 h2_) (.int .i64 t2_)
              have Rx2 := Ro.pair Rx Vp (by decide) (Nat.le_trans gw0 gep) (.int .i64 h2_) (.int .i64 t2_)
              have HS2 := bel_pair HS gep (.int .i64 h2_) (.int .i64 t2_)
              clear Vx Vp Rx HS cp0 cp1 fp0 fp1
              generalize (z16_.setCell ⟨g0, 0, none⟩ (.int .i64 h2_)).setCell ⟨g0, 1, none⟩ (.int .i64 t2_) = z17_ at *
              have Vx := Vx2; have Vp := Vp2; have Rx := Rx2; have HS := HS2
              clear Vx2 Vp2 Rx2 HS2
              replace hS := HS
              refine Shut.out hK _ _ hS (fun _ => ?_)
              clear hK K
              try simp only [Act.put, List.setIfInBounds_toArray, List.set_cons_zero, List.set_cons_succ]
              refine wpAnyH_take (i := 18) (oi := ⟨some 13, .assign (.tmp 113), 29, "law.go:101", #[⟨13, .data⟩, ⟨17, .chain⟩, ⟨0, .phase⟩, ⟨1, .phase⟩, ⟨2, .phase⟩, ⟨3, .phase⟩, ⟨4, .phase⟩, ⟨5, .phase⟩, ⟨6, .phase⟩, ⟨7, .phase⟩, ⟨8, .phase⟩, ⟨9, .phase⟩, ⟨10, .phase⟩, ⟨11, .phase⟩, ⟨12, .phase⟩, ⟨13, .phase⟩, ⟨14, .phase⟩, ⟨15, .phase⟩, ⟨16, .phase⟩, ⟨17, .phase⟩], none⟩) (v := ?_) rfl (by kernel_rfl) (by kernel_rfl) (by kernel_rfl) (fun _ _ _ h => h) (Or.inl ⟨by rfl, ?_⟩) hS ?_
              rotate_left
              · intro wv _; go_simp; try with_reducible rfl
              try simp only [Act.put, List.setIfInBounds_toArray, List.set_cons_zero, List.set_cons_succ]
              refine wpAnyH_done (by kernel_rfl) ?_ _
              refine NoPanic.normal ?_
              go_wp2_with fail
              go_meet
              exact ⟨sx, g0, B2, m2, d2, rfl, rfl, rfl, Lib.hid Vx, Lib.hid Vp, Lib.hid Rx, Lib.hid HS, gex, gep⟩
             ·
              go_simp
              have zs : g0 ≤ y1_.heap.size := by have h1 := HS.size; rw [hg0] at h1; exact h1
              have bd : Below y1_.heap.size y1_ (y1_.alloc (.cells #[.slice none 0 0, .int .i64 0] 24)) := (Below.refl _ _).alloc (Nat.le_refl _) _
              replace Vp := blk_below Vp bd (blk_lt Vp)
              have Vx : (y1_.alloc (.cells #[.slice none 0 0, .int .i64 0] 24)).heap[y1_.heap.size]? = some (.cells #[.slice none 0 0, .int .i64 0] 24) := heap_alloc_new _ _
              have gex : g0 ≤ y1_.heap.size := zs
              replace HS := HS.trans (bd.mono zs)
              clear bd zs
              generalize y1_.alloc (.cells #[.slice none 0 0, .int .i64 0] 24) = y2_ at *
              generalize hsx_ : y1_.heap.size = sx at *
              replace hS := HS.drew
              go_wp2_with fail
              refine Shut.out hK _ _ hS (fun _ => ?_)
              clear hK K
              try simp only [Act.put, List.setIfInBounds_toArray, List.set_cons_zero, List.set_cons_succ]
              refine wpAnyH_ready (rs := [9]) (by kernel_rfl) (by simp) (AllReadyH.cons (o := ⟨some 110, .call { callee := .value (.func 21), args := #[.tmp 101, .tmp 102, .const (Value.int IntKind.i64 3), .tmp 103, .tmp 109], argTypes := #[24, 26, 3, 3, 4] }, 32, "law.go:101", #[⟨0, .data⟩, ⟨1, .data⟩, ⟨2, .data⟩, ⟨8, .data⟩], none⟩) rfl (fun K hK => ?_) AllReadyH.nil)
              go_simp
              have HSw : Below g0 wr y2_.drew := HS.drew
              refine (CT.out y2_.drew (Ro.below Ra.out (BZ.out _ HSw))).mono ?_
              rintro e wg ⟨B2, m2, d2, rfl, hrr, hb⟩
              have zs : g0 ≤ y2_.drew.heap.size := by have h1 := HSw.size; rw [hg0] at h1; exact h1
              replace Vp := blk_below (show y2_.drew.heap[_]? = _ from Vp) hb (blk_lt Vp)
              replace Vx := blk_below (show y2_.drew.heap[_]? = _ from Vx) hb (blk_lt Vx)
              have Rx := hrr
              replace HS := HSw.trans (hb.mono zs)
              clear HSw hb hrr zs
              replace hS := HS
              have cx0 : wg.cell? ⟨sx, 0, none⟩ = some (.slice none 0 0) := (blk_cell Vx 0).trans rfl
              have cx1 : wg.cell? ⟨sx, 1, none⟩ = some (.int .i64 0) := (blk_cell Vx 1).trans rfl
              have fx0 : wg.frozen? ⟨sx, 0, none⟩ = false := blk_frozen Vx 0
              have fx1 : wg.frozen? ⟨sx, 1, none⟩ = false := blk_frozen Vx 1
              have cp0 : wg.cell? ⟨g0, 0, none⟩ = some (.int .i64 0) := (blk_cell Vp 0).trans rfl
              have cp1 : wg.cell? ⟨g0, 1, none⟩ = some (.int .i64 0) := (blk_cell Vp 1).trans rfl
              have fp0 : wg.frozen? ⟨g0, 0, none⟩ = false := blk_frozen Vp 0
              have fp1 : wg.frozen? ⟨g0, 1, none⟩ = false := blk_frozen Vp 1
              have nxp : sx ≠ g0 := blk_ne Vx Vp (by decide)
              have npx := nxp.symm
              go_wp2_with fail
              refine Shut.out hK _ _ hS (fun _ => ?_)
              clear hK K
              try simp only [Act.put, List.setIfInBounds_toArray, List.set_cons_zero, List.set_cons_succ]
              refine wpAnyH_take (i := 10) (oi := ⟨some 100, .move (.tmp 110), 32, "law.go:101", #[⟨9, .data⟩], none⟩) (v := ?_) rfl (by kernel_rfl) (by kernel_rfl) (by kernel_rfl) (fun _ _ _ h => h) (Or.inl ⟨by rfl, ?_⟩) hS ?_
              rotate_left
              · intro wv _; go_simp; try with_reducible rfl
              try simp only [Act.put, List.setIfInBounds_toArray, List.set_cons_zero, List.set_cons_succ]
              refine wpAnyH_take (i := 11) (oi := ⟨some 111, .extract (.tmp 100) 0, 24, "law.go:101", #[⟨10, .data⟩], none⟩) (v := ?_) rfl (by kernel_rfl) (by kernel_rfl) (by kernel_rfl) (fun _ _ _ h => h) (Or.inl ⟨by rfl, ?_⟩) hS ?_
              rotate_left
              · intro wv _; go_simp; try with_reducible rfl
              try simp only [Act.put, List.setIfInBounds_toArray, List.set_cons_zero, List.set_cons_succ]
              refine wpAnyH_take (i := 12) (oi := ⟨some 112, .extract (.tmp 100) 1, 26, "law.go:101", #[⟨10, .data⟩, ⟨16, .gcOnly .lateStores⟩], none⟩) (v := ?_) rfl (by kernel_rfl) (by kernel_rfl) (by kernel_rfl) (fun _ _ _ h => h) (Or.inl ⟨by rfl, ?_⟩) hS ?_
              rotate_left
              · intro wv _; go_simp; try with_reducible rfl
              try simp only [Act.put, List.setIfInBounds_toArray, List.set_cons_zero, List.set_cons_succ]
              refine wpAnyH_take (i := 13) (oi := ⟨some 113, .extract (.tmp 100) 2, 29, "law.go:101", #[⟨10, .data⟩, ⟨17, .gcOnly .lateStores⟩], none⟩) (v := ?_) rfl (by kernel_rfl) (by kernel_rfl) (by kernel_rfl) (fun _ _ _ h => h) (Or.inl ⟨by rfl, ?_⟩) hS ?_
              rotate_left
              · intro wv _; go_simp; try with_reducible rfl
              try simp only [Act.put, List.setIfInBounds_toArray, List.set_cons_zero, List.set_cons_succ]
              refine wpAnyH_ready (rs := [16]) (by kernel_rfl) (by simp) (AllReadyH.cons (o := ⟨none, .store 24 (.tmp 11) (.tmp 111), 0, "law.go:101", #[⟨14, .data⟩, ⟨11, .data⟩, ⟨9, .chain⟩, ⟨0, .phase⟩, ⟨1, .phase⟩, ⟨2, .phase⟩, ⟨3, .phase⟩, ⟨4, .phase⟩, ⟨5, .phase⟩, ⟨6, .phase⟩, ⟨7, .phase⟩, ⟨8, .phase⟩, ⟨9, .phase⟩, ⟨10, .phase⟩, ⟨11, .phase⟩, ⟨12, .textOnly .lateStores⟩, ⟨13, .textOnly .lateStores⟩, ⟨14, .phase⟩, ⟨15, .phase⟩], none⟩) rfl (fun K hK => ?_) AllReadyH.nil)
              go_simp
              have Vx2 := blk_pair Vx (.slice B2 m2 d2) (.int .i64 fr2)
              have Vp2 := keep_pair Vp npx (.slice B2 m2 d2) (.int .i64 fr2)
              have Rx2 := Ro.pair Rx Vx (by decide) (Nat.le_trans gw0 gex) (.slice B2 m2 d2) (.int .i64 fr2)
              have HS2 := bel_pair HS gex (.slice B2 m2 d2) (.int .i64 fr2)
              clear Vx Vp Rx HS cx0 cx1 cp0 cp1 fx0 fx1 fp0 fp1
              generalize (wg.setCell ⟨sx, 0, none⟩ (.slice B2 m2 d2)).setCell ⟨sx, 1, none⟩ (.int .i64 fr2) = z16_ at *
              have Vx := Vx2; have Vp := Vp2; have Rx := Rx2; have HS := HS2
              clear Vx2 Vp2 Rx2 HS2
              replace hS := HS
              have cp0 : z16_.cell? ⟨g0, 0, none⟩ = some (.int .i64 0) := (blk_cell Vp 0).trans rfl
              have cp1 : z16_.cell? ⟨g0, 1, none⟩ = some (.int .i64 0) := (blk_cell Vp 1).trans rfl
              have fp0 : z16_.frozen? ⟨g0, 0, none⟩ = false := blk_frozen Vp 0
              have fp1 : z16_.frozen? ⟨g0, 1, none⟩ = false := blk_frozen Vp 1
              refine Shut.out hK _ _ hS (fun _ => ?_)
              clear hK K
              try simp only [Act.put, List.setIfInBounds_toArray, List.set_cons_zero, List.set_cons_succ]
              refine wpAnyH_ready (rs := [17]) (by kernel_rfl) (by simp) (AllReadyH.cons (o := ⟨none, .store 26 (.tmp 12) (.tmp 112), 0, "law.go:101", #[⟨15, .data⟩, ⟨12, .data⟩, ⟨16, .chain⟩, ⟨0, .phase⟩, ⟨1, .phase⟩, ⟨2, .phase⟩, ⟨3, .phase⟩, ⟨4, .phase⟩, ⟨5, .phase⟩, ⟨6, .phase⟩, ⟨7, .phase⟩, ⟨8, .phase⟩, ⟨9, .phase⟩, ⟨10, .phase⟩, ⟨11, .phase⟩, ⟨12, .phase⟩, ⟨13, .textOnly .lateStores⟩, ⟨14, .phase⟩, ⟨15, .phase⟩, ⟨16, .phase⟩], none⟩) rfl (fun K hK => ?_) AllReadyH.nil)
              go_simp
              have Vp2 := blk_pair Vp (.int .i64 h2_) (.int .i64 t2_)
              have Vx2 := keep_pair Vx nxp (.int .i64 h2_) (.int .i64 t2_)
              have Rx2 := Ro.pair Rx Vp (by decide) (Nat.le_trans gw0 gep) (.int .i64 h2_) (.int .i64 t2_)
              have HS2 := bel_pair HS gep (.int .i64 h2_) (.int .i64 t2_)
              clear Vx Vp Rx HS cp0 cp1 fp0 fp1
              generalize (z16_.setCell ⟨g0, 0, none⟩ (.int .i64 h2_)).setCell ⟨g0, 1, none⟩ (.int .i64 t2_) = z17_ at *
              have Vx := Vx2; have Vp := Vp2; have Rx := Rx2; have HS := HS2
              clear Vx2 Vp2 Rx2 HS2
              replace hS := HS
              refine Shut.out hK _ _ hS (fun _ => ?_)
              clear hK K
              try simp only [Act.put, List.setIfInBounds_toArray, List.set_cons_zero, List.set_cons_succ]
              refine wpAnyH_take (i := 18) (oi := ⟨some 13, .assign (.tmp 113), 29, "law.go:101", #[⟨13, .data⟩, ⟨17, .chain⟩, ⟨0, .phase⟩, ⟨1, .phase⟩, ⟨2, .phase⟩, ⟨3, .phase⟩, ⟨4, .phase⟩, ⟨5, .phase⟩, ⟨6, .phase⟩, ⟨7, .phase⟩, ⟨8, .phase⟩, ⟨9, .phase⟩, ⟨10, .phase⟩, ⟨11, .phase⟩, ⟨12, .phase⟩, ⟨13, .phase⟩, ⟨14, .phase⟩, ⟨15, .phase⟩, ⟨16, .phase⟩, ⟨17, .phase⟩], none⟩) (v := ?_) rfl (by kernel_rfl) (by kernel_rfl) (by kernel_rfl) (fun _ _ _ h => h) (Or.inl ⟨by rfl, ?_⟩) hS ?_
              rotate_left
              · intro wv _; go_simp; try with_reducible rfl
              try simp only [Act.put, List.setIfInBounds_toArray, List.set_cons_zero, List.set_cons_succ]
              refine wpAnyH_done (by kernel_rfl) ?_ _
              refine NoPanic.normal ?_
              go_wp2_with fail
              go_meet
              exact ⟨sx, g0, B2, m2, d2, rfl, rfl, rfl, Lib.hid Vx, Lib.hid Vp, Lib.hid Rx, Lib.hid HS, gex, gep⟩
          case rest =>
          obtain ⟨sx, sp, B2, m2, d2, rfl, rfl, rfl, Vx, Vp, Rx, hS, gex, gep⟩ := hcut
          obtain ⟨wd, hwd⟩ : ∃ x, x = wc := ⟨_, rfl⟩
          subst hwd
          have hb := BZ.out _ hS.out
          have lta := blk_lt Va.out
          have ltq := blk_lt Vq.out
          rw [hg0] at lta ltq
          have nea_x : sa ≠ sx := by omega
          have neq_x : sq ≠ sx := by omega
          have nea_p : sa ≠ sp := by omega
          have neq_p : sq ≠ sp := by omega
          have hc2 := (hb.cell (p := ⟨b, off + i, none⟩) (by rw [hg0]; exact hbb)).trans hlc.out
          replace HB := Lib.hid (show Below w.heap.size w wr ∧ w.heap.size ≤ wr.heap.size from ⟨HB.out.1, by rw [hg0]; exact HB.out.2⟩)
          replace Va := Lib.hid (blk_below Va.out hb (blk_lt Va.out))
          replace Vq := Lib.hid (blk_below Vq.out hb (blk_lt Vq.out))
          replace Ra := Lib.hid (Ro.below Ra.out hb)
          replace Oo := Lib.hid (own_below Oo.out hb)
          replace HB := Lib.hid (And.intro (HB.out.1.trans (hb.mono HB.out.2)) (Nat.le_trans HB.out.2 hb.size))
          clear hb BZ HS hc lta ltq hg0
          obtain ⟨hol, hos⟩ := HOS.out
          rcases TP.out with ⟨hfull, her, fl2, l2, hq2⟩ | ⟨hroom, her, fl2, l2, hq2⟩
          · as_aux_lemma =>
             have b3 : (er == 0) = false := by simp [her]
             have b4 : decide ((ol : Int) < (z : Int)) = false := by simp; omega
             have b5 : decide (ol < z) = false := by simp; omega
             have TQ2 := Lib.hid hq2
             have YO2 := Lib.hid YO.out.mono
             clear hfull her hq2 hol hos TP CT HOS
             have gxa := nea_x; have gxq := neq_x; have gpa := nea_p; have gpq := neq_p
             have gxa' := gxa.symm; have gxq' := gxq.symm; have gpa' := gpa.symm; have gpq' := gpq.symm; have naq' := naq.symm
             have ca0 : wd.cell? ⟨sa, 0, none⟩ = some (.slice B m d) := (blk_cell Va.out 0).trans rfl
             have fa0 : wd.frozen? ⟨sa, 0, none⟩ = false := blk_frozen Va.out 0
             have ca1 : wd.cell? ⟨sa, 1, none⟩ = some (.int .i64 fr) := (blk_cell Va.out 1).trans rfl
             have fa1 : wd.frozen? ⟨sa, 1, none⟩ = false := blk_frozen Va.out 1
             have cq0 : wd.cell? ⟨sq, 0, none⟩ = some (.int .i64 hd) := (blk_cell Vq.out 0).trans rfl
             have fq0 : wd.frozen? ⟨sq, 0, none⟩ = false := blk_frozen Vq.out 0
             have cq1 : wd.cell? ⟨sq, 1, none⟩ = some (.int .i64 tl) := (blk_cell Vq.out 1).trans rfl
             have fq1 : wd.frozen? ⟨sq, 1, none⟩ = false := blk_frozen Vq.out 1
             have cx0 : wd.cell? ⟨sx, 0, none⟩ = some (.slice B2 m2 d2) := (blk_cell Vx.out 0).trans rfl
             have cx1 : wd.cell? ⟨sx, 1, none⟩ = some (.int .i64 fr2) := (blk_cell Vx.out 1).trans rfl
             have cp0 : wd.cell? ⟨sp, 0, none⟩ = some (.int .i64 h2_) := (blk_cell Vp.out 0).trans rfl
             have cp1 : wd.cell? ⟨sp, 1, none⟩ = some (.int .i64 t2_) := (blk_cell Vp.out 1).trans rfl
             have FA := Lib.hid (keep_pair (blk_pair Va.out (.slice B2 m2 d2) (.int .i64 fr2)) naq (.int .i64 h2_) (.int .i64 t2_))
             have FQ := Lib.hid (blk_pair (keep_pair Vq.out naq.symm (.slice B2 m2 d2) (.int .i64 fr2)) (.int .i64 h2_) (.int .i64 t2_))
             have FR := Lib.hid ((Rx.out.pair Va.out (by decide) gea (.slice B2 m2 d2) (.int .i64 fr2)).pair (keep_pair Vq.out naq.symm (.slice B2 m2 d2) (.int .i64 fr2)) (by decide) geq (.int .i64 h2_) (.int .i64 t2_)).drew
             have FO := Lib.hid (own_pair (own_pair Oo.out Va.out (by decide) (.slice B2 m2 d2) (.int .i64 fr2)) (keep_pair Vq.out naq.symm (.slice B2 m2 d2) (.int .i64 fr2)) (by decide) (.int .i64 h2_) (.int .i64 t2_))
             have FB := Lib.hid (bel_pair (bel_pair HB.out.1 gea (.slice B2 m2 d2) (.int .i64 fr2)) geq (.int .i64 h2_) (.int .i64 t2_)).drew
             have FS := Lib.hid HB.out.2
             go_wp2_with fail
             go_region
             go_wp2
             go_roundw
             case rel => exact ⟨i + 1, ol, oc, OA, _, _, _, _, _, _, _, _, _, _, rfl, by go_num, by omega, FA.out, FQ.out, FR.out, TQ2.out, YO2.out, Lib.hid ⟨FO.out.1, FO.out.2⟩, Lib.hid ⟨FB.out, by simpa [World.setCell] using FS.out⟩⟩
             case measure => simp [intOf]; omega
          · have b3 : (er == 0) = true := by simp [her]
            have b4 : decide ((ol : Int) < (z : Int)) = true := by simp; omega
            have b5 : decide (ol < z) = true := by simp; omega
            have hol3 : ol ≤ 20 := by omega
            have TQ2 := Lib.hid hq2
            have YO2 := Lib.hid (YO.out.push FB)
            clear hroom her hq2 hol hos TP CT HOS
            cases FB
            · as_aux_lemma =>
               have b6 : (y % 4 == 1) = false := HFB.out
               have bl : Below wd.heap.size wd (wd.alloc (.cells #[.int .i64 (i : Int)] 3)) := (Below.refl _ _).alloc (Nat.le_refl _) _
               have Ool : (wd.alloc (.cells #[.int .i64 (i : Int)] 3)).ownsRow w.heap.size 3 1 (.slice OA ol oc) ol (intC own) := own_below Oo.out bl
               obtain ⟨A3, c3, w9, hap, hown, hgr⟩ := app_ints (wd.alloc (.cells #[.int .i64 (i : Int)] 3)) w.heap.size _ ol own Ool _ 1 1 [(i : Int)] (is_lit wd [(i : Int)] rfl) (by omega) (by have := HB.out.2; simp; omega)
               replace hap : (Builtin.append_ #[37, 37] 37 #[.slice OA ol oc, .slice (some ⟨wd.heap.size, 0, none⟩) 1 1]).run Try.prog (wd.alloc (.cells #[.int .i64 (i : Int)] 3)) = _ := hap
               replace Va := Lib.hid (keep_grown (blk_below Va.out bl (blk_lt Va.out)) hgr (row_int Ool) (by decide))
               replace Vq := Lib.hid (keep_grown (blk_below Vq.out bl (blk_lt Vq.out)) hgr (row_int Ool) (by decide))
               replace Vx := Lib.hid (keep_grown (blk_below Vx.out bl (blk_lt Vx.out)) hgr (row_int Ool) (by decide))
               replace Vp := Lib.hid (keep_grown (blk_below Vp.out bl (blk_lt Vp.out)) hgr (row_int Ool) (by decide))
               replace Ra := Lib.hid (Ro.grown (Ro.below Ra.out bl) hgr Ool (by decide) (Nat.le_refl _))
               replace Rx := Lib.hid (Ro.grown (Ro.below Rx.out bl) hgr Ool (by decide) (Nat.le_refl _))
               replace HB := Lib.hid (And.intro (Below.grown (HB.out.1.trans (bl.mono HB.out.2)) hgr (by have := HB.out.2; simp; omega) (fun k hk => (Ool.lt k hk).1)) (Nat.le_trans (Nat.le_trans HB.out.2 bl.size) hgr.size))
               obtain ⟨o1, ho1⟩ : ∃ x, ol + 1 = x := ⟨_, rfl⟩
               rw [ho1] at hap hown
               clear Oo
               have Oo := Lib.hid (show w9.ownsRow w.heap.size 3 1 (.slice A3 o1 c3) o1 (intC (pushL own (i : Int) false)) from hown)
               clear hown hgr bl Ool ho1
               have gxa := nea_x; have gxq := neq_x; have gpa := nea_p; have gpq := neq_p
               have gxa' := gxa.symm; have gxq' := gxq.symm; have gpa' := gpa.symm; have gpq' := gpq.symm; have naq' := naq.symm
               have ca0 : w9.cell? ⟨sa, 0, none⟩ = some (.slice B m d) := (blk_cell Va.out 0).trans rfl
               have fa0 : w9.frozen? ⟨sa, 0, none⟩ = false := blk_frozen Va.out 0
               have ca1 : w9.cell? ⟨sa, 1, none⟩ = some (.int .i64 fr) := (blk_cell Va.out 1).trans rfl
               have fa1 : w9.frozen? ⟨sa, 1, none⟩ = false := blk_frozen Va.out 1
               have cq0 : w9.cell? ⟨sq, 0, none⟩ = some (.int .i64 hd) := (blk_cell Vq.out 0).trans rfl
               have fq0 : w9.frozen? ⟨sq, 0, none⟩ = false := blk_frozen Vq.out 0
               have cq1 : w9.cell? ⟨sq, 1, none⟩ = some (.int .i64 tl) := (blk_cell Vq.out 1).trans rfl
               have fq1 : w9.frozen? ⟨sq, 1, none⟩ = false := blk_frozen Vq.out 1
               have cx0 : w9.cell? ⟨sx, 0, none⟩ = some (.slice B2 m2 d2) := (blk_cell Vx.out 0).trans rfl
               have cx1 : w9.cell? ⟨sx, 1, none⟩ = some (.int .i64 fr2) := (blk_cell Vx.out 1).trans rfl
               have cp0 : w9.cell? ⟨sp, 0, none⟩ = some (.int .i64 h2_) := (blk_cell Vp.out 0).trans rfl
               have cp1 : w9.cell? ⟨sp, 1, none⟩ = some (.int .i64 t2_) := (blk_cell Vp.out 1).trans rfl
               have FA := Lib.hid (keep_pair (blk_pair Va.out (.slice B2 m2 d2) (.int .i64 fr2)) naq (.int .i64 h2_) (.int .i64 t2_))
               have FQ := Lib.hid (blk_pair (keep_pair Vq.out naq.symm (.slice B2 m2 d2) (.int .i64 fr2)) (.int .i64 h2_) (.int .i64 t2_))
               have FR := Lib.hid ((Rx.out.pair Va.out (by decide) gea (.slice B2 m2 d2) (.int .i64 fr2)).pair (keep_pair Vq.out naq.symm (.slice B2 m2 d2) (.int .i64 fr2)) (by decide) geq (.int .i64 h2_) (.int .i64 t2_)).drew
               have FO := Lib.hid (own_pair (own_pair Oo.out Va.out (by decide) (.slice B2 m2 d2) (.int .i64 fr2)) (keep_pair Vq.out naq.symm (.slice B2 m2 d2) (.int .i64 fr2)) (by decide) (.int .i64 h2_) (.int .i64 t2_))
               have FB := Lib.hid (bel_pair (bel_pair HB.out.1 gea (.slice B2 m2 d2) (.int .i64 fr2)) geq (.int .i64 h2_) (.int .i64 t2_)).drew
               have FS := Lib.hid HB.out.2
               go_upto_region 32 with (at_builtin; refine eapp_run (by rfl) rfl rfl rfl hap ?_)
               go_region
               go_wp2
               go_roundw
               case rel => exact ⟨i + 1, o1, c3, A3, _, _, _, _, _, _, _, _, _, _, rfl, by go_num, by omega, FA.out, FQ.out, FR.out, TQ2.out, YO2.out, Lib.hid ⟨FO.out.1, FO.out.2⟩, Lib.hid ⟨FB.out, by simpa [World.setCell] using FS.out⟩⟩
               case measure => simp [intOf]; omega
            · as_aux_lemma =>
               have b6 : (y % 4 == 1) = true := HFB.out
               obtain ⟨_, _, he, hoi⟩ := Es.of_own Oo.out (intC_one _)
               injection he with he1 he2 he3; subst he1; subst he3
               have bl : Below wd.heap.size wd (wd.alloc (.cells #[.int .i64 (i : Int)] 3)) := (Below.refl _ _).alloc (Nat.le_refl _) _
               have ow : (wd.alloc (.cells #[.int .i64 (i : Int)] 3)).ownsRow wd.heap.size 3 1 (.slice (some ⟨wd.heap.size, 0, none⟩) 1 1) 1 (intC [(i : Int)]) := lit_ints wd (base := wd.heap.size) (Nat.le_refl _) [(i : Int)] (by simp) (m := 1) rfl
               obtain ⟨A3, c3, w9, hap, hown, hgr⟩ := app_ints (wd.alloc (.cells #[.int .i64 (i : Int)] 3)) wd.heap.size _ 1 [(i : Int)] ow OA ol oc _ (Es.below hoi bl) (by omega) (by simp)
               replace hap : (Builtin.append_ #[37, 37] 37 #[.slice (some ⟨wd.heap.size, 0, none⟩) 1 1, .slice OA ol oc]).run Try.prog (wd.alloc (.cells #[.int .i64 (i : Int)] 3)) = _ := hap
               have hb : Below wd.heap.size wd w9 := bl.grown hgr (by simp) (fun k hk => (ow.lt k hk).1)
               have gO := HB.out.2
               obtain ⟨o1, ho1⟩ : ∃ x, 1 + ol = x := ⟨_, rfl⟩
               rw [ho1] at hap hown
               have ON := Lib.hid (show w9.ownsRow w.heap.size 3 1 (.slice A3 o1 c3) o1 (intC (pushL own (i : Int) true)) from own_base hown gO)
               clear hown hgr bl ow hoi gO Oo ho1
               replace Va := Lib.hid (blk_below Va.out hb (blk_lt Va.out))
               replace Vq := Lib.hid (blk_below Vq.out hb (blk_lt Vq.out))
               replace Vx := Lib.hid (blk_below Vx.out hb (blk_lt Vx.out))
               replace Vp := Lib.hid (blk_below Vp.out hb (blk_lt Vp.out))
               replace Ra := Lib.hid (Ro.below Ra.out hb)
               replace Rx := Lib.hid (Ro.below Rx.out hb)
               replace HB := Lib.hid (And.intro (HB.out.1.trans (hb.mono HB.out.2)) (Nat.le_trans HB.out.2 hb.size))
               have Oo := ON
               clear hb
               have gxa := nea_x; have gxq := neq_x; have gpa := nea_p; have gpq := neq_p
               have gxa' := gxa.symm; have gxq' := gxq.symm; have gpa' := gpa.symm; have gpq' := gpq.symm; have naq' := naq.symm
               have ca0 : w9.cell? ⟨sa, 0, none⟩ = some (.slice B m d) := (blk_cell Va.out 0).trans rfl
               have fa0 : w9.frozen? ⟨sa, 0, none⟩ = false := blk_frozen Va.out 0
               have ca1 : w9.cell? ⟨sa, 1, none⟩ = some (.int .i64 fr) := (blk_cell Va.out 1).trans rfl
               have fa1 : w9.frozen? ⟨sa, 1, none⟩ = false := blk_frozen Va.out 1
               have cq0 : w9.cell? ⟨sq, 0, none⟩ = some (.int .i64 hd) := (blk_cell Vq.out 0).trans rfl
               have fq0 : w9.frozen? ⟨sq, 0, none⟩ = false := blk_frozen Vq.out 0
               have cq1 : w9.cell? ⟨sq, 1, none⟩ = some (.int .i64 tl) := (blk_cell Vq.out 1).trans rfl
               have fq1 : w9.frozen? ⟨sq, 1, none⟩ = false := blk_frozen Vq.out 1
               have cx0 : w9.cell? ⟨sx, 0, none⟩ = some (.slice B2 m2 d2) := (blk_cell Vx.out 0).trans rfl
               have cx1 : w9.cell? ⟨sx, 1, none⟩ = some (.int .i64 fr2) := (blk_cell Vx.out 1).trans rfl
               have cp0 : w9.cell? ⟨sp, 0, none⟩ = some (.int .i64 h2_) := (blk_cell Vp.out 0).trans rfl
               have cp1 : w9.cell? ⟨sp, 1, none⟩ = some (.int .i64 t2_) := (blk_cell Vp.out 1).trans rfl
               have FA := Lib.hid (keep_pair (blk_pair Va.out (.slice B2 m2 d2) (.int .i64 fr2)) naq (.int .i64 h2_) (.int .i64 t2_))
               have FQ := Lib.hid (blk_pair (keep_pair Vq.out naq.symm (.slice B2 m2 d2) (.int .i64 fr2)) (.int .i64 h2_) (.int .i64 t2_))
               have FR := Lib.hid ((Rx.out.pair Va.out (by decide) gea (.slice B2 m2 d2) (.int .i64 fr2)).pair (keep_pair Vq.out naq.symm (.slice B2 m2 d2) (.int .i64 fr2)) (by decide) geq (.int .i64 h2_) (.int .i64 t2_)).drew
               have FO := Lib.hid (own_pair (own_pair Oo.out Va.out (by decide) (.slice B2 m2 d2) (.int .i64 fr2)) (keep_pair Vq.out naq.symm (.slice B2 m2 d2) (.int .i64 fr2)) (by decide) (.int .i64 h2_) (.int .i64 t2_))
               have FB := Lib.hid (bel_pair (bel_pair HB.out.1 gea (.slice B2 m2 d2) (.int .i64 fr2)) geq (.int .i64 h2_) (.int .i64 t2_)).drew
               have FS := Lib.hid HB.out.2
               go_upto_region 32 with (at_builtin; refine eapp_run (by rfl) rfl rfl rfl hap ?_)
               go_region
               go_wp2
               go_roundw
               case rel => exact ⟨i + 1, o1, c3, A3, _, _, _, _, _, _, _, _, _, _, rfl, by go_num, by omega, FA.out, FQ.out, FR.out, TQ2.out, YO2.out, Lib.hid ⟨FO.out.1, FO.out.2⟩, Lib.hid ⟨FB.out, by simpa [World.setCell] using FS.out⟩⟩
               case measure => simp [intOf]; omega
        · have b2 : decide (y % 4 < 2) = false := by simpa using h2
          by_cases h3 : y % 4 = 2
          · have b3 : (y % 4 == 2) = true := by simp [h3]
            obtain ⟨hml, hol, hos⟩ := HM.out
            cases own with
            | nil => as_aux_lemma =>
              have hp := TQ.out.popn
              have ho0 : ol = 0 := by simpa using hol.symm
              have c1 := Lib.hid (show ∀ W, Rr w W B m d rs → Calls Try.prog 9 #[.agg #[.slice B m d, .int .i64 fr], .agg #[.int .i64 hd, .int .i64 tl]] W (PAs w W rs fr hd tl 0 7) from fun W h => popAs h (by omega) hp)
              have b4 : decide ((0 : Int) < (ol : Int)) = false := by simp; omega
              have b5 : decide (0 < ol) = false := by simp; omega
              have b6 : ¬ 0 < ol := by omega
              have TQ2 := TQ
              have YO2 := Lib.hid YO.out.mono
              clear hp hml hol hos ho0 h2 h3
              have ca0 : wr.cell? ⟨sa, 0, none⟩ = some (.slice B m d) := (blk_cell Va.out 0).trans rfl
              have ca1 : wr.cell? ⟨sa, 1, none⟩ = some (.int .i64 fr) := (blk_cell Va.out 1).trans rfl
              have cq0 : wr.cell? ⟨sq, 0, none⟩ = some (.int .i64 hd) := (blk_cell Vq.out 0).trans rfl
              have cq1 : wr.cell? ⟨sq, 1, none⟩ = some (.int .i64 tl) := (blk_cell Vq.out 1).trans rfl
              have hc2 := hc
              go_wp2_with fail
              refine (c1.out _ Ra.out).mono ?_
              rintro e w5 ⟨B2, m2, d2, rfl, hrs, hb⟩
              clear ca0 ca1 cq0 cq1
              replace Va := Lib.hid (blk_below Va.out hb (blk_lt Va.out))
              replace Vq := Lib.hid (blk_below Vq.out hb (blk_lt Vq.out))
              replace Ra := Lib.hid (Ro.below Ra.out hb)
              replace Oo := Lib.hid (own_below Oo.out hb)
              replace HB := Lib.hid (And.intro (HB.out.1.trans (hb.mono HB.out.2)) (Nat.le_trans HB.out.2 hb.size))
              have Rx := Lib.hid hrs
              clear hrs
              clear hb
              have lta := blk_lt Va.out
              have ltq := blk_lt Vq.out
              have gq := HB.out.2
              obtain ⟨w6, hw6⟩ : ∃ W, ((w5.alloc (.cells #[.slice B2 m2 d2, .int .i64 fr] 24)).alloc (.cells #[.int .i64 hd, .int .i64 tl] 26)) = W := ⟨_, rfl⟩
              have hb : Below w5.heap.size w5 w6 := hw6 ▸ (((Below.refl _ _).alloc (Nat.le_refl _) _).alloc (by first | (simp; done) | (simp; omega)) _)
              have hv0 : w6.heap[w5.heap.size]? = some (.cells #[.slice B2 m2 d2, .int .i64 fr] 24) := by
                have h0 := heap_alloc_new w5 (.cells #[.slice B2 m2 d2, .int .i64 fr] 24)
                rw [show w5.heap.size = w5.heap.size by simp [Nat.add_assoc]] at h0
                rw [← hw6]
                rw [heap_alloc_old _ _ (by simp <;> omega)]; exact h0
              have hv1 : w6.heap[w5.heap.size + 1]? = some (.cells #[.int .i64 hd, .int .i64 tl] 26) := by
                have h0 := heap_alloc_new (w5.alloc (.cells #[.slice B2 m2 d2, .int .i64 fr] 24)) (.cells #[.int .i64 hd, .int .i64 tl] 26)
                rw [show (w5.alloc (.cells #[.slice B2 m2 d2, .int .i64 fr] 24)).heap.size = w5.heap.size + 1 by simp [Nat.add_assoc]] at h0
                rw [← hw6]
                exact h0
              replace Va := Lib.hid (blk_below Va.out hb (blk_lt Va.out))
              replace Vq := Lib.hid (blk_below Vq.out hb (blk_lt Vq.out))
              replace Ra := Lib.hid (Ro.below Ra.out hb)
              replace Rx := Lib.hid (Ro.below Rx.out hb)
              replace Oo := Lib.hid (own_below Oo.out hb)
              replace HB := Lib.hid (And.intro (HB.out.1.trans (hb.mono HB.out.2)) (Nat.le_trans HB.out.2 hb.size))
              have Vx := Lib.hid hv0
              have nea_x := Nat.ne_of_lt lta
              have neq_x := Nat.ne_of_lt ltq
              have gex := gq
              have Vp := Lib.hid hv1
              have nea_p := Nat.ne_of_lt (Nat.lt_of_lt_of_le lta (Nat.le_add_right w5.heap.size 1))
              have neq_p := Nat.ne_of_lt (Nat.lt_of_lt_of_le ltq (Nat.le_add_right w5.heap.size 1))
              have nex_p : w5.heap.size ≠ w5.heap.size + 1 := by omega
              have gep : _ ≤ w5.heap.size + 1 := Nat.le_trans gq (Nat.le_add_right _ 1)
              generalize hsx : w5.heap.size = sx at *
              clear hb gq hv0 hv1 lta ltq
              have gxa := nea_x; have gxq := neq_x; have gpa := nea_p; have gpq := neq_p
              have gxa' := gxa.symm; have gxq' := gxq.symm; have gpa' := gpa.symm; have gpq' := gpq.symm; have naq' := naq.symm
              have ca0 : w6.cell? ⟨sa, 0, none⟩ = some (.slice B m d) := (blk_cell Va.out 0).trans rfl
              have fa0 : w6.frozen? ⟨sa, 0, none⟩ = false := blk_frozen Va.out 0
              have ca1 : w6.cell? ⟨sa, 1, none⟩ = some (.int .i64 fr) := (blk_cell Va.out 1).trans rfl
              have fa1 : w6.frozen? ⟨sa, 1, none⟩ = false := blk_frozen Va.out 1
              have cq0 : w6.cell? ⟨sq, 0, none⟩ = some (.int .i64 hd) := (blk_cell Vq.out 0).trans rfl
              have fq0 : w6.frozen? ⟨sq, 0, none⟩ = false := blk_frozen Vq.out 0
              have cq1 : w6.cell? ⟨sq, 1, none⟩ = some (.int .i64 tl) := (blk_cell Vq.out 1).trans rfl
              have fq1 : w6.frozen? ⟨sq, 1, none⟩ = false := blk_frozen Vq.out 1
              have cx0 : w6.cell? ⟨sx, 0, none⟩ = some (.slice B2 m2 d2) := (blk_cell Vx.out 0).trans rfl
              have cx1 : w6.cell? ⟨sx, 1, none⟩ = some (.int .i64 fr) := (blk_cell Vx.out 1).trans rfl
              have cp0 : w6.cell? ⟨sx + 1, 0, none⟩ = some (.int .i64 hd) := (blk_cell Vp.out 0).trans rfl
              have cp1 : w6.cell? ⟨sx + 1, 1, none⟩ = some (.int .i64 tl) := (blk_cell Vp.out 1).trans rfl
              have FA := Lib.hid (keep_pair (blk_pair Va.out (.slice B2 m2 d2) (.int .i64 fr)) naq (.int .i64 hd) (.int .i64 tl))
              have FQ := Lib.hid (blk_pair (keep_pair Vq.out naq.symm (.slice B2 m2 d2) (.int .i64 fr)) (.int .i64 hd) (.int .i64 tl))
              have FR := Lib.hid ((Rx.out.pair Va.out (by decide) gea (.slice B2 m2 d2) (.int .i64 fr)).pair (keep_pair Vq.out naq.symm (.slice B2 m2 d2) (.int .i64 fr)) (by decide) geq (.int .i64 hd) (.int .i64 tl)).drew
              have FO := Lib.hid (own_pair (own_pair Oo.out Va.out (by decide) (.slice B2 m2 d2) (.int .i64 fr)) (keep_pair Vq.out naq.symm (.slice B2 m2 d2) (.int .i64 fr)) (by decide) (.int .i64 hd) (.int .i64 tl))
              have FB := Lib.hid (bel_pair (bel_pair HB.out.1 gea (.slice B2 m2 d2) (.int .i64 fr)) geq (.int .i64 hd) (.int .i64 tl)).drew
              have FS := Lib.hid HB.out.2
              go_wp2_with fail
              go_region
              go_wp2
              go_roundw
              case rel => exact ⟨i + 1, ol, oc, OA, _, _, _, _, _, _, _, _, _, _, rfl, by go_num, by omega, FA.out, FQ.out, FR.out, TQ2.out, YO2.out, Lib.hid ⟨FO.out.1, FO.out.2⟩, Lib.hid ⟨FB.out, by simpa [World.setCell] using FS.out⟩⟩
              case measure => simp [intOf]; omega
            | cons t own => as_aux_lemma =>
              obtain ⟨⟨rs2, fr2⟩, ⟨h2_, t2_⟩, fl2, l2, hp, hq2⟩ := TQ.out.pop
              have c1 := Lib.hid (show ∀ W, Rr w W B m d rs → Calls Try.prog 9 #[.agg #[.slice B m d, .int .i64 fr], .agg #[.int .i64 hd, .int .i64 tl]] W (PAs w W rs2 fr2 h2_ t2_ t 0) from fun W h => popAs h (by omega) hp)
              have hol1 : 0 < ol := by rw [← hol]; simp
              have b4 : decide ((0 : Int) < (ol : Int)) = true := by simp; omega
              have b5 : decide (0 < ol) = true := by simp; omega
              have hol2 : (1 : Int) ≤ (ol : Int) := by omega
              have hol3 : ol ≤ 20 := by omega
              have TQ2 := Lib.hid hq2
              have YO2 := Lib.hid YO.out.tail
              clear hp hq2 hml hol hos h2 h3
              have ca0 : wr.cell? ⟨sa, 0, none⟩ = some (.slice B m d) := (blk_cell Va.out 0).trans rfl
              have ca1 : wr.cell? ⟨sa, 1, none⟩ = some (.int .i64 fr) := (blk_cell Va.out 1).trans rfl
              have cq0 : wr.cell? ⟨sq, 0, none⟩ = some (.int .i64 hd) := (blk_cell Vq.out 0).trans rfl
              have cq1 : wr.cell? ⟨sq, 1, none⟩ = some (.int .i64 tl) := (blk_cell Vq.out 1).trans rfl
              go_wp2_with fail
              refine (c1.out _ Ra.out).mono ?_
              rintro e w5 ⟨B2, m2, d2, rfl, hrs, hb⟩
              clear ca0 ca1 cq0 cq1
              replace Va := Lib.hid (blk_below Va.out hb (blk_lt Va.out))
              replace Vq := Lib.hid (blk_below Vq.out hb (blk_lt Vq.out))
              replace Ra := Lib.hid (Ro.below Ra.out hb)
              replace Oo := Lib.hid (own_below Oo.out hb)
              replace HB := Lib.hid (And.intro (HB.out.1.trans (hb.mono HB.out.2)) (Nat.le_trans HB.out.2 hb.size))
              have Rx := Lib.hid hrs
              clear hrs
              clear hb
              have lta := blk_lt Va.out
              have ltq := blk_lt Vq.out
              have gq := HB.out.2
              obtain ⟨w6, hw6⟩ : ∃ W, ((w5.alloc (.cells #[.slice B2 m2 d2, .int .i64 fr2] 24)).alloc (.cells #[.int .i64 h2_, .int .i64 t2_] 26)) = W := ⟨_, rfl⟩
              have hb : Below w5.heap.size w5 w6 := hw6 ▸ (((Below.refl _ _).alloc (Nat.le_refl _) _).alloc (by first | (simp; done) | (simp; omega)) _)
              have hv0 : w6.heap[w5.heap.size]? = some (.cells #[.slice B2 m2 d2, .int .i64 fr2] 24) := by
                have h0 := heap_alloc_new w5 (.cells #[.slice B2 m2 d2, .int .i64 fr2] 24)
                rw [show w5.heap.size = w5.heap.size by simp [Nat.add_assoc]] at h0
                rw [← hw6]
                rw [heap_alloc_old _ _ (by simp <;> omega)]; exact h0
              have hv1 : w6.heap[w5.heap.size + 1]? = some (.cells #[.int .i64 h2_, .int .i64 t2_] 26) := by
                have h0 := heap_alloc_new (w5.alloc (.cells #[.slice B2 m2 d2, .int .i64 fr2] 24)) (.cells #[.int .i64 h2_, .int .i64 t2_] 26)
                rw [show (w5.alloc (.cells #[.slice B2 m2 d2, .int .i64 fr2] 24)).heap.size = w5.heap.size + 1 by simp [Nat.add_assoc]] at h0
                rw [← hw6]
                exact h0
              replace Va := Lib.hid (blk_below Va.out hb (blk_lt Va.out))
              replace Vq := Lib.hid (blk_below Vq.out hb (blk_lt Vq.out))
              replace Ra := Lib.hid (Ro.below Ra.out hb)
              replace Rx := Lib.hid (Ro.below Rx.out hb)
              replace Oo := Lib.hid (own_below Oo.out hb)
              replace HB := Lib.hid (And.intro (HB.out.1.trans (hb.mono HB.out.2)) (Nat.le_trans HB.out.2 hb.size))
              have Vx := Lib.hid hv0
              have nea_x := Nat.ne_of_lt lta
              have neq_x := Nat.ne_of_lt ltq
              have gex := gq
              have Vp := Lib.hid hv1
              have nea_p := Nat.ne_of_lt (Nat.lt_of_lt_of_le lta (Nat.le_add_right w5.heap.size 1))
              have neq_p := Nat.ne_of_lt (Nat.lt_of_lt_of_le ltq (Nat.le_add_right w5.heap.size 1))
              have nex_p : w5.heap.size ≠ w5.heap.size + 1 := by omega
              have gep : _ ≤ w5.heap.size + 1 := Nat.le_trans gq (Nat.le_add_right _ 1)
              generalize hsx : w5.heap.size = sx at *
              clear hb gq hv0 hv1 lta ltq
              obtain ⟨_, _, he, hoi⟩ := Es.of_own Oo.out (intC_one _)
              injection he with he1 he2 he3; subst he1; subst he3
              obtain ⟨bo, ooff, x0, hOA, hlb, hlc, hdr⟩ := (show Is _ OA ol oc (t :: own) from hoi).look 0 hol1
              subst hOA
              have hx0 : t = x0 := by simpa using hdr
              subst hx0
              have hbE : (t != t) = false := by simp
              have hlc0 := hlc
              rw [Nat.add_zero] at hlc0
              clear hdr
              obtain ⟨C2, cc2, hsl, hsi⟩ := isl_drop (P := Try.prog) hoi 37 unInts szInts 1 1 rfl (by omega)
              have bl : Below w6.heap.size w6 (w6.alloc (.cells #[] 3)) := (Below.refl _ _).alloc (Nat.le_refl _) _
              have ow := lit_ints w6 (base := w6.heap.size) (Nat.le_refl _) [] (by simp) (m := 0) rfl
              obtain ⟨A3, c3, w9, hap, hown, hgr⟩ := app_ints (w6.alloc (.cells (intC []).toArray 3)) w6.heap.size _ 0 [] ow C2 (ol - 1) cc2 _ (Es.below hsi bl) (by omega) (by simp)
              rw [Nat.zero_add] at hap hown
              rw [List.nil_append] at hown
              replace hap : (Builtin.append_ #[37, 37] 37 #[.slice (some ⟨w6.heap.size, 0, none⟩) 0 0, .slice C2 (ol - 1) cc2]).run Try.prog (w6.alloc (.cells #[] 3)) = _ := hap
              have hb : Below w6.heap.size w6 w9 := bl.grown hgr (by simp) (fun k hk => (ow.lt k hk).1)
              have gO := HB.out.2
              have ON := Lib.hid (own_base hown gO)
              clear hown hgr bl ow hsi hoi gO Oo
              have hb9 := hb
              skip
              replace Va := Lib.hid (blk_below Va.out hb (blk_lt Va.out))
              replace Vq := Lib.hid (blk_below Vq.out hb (blk_lt Vq.out))
              replace Vx := Lib.hid (blk_below Vx.out hb (blk_lt Vx.out))
              replace Vp := Lib.hid (blk_below Vp.out hb (blk_lt Vp.out))
              replace Ra := Lib.hid (Ro.below Ra.out hb)
              replace Rx := Lib.hid (Ro.below Rx.out hb)
              replace HB := Lib.hid (And.intro (HB.out.1.trans (hb.mono HB.out.2)) (Nat.le_trans HB.out.2 hb.size))
              have Oo := ON
              clear hb hb9
              try clear hsl_
              have gxa := nea_x; have gxq := neq_x; have gpa := nea_p; have gpq := neq_p
              have gxa' := gxa.symm; have gxq' := gxq.symm; have gpa' := gpa.symm; have gpq' := gpq.symm; have naq' := naq.symm
              have ca0 : w9.cell? ⟨sa, 0, none⟩ = some (.slice B m d) := (blk_cell Va.out 0).trans rfl
              have fa0 : w9.frozen? ⟨sa, 0, none⟩ = false := blk_frozen Va.out 0
              have ca1 : w9.cell? ⟨sa, 1, none⟩ = some (.int .i64 fr) := (blk_cell Va.out 1).trans rfl
              have fa1 : w9.frozen? ⟨sa, 1, none⟩ = false := blk_frozen Va.out 1
              have cq0 : w9.cell? ⟨sq, 0, none⟩ = some (.int .i64 hd) := (blk_cell Vq.out 0).trans rfl
              have fq0 : w9.frozen? ⟨sq, 0, none⟩ = false := blk_frozen Vq.out 0
              have cq1 : w9.cell? ⟨sq, 1, none⟩ = some (.int .i64 tl) := (blk_cell Vq.out 1).trans rfl
              have fq1 : w9.frozen? ⟨sq, 1, none⟩ = false := blk_frozen Vq.out 1
              have cx0 : w9.cell? ⟨sx, 0, none⟩ = some (.slice B2 m2 d2) := (blk_cell Vx.out 0).trans rfl
              have cx1 : w9.cell? ⟨sx, 1, none⟩ = some (.int .i64 fr2) := (blk_cell Vx.out 1).trans rfl
              have cp0 : w9.cell? ⟨sx + 1, 0, none⟩ = some (.int .i64 h2_) := (blk_cell Vp.out 0).trans rfl
              have cp1 : w9.cell? ⟨sx + 1, 1, none⟩ = some (.int .i64 t2_) := (blk_cell Vp.out 1).trans rfl
              have FA := Lib.hid (keep_pair (blk_pair Va.out (.slice B2 m2 d2) (.int .i64 fr2)) naq (.int .i64 h2_) (.int .i64 t2_))
              have FQ := Lib.hid (blk_pair (keep_pair Vq.out naq.symm (.slice B2 m2 d2) (.int .i64 fr2)) (.int .i64 h2_) (.int .i64 t2_))
              have FR := Lib.hid ((Rx.out.pair Va.out (by decide) gea (.slice B2 m2 d2) (.int .i64 fr2)).pair (keep_pair Vq.out naq.symm (.slice B2 m2 d2) (.int .i64 fr2)) (by decide) geq (.int .i64 h2_) (.int .i64 t2_)).drew
              have FO := Lib.hid (own_pair (own_pair Oo.out Va.out (by decide) (.slice B2 m2 d2) (.int .i64 fr2)) (keep_pair Vq.out naq.symm (.slice B2 m2 d2) (.int .i64 fr2)) (by decide) (.int .i64 h2_) (.int .i64 t2_))
              have FB := Lib.hid (bel_pair (bel_pair HB.out.1 gea (.slice B2 m2 d2) (.int .i64 fr2)) geq (.int .i64 h2_) (.int .i64 t2_)).drew
              have FS := Lib.hid HB.out.2
              go_upto_region 39 with (at_builtin; refine eapp_run (by rfl) rfl rfl rfl hap ?_)
              go_region
              go_wp2
              go_roundw
              case rel => exact ⟨i + 1, (ol - 1), c3, A3, _, _, _, _, _, _, _, _, _, _, rfl, by go_num, by omega, FA.out, FQ.out, FR.out, TQ2.out, YO2.out, Lib.hid ⟨FO.out.1, FO.out.2⟩, Lib.hid ⟨FB.out, by simpa [World.setCell] using FS.out⟩⟩
              case measure => simp [intOf]; omega
          · have b3 : (y % 4 == 2) = false := by simp [h3]
            obtain ⟨hml, hol, hos⟩ := HM.out
            have hdv : y.tdiv 4 = y / 4 := Int.tdiv_eq_ediv_of_nonneg y0
            have hcv : IntKind.i64.wrap (y / 4) = y / 4 := by rw [IntKind.wrap_i64]; omega
            have hcu : IntKind.u8.wrap (y / 4) = y / 4 := by rw [IntKind.wrap_u8]; omega
            obtain ⟨tt, htt⟩ : ∃ x, y / 4 = x := ⟨_, rfl⟩
            obtain ⟨rs2, fr2, h2_, t2_, er, he⟩ : ∃ rs2 fr2 h2_ t2_ er, qDrop (rs, fr) (hd, tl) tt = ((rs2, fr2), (h2_, t2_), er) := ⟨_, _, _, _, _, rfl⟩
            have TP : (findI tt own = none ∧ er = 7 ∧ ∃ fl2 l2, QT z (rs2, fr2) (h2_, t2_) own fl2 l2) ∨ (∃ k0, findI tt own = some k0 ∧ er = 0 ∧ ∃ fl2 l2, QT z (rs2, fr2) (h2_, t2_) (butL own k0) fl2 l2) := by
              cases hf : findI tt own with
              | none => have he2 := TQ.out.dropn (findI_none.1 hf); rw [he] at he2; simp only [Prod.mk.injEq] at he2; obtain ⟨⟨rfl, rfl⟩, ⟨rfl, rfl⟩, rfl⟩ := he2; exact Or.inl ⟨rfl, rfl, _, _, TQ.out⟩
              | some k0 => obtain ⟨p2, q2, fl2, l2, he2, hq2⟩ := TQ.out.drop hf; rw [he] at he2; simp only [Prod.mk.injEq] at he2; obtain ⟨rfl, rfl, rfl⟩ := he2; exact Or.inr ⟨k0, rfl, rfl, _, _, hq2⟩
            have CT := Lib.hid (show ∀ W, Rr w W B m d rs → Calls Try.prog 11 #[.agg #[.slice B m d, .int .i64 fr], .agg #[.int .i64 hd, .int .i64 tl], .int .i64 tt] W (QAs w W rs2 fr2 h2_ t2_ er) from fun W h => dropAs tt h (by omega) he)
            have HA := fun (W : World) (A : Option Addr) (n c : Nat) (h : Is W A n c own) => refHas_any A n c own tt W h (by have h1 := h.len; omega)
            have HOS := Lib.hid (show own.length = ol ∧ ol ≤ 20 from ⟨hol, by omega⟩)
            rw [htt] at hdv hcv hcu
            have HTT := Lib.hid htt
            clear he hml hol hos h2 h3
            rcases TP with ⟨hf, her, fl2, l2, hq2⟩ | ⟨k0, hf, her, fl2, l2, hq2⟩
            · have hdc : decide (tt ∈ own) = false := decide_eq_false (findI_none.1 hf)
              have HA2 := Lib.hid (show ∀ (W : World) (A : Option Addr) (n c : Nat), Is W A n c own → Calls Try.prog 24 #[.slice A n c, .int .i64 tt] W (fun e w' => e = .returned (.bool false) ∧ W = w') from fun W A n c h => by have h1 := HA W A n c h; rwa [show decide (tt ∈ own) = false from hdc] at h1)
              clear HA hdc
              have b4 : (er == 0) = false := by simp [her]
              have TQ2 := Lib.hid hq2
              have YO2 := Lib.hid YO.out.mono
              clear hf her hq2
              have ca0 : wr.cell? ⟨sa, 0, none⟩ = some (.slice B m d) := (blk_cell Va.out 0).trans rfl
              have ca1 : wr.cell? ⟨sa, 1, none⟩ = some (.int .i64 fr) := (blk_cell Va.out 1).trans rfl
              have cq0 : wr.cell? ⟨sq, 0, none⟩ = some (.int .i64 hd) := (blk_cell Vq.out 0).trans rfl
              have cq1 : wr.cell? ⟨sq, 1, none⟩ = some (.int .i64 tl) := (blk_cell Vq.out 1).trans rfl
              go_wp2_with fail
              refine (CT.out _ Ra.out).mono ?_
              rintro e w5 ⟨B2, m2, d2, rfl, hrs, hb⟩
              clear ca0 ca1 cq0 cq1
              replace Va := Lib.hid (blk_below Va.out hb (blk_lt Va.out))
              replace Vq := Lib.hid (blk_below Vq.out hb (blk_lt Vq.out))
              replace Ra := Lib.hid (Ro.below Ra.out hb)
              replace Oo := Lib.hid (own_below Oo.out hb)
              replace HB := Lib.hid (And.intro (HB.out.1.trans (hb.mono HB.out.2)) (Nat.le_trans HB.out.2 hb.size))
              have Rx := Lib.hid hrs
              clear hrs
              clear hb
              have lta := blk_lt Va.out
              have ltq := blk_lt Vq.out
              have gq := HB.out.2
              obtain ⟨w6, hw6⟩ : ∃ W, ((w5.alloc (.cells #[.slice B2 m2 d2, .int .i64 fr2] 24)).alloc (.cells #[.int .i64 h2_, .int .i64 t2_] 26)) = W := ⟨_, rfl⟩
              have hb : Below w5.heap.size w5 w6 := hw6 ▸ (((Below.refl _ _).alloc (Nat.le_refl _) _).alloc (by first | (simp; done) | (simp; omega)) _)
              have hv0 : w6.heap[w5.heap.size]? = some (.cells #[.slice B2 m2 d2, .int .i64 fr2] 24) := by
                have h0 := heap_alloc_new w5 (.cells #[.slice B2 m2 d2, .int .i64 fr2] 24)
                rw [show w5.heap.size = w5.heap.size by simp [Nat.add_assoc]] at h0
                rw [← hw6]
                rw [heap_alloc_old _ _ (by simp <;> omega)]; exact h0
              have hv1 : w6.heap[w5.heap.size + 1]? = some (.cells #[.int .i64 h2_, .int .i64 t2_] 26) := by
                have h0 := heap_alloc_new (w5.alloc (.cells #[.slice B2 m2 d2, .int .i64 fr2] 24)) (.cells #[.int .i64 h2_, .int .i64 t2_] 26)
                rw [show (w5.alloc (.cells #[.slice B2 m2 d2, .int .i64 fr2] 24)).heap.size = w5.heap.size + 1 by simp [Nat.add_assoc]] at h0
                rw [← hw6]
                exact h0
              replace Va := Lib.hid (blk_below Va.out hb (blk_lt Va.out))
              replace Vq := Lib.hid (blk_below Vq.out hb (blk_lt Vq.out))
              replace Ra := Lib.hid (Ro.below Ra.out hb)
              replace Rx := Lib.hid (Ro.below Rx.out hb)
              replace Oo := Lib.hid (own_below Oo.out hb)
              replace HB := Lib.hid (And.intro (HB.out.1.trans (hb.mono HB.out.2)) (Nat.le_trans HB.out.2 hb.size))
              have Vx := Lib.hid hv0
              have nea_x := Nat.ne_of_lt lta
              have neq_x := Nat.ne_of_lt ltq
              have gex := gq
              have Vp := Lib.hid hv1
              have nea_p := Nat.ne_of_lt (Nat.lt_of_lt_of_le lta (Nat.le_add_right w5.heap.size 1))
              have neq_p := Nat.ne_of_lt (Nat.lt_of_lt_of_le ltq (Nat.le_add_right w5.heap.size 1))
              have nex_p : w5.heap.size ≠ w5.heap.size + 1 := by omega
              have gep : _ ≤ w5.heap.size + 1 := Nat.le_trans gq (Nat.le_add_right _ 1)
              generalize hsx : w5.heap.size = sx at *
              clear hb gq hv0 hv1 lta ltq
              have hoi : Is w6 OA ol oc own := by
                obtain ⟨_, _, he, h⟩ := Es.of_own Oo.out (intC_one _)
                injection he with he1 he2 he3; subst he1; subst he3; exact h
              have HC := Lib.hid (HA2.out _ _ _ _ hoi)
              clear hoi HA2
              go_wp2_with fail
              refine HC.out.mono ?_
              rintro e w9 ⟨rfl, rfl⟩
              clear HC
              go_wp2
              go_loopw [9, 22] (fun ov kv wr => ov = .slice OA ol oc ∧ kv = .int .i64 0 ∧ wr = w6) (fun _ _ _ => 0)
              case atStart => exact ⟨rfl, rfl, rfl⟩
              case round =>
                obtain ⟨rfl, rfl, rfl⟩ := hrel
                by_cases hlt2 : 0 < ol
                · as_aux_lemma =>
                   have b5 : decide ((0 : Int) < (ol : Int)) = true := by simp; omega
                   have b5' : decide (0 < ol) = true := by simp; omega
                   have gxa := nea_x; have gxq := neq_x; have gpa := nea_p; have gpq := neq_p
                   have gxa' := gxa.symm; have gxq' := gxq.symm; have gpa' := gpa.symm; have gpq' := gpq.symm; have naq' := naq.symm
                   have ca0 : wr.cell? ⟨sa, 0, none⟩ = some (.slice B m d) := (blk_cell Va.out 0).trans rfl
                   have fa0 : wr.frozen? ⟨sa, 0, none⟩ = false := blk_frozen Va.out 0
                   have ca1 : wr.cell? ⟨sa, 1, none⟩ = some (.int .i64 fr) := (blk_cell Va.out 1).trans rfl
                   have fa1 : wr.frozen? ⟨sa, 1, none⟩ = false := blk_frozen Va.out 1
                   have cq0 : wr.cell? ⟨sq, 0, none⟩ = some (.int .i64 hd) := (blk_cell Vq.out 0).trans rfl
                   have fq0 : wr.frozen? ⟨sq, 0, none⟩ = false := blk_frozen Vq.out 0
                   have cq1 : wr.cell? ⟨sq, 1, none⟩ = some (.int .i64 tl) := (blk_cell Vq.out 1).trans rfl
                   have fq1 : wr.frozen? ⟨sq, 1, none⟩ = false := blk_frozen Vq.out 1
                   have cx0 : wr.cell? ⟨sx, 0, none⟩ = some (.slice B2 m2 d2) := (blk_cell Vx.out 0).trans rfl
                   have cx1 : wr.cell? ⟨sx, 1, none⟩ = some (.int .i64 fr2) := (blk_cell Vx.out 1).trans rfl
                   have cp0 : wr.cell? ⟨sx + 1, 0, none⟩ = some (.int .i64 h2_) := (blk_cell Vp.out 0).trans rfl
                   have cp1 : wr.cell? ⟨sx + 1, 1, none⟩ = some (.int .i64 t2_) := (blk_cell Vp.out 1).trans rfl
                   have FA := Lib.hid (keep_pair (blk_pair Va.out (.slice B2 m2 d2) (.int .i64 fr2)) naq (.int .i64 h2_) (.int .i64 t2_))
                   have FQ := Lib.hid (blk_pair (keep_pair Vq.out naq.symm (.slice B2 m2 d2) (.int .i64 fr2)) (.int .i64 h2_) (.int .i64 t2_))
                   have FR := Lib.hid ((Rx.out.pair Va.out (by decide) gea (.slice B2 m2 d2) (.int .i64 fr2)).pair (keep_pair Vq.out naq.symm (.slice B2 m2 d2) (.int .i64 fr2)) (by decide) geq (.int .i64 h2_) (.int .i64 t2_)).drew
                   have FO := Lib.hid (own_pair (own_pair Oo.out Va.out (by decide) (.slice B2 m2 d2) (.int .i64 fr2)) (keep_pair Vq.out naq.symm (.slice B2 m2 d2) (.int .i64 fr2)) (by decide) (.int .i64 h2_) (.int .i64 t2_))
                   have FB := Lib.hid (bel_pair (bel_pair HB.out.1 gea (.slice B2 m2 d2) (.int .i64 fr2)) geq (.int .i64 h2_) (.int .i64 t2_)).drew
                   have FS := Lib.hid HB.out.2
                   go_wp2_with fail
                   go_region
                   go_wp2
                   go_roundw
                   case rel => exact ⟨i + 1, ol, oc, OA, _, _, _, _, _, _, _, _, _, _, rfl, by go_num, by omega, FA.out, FQ.out, FR.out, TQ2.out, YO2.out, Lib.hid ⟨FO.out.1, FO.out.2⟩, Lib.hid ⟨FB.out, by simpa [World.setCell] using FS.out⟩⟩
                   case measure => simp [intOf]; omega
                · as_aux_lemma =>
                   have b5 : decide ((0 : Int) < (ol : Int)) = false := by simp; omega
                   have b5' : decide (0 < ol) = false := by simp; omega
                   have gxa := nea_x; have gxq := neq_x; have gpa := nea_p; have gpq := neq_p
                   have gxa' := gxa.symm; have gxq' := gxq.symm; have gpa' := gpa.symm; have gpq' := gpq.symm; have naq' := naq.symm
                   have ca0 : wr.cell? ⟨sa, 0, none⟩ = some (.slice B m d) := (blk_cell Va.out 0).trans rfl
                   have fa0 : wr.frozen? ⟨sa, 0, none⟩ = false := blk_frozen Va.out 0
                   have ca1 : wr.cell? ⟨sa, 1, none⟩ = some (.int .i64 fr) := (blk_cell Va.out 1).trans rfl
                   have fa1 : wr.frozen? ⟨sa, 1, none⟩ = false := blk_frozen Va.out 1
                   have cq0 : wr.cell? ⟨sq, 0, none⟩ = some (.int .i64 hd) := (blk_cell Vq.out 0).trans rfl
                   have fq0 : wr.frozen? ⟨sq, 0, none⟩ = false := blk_frozen Vq.out 0
                   have cq1 : wr.cell? ⟨sq, 1, none⟩ = some (.int .i64 tl) := (blk_cell Vq.out 1).trans rfl
                   have fq1 : wr.frozen? ⟨sq, 1, none⟩ = false := blk_frozen Vq.out 1
                   have cx0 : wr.cell? ⟨sx, 0, none⟩ = some (.slice B2 m2 d2) := (blk_cell Vx.out 0).trans rfl
                   have cx1 : wr.cell? ⟨sx, 1, none⟩ = some (.int .i64 fr2) := (blk_cell Vx.out 1).trans rfl
                   have cp0 : wr.cell? ⟨sx + 1, 0, none⟩ = some (.int .i64 h2_) := (blk_cell Vp.out 0).trans rfl
                   have cp1 : wr.cell? ⟨sx + 1, 1, none⟩ = some (.int .i64 t2_) := (blk_cell Vp.out 1).trans rfl
                   have FA := Lib.hid (keep_pair (blk_pair Va.out (.slice B2 m2 d2) (.int .i64 fr2)) naq (.int .i64 h2_) (.int .i64 t2_))
                   have FQ := Lib.hid (blk_pair (keep_pair Vq.out naq.symm (.slice B2 m2 d2) (.int .i64 fr2)) (.int .i64 h2_) (.int .i64 t2_))
                   have FR := Lib.hid ((Rx.out.pair Va.out (by decide) gea (.slice B2 m2 d2) (.int .i64 fr2)).pair (keep_pair Vq.out naq.symm (.slice B2 m2 d2) (.int .i64 fr2)) (by decide) geq (.int .i64 h2_) (.int .i64 t2_)).drew
                   have FO := Lib.hid (own_pair (own_pair Oo.out Va.out (by decide) (.slice B2 m2 d2) (.int .i64 fr2)) (keep_pair Vq.out naq.symm (.slice B2 m2 d2) (.int .i64 fr2)) (by decide) (.int .i64 h2_) (.int .i64 t2_))
                   have FB := Lib.hid (bel_pair (bel_pair HB.out.1 gea (.slice B2 m2 d2) (.int .i64 fr2)) geq (.int .i64 h2_) (.int .i64 t2_)).drew
                   have FS := Lib.hid HB.out.2
                   go_wp2_with fail
                   go_region
                   go_wp2
                   go_roundw
                   case rel => exact ⟨i + 1, ol, oc, OA, _, _, _, _, _, _, _, _, _, _, rfl, by go_num, by omega, FA.out, FQ.out, FR.out, TQ2.out, YO2.out, Lib.hid ⟨FO.out.1, FO.out.2⟩, Lib.hid ⟨FB.out, by simpa [World.setCell] using FS.out⟩⟩
                   case measure => simp [intOf]; omega
            · obtain ⟨hfk, hfn⟩ := findI_spec hf
              have hk0l : k0 < own.length := by
                rcases Nat.lt_or_ge k0 own.length with h2 | h2
                · exact h2
                · rw [List.getElem?_eq_none h2] at hfk; cases hfk
              have hdc : decide (tt ∈ own) = true := decide_eq_true (List.mem_of_getElem? hfk)
              have HA2 := Lib.hid (show ∀ (W : World) (A : Option Addr) (n c : Nat), Is W A n c own → Calls Try.prog 24 #[.slice A n c, .int .i64 tt] W (fun e w' => e = .returned (.bool true) ∧ W = w') from fun W A n c h => by have h1 := HA W A n c h; rwa [show decide (tt ∈ own) = true from hdc] at h1)
              clear HA hdc
              have HNB := Lib.hid (show tt ∉ butL own k0 from fun hm => ((butN_mem YO.out.1 hk0l).1 hm).2 (by simp [List.getD, hfk]))
              have HBL := Lib.hid (butN_len hk0l)
              have HFK := Lib.hid (And.intro hfk hfn)
              have HKL := Lib.hid hk0l
              have b4 : (er == 0) = true := by simp [her]
              have TQ2 := Lib.hid hq2
              have YO2 := Lib.hid (YO.out.but k0)
              clear hf her hq2 hfk hfn hk0l
              have ca0 : wr.cell? ⟨sa, 0, none⟩ = some (.slice B m d) := (blk_cell Va.out 0).trans rfl
              have ca1 : wr.cell? ⟨sa, 1, none⟩ = some (.int .i64 fr) := (blk_cell Va.out 1).trans rfl
              have cq0 : wr.cell? ⟨sq, 0, none⟩ = some (.int .i64 hd) := (blk_cell Vq.out 0).trans rfl
              have cq1 : wr.cell? ⟨sq, 1, none⟩ = some (.int .i64 tl) := (blk_cell Vq.out 1).trans rfl
              go_wp2_with fail
              refine (CT.out _ Ra.out).mono ?_
              rintro e w5 ⟨B2, m2, d2, rfl, hrs, hb⟩
              clear ca0 ca1 cq0 cq1
              replace Va := Lib.hid (blk_below Va.out hb (blk_lt Va.out))
              replace Vq := Lib.hid (blk_below Vq.out hb (blk_lt Vq.out))
              replace Ra := Lib.hid (Ro.below Ra.out hb)
              replace Oo := Lib.hid (own_below Oo.out hb)
              replace HB := Lib.hid (And.intro (HB.out.1.trans (hb.mono HB.out.2)) (Nat.le_trans HB.out.2 hb.size))
              have Rx := Lib.hid hrs
              clear hrs
              clear hb
              have lta := blk_lt Va.out
              have ltq := blk_lt Vq.out
              have gq := HB.out.2
              obtain ⟨w6, hw6⟩ : ∃ W, ((w5.alloc (.cells #[.slice B2 m2 d2, .int .i64 fr2] 24)).alloc (.cells #[.int .i64 h2_, .int .i64 t2_] 26)) = W := ⟨_, rfl⟩
              have hb : Below w5.heap.size w5 w6 := hw6 ▸ (((Below.refl _ _).alloc (Nat.le_refl _) _).alloc (by first | (simp; done) | (simp; omega)) _)
              have hv0 : w6.heap[w5.heap.size]? = some (.cells #[.slice B2 m2 d2, .int .i64 fr2] 24) := by
                have h0 := heap_alloc_new w5 (.cells #[.slice B2 m2 d2, .int .i64 fr2] 24)
                rw [show w5.heap.size = w5.heap.size by simp [Nat.add_assoc]] at h0
                rw [← hw6]
                rw [heap_alloc_old _ _ (by simp <;> omega)]; exact h0
              have hv1 : w6.heap[w5.heap.size + 1]? = some (.cells #[.int .i64 h2_, .int .i64 t2_] 26) := by
                have h0 := heap_alloc_new (w5.alloc (.cells #[.slice B2 m2 d2, .int .i64 fr2] 24)) (.cells #[.int .i64 h2_, .int .i64 t2_] 26)
                rw [show (w5.alloc (.cells #[.slice B2 m2 d2, .int .i64 fr2] 24)).heap.size = w5.heap.size + 1 by simp [Nat.add_assoc]] at h0
                rw [← hw6]
                exact h0
              replace Va := Lib.hid (blk_below Va.out hb (blk_lt Va.out))
              replace Vq := Lib.hid (blk_below Vq.out hb (blk_lt Vq.out))
              replace Ra := Lib.hid (Ro.below Ra.out hb)
              replace Rx := Lib.hid (Ro.below Rx.out hb)
              replace Oo := Lib.hid (own_below Oo.out hb)
              replace HB := Lib.hid (And.intro (HB.out.1.trans (hb.mono HB.out.2)) (Nat.le_trans HB.out.2 hb.size))
              have Vx := Lib.hid hv0
              have nea_x := Nat.ne_of_lt lta
              have neq_x := Nat.ne_of_lt ltq
              have gex := gq
              have Vp := Lib.hid hv1
              have nea_p := Nat.ne_of_lt (Nat.lt_of_lt_of_le lta (Nat.le_add_right w5.heap.size 1))
              have neq_p := Nat.ne_of_lt (Nat.lt_of_lt_of_le ltq (Nat.le_add_right w5.heap.size 1))
              have nex_p : w5.heap.size ≠ w5.heap.size + 1 := by omega
              have gep : _ ≤ w5.heap.size + 1 := Nat.le_trans gq (Nat.le_add_right _ 1)
              generalize hsx : w5.heap.size = sx at *
              clear hb gq hv0 hv1 lta ltq
              have hoi : Is w6 OA ol oc own := by
                obtain ⟨_, _, he, h⟩ := Es.of_own Oo.out (intC_one _)
                injection he with he1 he2 he3; subst he1; subst he3; exact h
              have HC := Lib.hid (HA2.out _ _ _ _ hoi)
              clear hoi HA2
              go_wp2_with fail
              refine HC.out.mono ?_
              rintro e w9 ⟨rfl, rfl⟩
              clear HC
              go_wp2
              have OO := Oo
              go_loopw [9, 22] (fun ov kv wr => ∃ (k ol2 oc2 : Nat) (OA2 : Option Addr) (own2 : List Int), ov = .slice OA2 ol2 oc2 ∧ kv = .int .i64 (k : Int) ∧ k ≤ ol2 + 1 ∧ ol2 ≤ 20 ∧ Hid (k ≤ k0 ∧ own2 = own ∨ k0 < k ∧ own2 = butL own k0) ∧ own2.length = ol2 ∧ Hid (wr.heap[sa]? = some (.cells #[.slice B m d, .int .i64 fr] 24)) ∧ Hid (wr.heap[sq]? = some (.cells #[.int .i64 hd, .int .i64 tl] 26)) ∧ Hid (wr.heap[sx]? = some (.cells #[.slice B2 m2 d2, .int .i64 fr2] 24)) ∧ Hid (wr.heap[sx + 1]? = some (.cells #[.int .i64 h2_, .int .i64 t2_] 26)) ∧ Hid (Rr w wr B m d rs) ∧ Hid (Rr w wr B2 m2 d2 rs2) ∧ Hid (wr.ownsRow w.heap.size 3 1 (.slice OA2 ol2 oc2) ol2 (intC own2)) ∧ Hid (Below w.heap.size w wr ∧ w.heap.size ≤ wr.heap.size)) (fun ov kv _ => lenV ov - (intOf kv).toNat)
              case atStart => exact ⟨0, ol, oc, OA, own, rfl, rfl, by omega, HOS.out.2, Lib.hid (Or.inl ⟨by omega, rfl⟩), HOS.out.1, Va, Vq, Vx, Vp, Ra, Rx, Oo, HB⟩
              case round =>
                clear Va Vq Vx Vp Ra Rx Oo OO HB
                obtain ⟨k, ol2, oc2, OA2, own2, rfl, rfl, hkl, hl20, HCS, hol2, Va, Vq, Vx, Vp, Ra, Rx, Oo, HB⟩ := hrel
                have HOL2 := Lib.hid hol2
                by_cases hlt2 : k < ol2
                · have b5 : decide ((k : Int) < (ol2 : Int)) = true := by simp; omega
                  have b5' : decide (k < ol2) = true := by simp; omega
                  obtain ⟨_, _, he, hoi⟩ := Es.of_own Oo.out (intC_one _)
                  injection he with he1 he2 he3; subst he1; subst he3
                  obtain ⟨lb, loff, x, hOA2, hlb, hlc, hdr⟩ := (show Is _ OA2 ol2 oc2 own2 from hoi).look k hlt2
                  have hgx : own2[k]? = some x := by have h1 := drop_at (xs := own2) (i := k) (by omega); rw [h1] at hdr; injection hdr with h2 _; rw [List.getElem?_eq_getElem (by omega), h2]
                  subst hOA2
                  clear hdr hlb
                  have i2 : (0 : Int) ≤ (k : Int) := by omega
                  have i3 : (k : Int) < (ol2 : Int) := by omega
                  by_cases hxt : x = tt
                  · as_aux_lemma =>
                     have b6 : (x == tt) = true := by simp [hxt]
                     have hkk : k = k0 ∧ own2 = own := by
                       rcases HCS.out with ⟨h1, h2⟩ | ⟨h1, h2⟩
                       · refine ⟨?_, h2⟩
                         rcases Nat.lt_or_ge k k0 with h3 | h3
                         · exfalso; rw [h2, hxt] at hgx; exact HFK.out.2 (List.mem_of_getElem? (by rw [List.getElem?_take_of_lt h3]; exact hgx))
                         · omega
                       · exfalso; rw [h2, hxt] at hgx; exact HNB.out (List.mem_of_getElem? hgx)
                     obtain ⟨hkk1, hkk2⟩ := hkk
                     have HKK := Lib.hid hkk1
                     obtain ⟨A4, c4, hs1, hi1⟩ := isl_take (P := Try.prog) hoi 37 unInts szInts (k : Int) k rfl (by omega)
                     obtain ⟨A5, c5, hs2, hi2⟩ := isl_drop (P := Try.prog) hoi 37 unInts szInts ((k : Int) + 1) (k + 1) rfl (by omega)
                     have hw1 : IntKind.i64.wrap ((k : Int) + 1) = (k : Int) + 1 := by rw [IntKind.wrap_i64]; omega
                     have bl : Below wr.heap.size wr (wr.drew.alloc (.cells #[] 3)) := (Below.refl _ _).drew.alloc (Nat.le_refl _) _
                     have ow := lit_ints wr.drew (base := wr.heap.size) (Nat.le_refl _) [] (by simp) (m := 0) rfl
                     obtain ⟨A6, c6, w8, hap, hown, hgr⟩ := app_ints (wr.drew.alloc (.cells (intC []).toArray 3)) wr.heap.size _ 0 [] ow A4 k c4 _ (Es.below hi1 bl) (by omega) (by simp)
                     rw [Nat.zero_add] at hap hown
                     rw [List.nil_append] at hown
                     have bl8 : Below wr.heap.size wr w8 := bl.grown hgr (by simp) (fun j hj => (ow.lt j hj).1)
                     obtain ⟨A7, c7, w9, hap2, hown2, hgr2⟩ := app_ints w8 wr.heap.size _ k _ hown A5 (ol2 - (k + 1)) c5 _ (Es.below hi2 bl8) (by omega) bl8.size
                     have bl9 : Below wr.heap.size wr w9 := bl8.grown hgr2 bl8.size (fun j hj => (hown.lt j hj).1)
                     replace hap : (Builtin.append_ #[37, 37] 37 #[.slice (some ⟨wr.heap.size, 0, none⟩) 0 0, .slice A4 k c4]).run Try.prog (wr.drew.alloc (.cells #[] 3)) = _ := hap
                     obtain ⟨o1, ho1⟩ : ∃ x, k + (ol2 - (k + 1)) = x := ⟨_, rfl⟩
                     have ho2 : o1 + 1 = ol2 := by omega
                     rw [ho1] at hap2 hown2
                     have gO := HB.out.2
                     have ON := Lib.hid (show w9.ownsRow w.heap.size 3 1 (.slice A7 o1 c7) o1 (intC (butL own2 k)) from own_base hown2 gO)
                     have B8 := Lib.hid bl8; have B9 := Lib.hid bl9; have HO2 := Lib.hid ho2; have BL0 := Lib.hid bl
                     clear hown hown2 hgr hgr2 bl bl8 bl9 ow hoi hi1 hi2 gO Oo ho1 hgx hkk1 ho2
                     go_wp2
                     refine wp_region_noPanic ?_
                     refine wp_region_held_drew (S := (fun wv => Hid (Below wr.heap.size wr wv))) (by kernel_rfl) (Lib.hid (Below.refl _ wr).drew) (fun hS => ?_)
                     refine wpAnyH_take (i := 1) (oi := ⟨some 82, .move (.tmp 9), 37, "law.go:128", #[], none⟩) (v := ?_) rfl (by kernel_rfl) (by kernel_rfl) (by kernel_rfl) (fun _ _ _ h => h) (Or.inl ⟨by rfl, ?_⟩) hS ?_
                     rotate_left
                     · intro wv _; go_simp; try with_reducible rfl
                     try simp only [Act.put, List.setIfInBounds_toArray, List.set_cons_zero, List.set_cons_succ]
                     refine wpAnyH_take (i := 2) (oi := ⟨some 83, .move (.tmp 22), 3, "law.go:128", #[], none⟩) (v := ?_) rfl (by kernel_rfl) (by kernel_rfl) (by kernel_rfl) (fun _ _ _ h => h) (Or.inl ⟨by rfl, ?_⟩) hS ?_
                     rotate_left
                     · intro wv _; go_simp; try with_reducible rfl
                     try simp only [Act.put, List.setIfInBounds_toArray, List.set_cons_zero, List.set_cons_succ]
                     refine wpAnyH_take (i := 3) (oi := ⟨some 84, .slice 37 (.tmp 82) none (some (.tmp 83)) none, 37, "law.go:128", #[⟨1, .data⟩, ⟨2, .data⟩], none⟩) (v := ?_) rfl (by kernel_rfl) (by kernel_rfl) (by kernel_rfl) (fun _ _ _ h => h) (Or.inl ⟨by rfl, ?_⟩) hS ?_
                     rotate_left
                     · intro wv _; go_simp; try with_reducible rfl
                     try simp only [Act.put, List.setIfInBounds_toArray, List.set_cons_zero, List.set_cons_succ]
                     refine wpAnyH_take (i := 5) (oi := ⟨some 86, .move (.tmp 9), 37, "law.go:128", #[], none⟩) (v := ?_) rfl (by kernel_rfl) (by kernel_rfl) (by kernel_rfl) (fun _ _ _ h => h) (Or.inl ⟨by rfl, ?_⟩) hS ?_
                     rotate_left
                     · intro wv _; go_simp; try with_reducible rfl
                     try simp only [Act.put, List.setIfInBounds_toArray, List.set_cons_zero, List.set_cons_succ]
                     refine wpAnyH_take (i := 6) (oi := ⟨some 87, .move (.tmp 22), 3, "law.go:128", #[], none⟩) (v := ?_) rfl (by kernel_rfl) (by kernel_rfl) (by kernel_rfl) (fun _ _ _ h => h) (Or.inl ⟨by rfl, ?_⟩) hS ?_
                     rotate_left
                     · intro wv _; go_simp; try with_reducible rfl
                     try simp only [Act.put, List.setIfInBounds_toArray, List.set_cons_zero, List.set_cons_succ]
                     refine wpAnyH_take (i := 7) (oi := ⟨some 88, .binOp .add 3 (.tmp 87) (.const (Value.int IntKind.i64 1)) 3, 3, "law.go:128", #[⟨6, .data⟩], none⟩) (v := ?_) rfl (by kernel_rfl) (by kernel_rfl) (by kernel_rfl) (fun _ _ _ h => h) (Or.inl ⟨by rfl, ?_⟩) hS ?_
                     rotate_left
                     · intro wv _; go_simp; try with_reducible rfl
                     try simp only [Act.put, List.setIfInBounds_toArray, List.set_cons_zero, List.set_cons_succ]
                     refine wpAnyH_take (i := 8) (oi := ⟨some 89, .slice 37 (.tmp 86) (some (.tmp 88)) none none, 37, "law.go:128", #[⟨5, .data⟩, ⟨7, .data⟩], none⟩) (v := ?_) rfl (by kernel_rfl) (by kernel_rfl) (by kernel_rfl) (fun _ _ _ h => h) (Or.inl ⟨by rfl, ?_⟩) hS ?_
                     rotate_left
                     · intro wv _; go_simp; try with_reducible rfl
                     try simp only [Act.put, List.setIfInBounds_toArray, List.set_cons_zero, List.set_cons_succ]
                     refine wpAnyH_ready (rs := [0]) (by kernel_rfl) (by simp) (AllReadyH.cons (o := ⟨some 81, .buildSlice 37 0 #[], 37, "law.go:128", #[], none⟩) rfl (fun K hK => ?_) AllReadyH.nil)
                     go_simp
                     replace hS := BL0
                     refine Shut.out hK _ _ hS (fun _ => ?_)
                     clear hK K
                     try simp only [Act.put, List.setIfInBounds_toArray, List.set_cons_zero, List.set_cons_succ]
                     refine wpAnyH_ready (rs := [4]) (by kernel_rfl) (by simp) (AllReadyH.cons (o := ⟨some 85, .call { callee := .builtin .append, args := #[.tmp 81, .tmp 84], argTypes := #[37, 37] }, 37, "law.go:128", #[⟨0, .data⟩, ⟨3, .data⟩], none⟩) rfl (fun K hK => ?_) AllReadyH.nil)
                     refine op_app_run7 (by rfl) rfl rfl rfl hap ?_
                     replace hS := B8
                     refine Shut.out hK _ _ hS (fun _ => ?_)
                     clear hK K
                     try simp only [Act.put, List.setIfInBounds_toArray, List.set_cons_zero, List.set_cons_succ]
                     refine wpAnyH_ready (rs := [9]) (by kernel_rfl) (by simp) (AllReadyH.cons (o := ⟨some 90, .call { callee := .builtin .append, args := #[.tmp 85, .tmp 89], argTypes := #[37, 37] }, 37, "law.go:128", #[⟨4, .data⟩, ⟨8, .data⟩, ⟨4, .chain⟩], none⟩) rfl (fun K hK => ?_) AllReadyH.nil)
                     refine op_app_run7 (by rfl) rfl rfl rfl hap2 ?_
                     replace hS := B9
                     refine Shut.out hK _ _ hS (fun _ => ?_)
                     clear hK K
                     try simp only [Act.put, List.setIfInBounds_toArray, List.set_cons_zero, List.set_cons_succ]
                     refine wpAnyH_take (i := 10) (oi := ⟨some 9, .assign (.tmp 90), 37, "law.go:128", #[⟨9, .data⟩, ⟨9, .chain⟩, ⟨0, .phase⟩, ⟨1, .phase⟩, ⟨2, .phase⟩, ⟨3, .phase⟩, ⟨4, .phase⟩, ⟨5, .phase⟩, ⟨6, .phase⟩, ⟨7, .phase⟩, ⟨8, .phase⟩, ⟨9, .phase⟩], none⟩) (v := ?_) rfl (by kernel_rfl) (by kernel_rfl) (by kernel_rfl) (fun _ _ _ h => h) (Or.inl ⟨by rfl, ?_⟩) hS ?_
                     rotate_left
                     · intro wv _; go_simp; try with_reducible rfl
                     try simp only [Act.put, List.setIfInBounds_toArray, List.set_cons_zero, List.set_cons_succ]
                     refine wpAnyH_done (by kernel_rfl) ?_ _
                     refine NoPanic.normal ?_
                     go_wp2
                     have hb := B9.out
                     replace Va := Lib.hid (blk_below Va.out hb (blk_lt Va.out))
                     replace Vq := Lib.hid (blk_below Vq.out hb (blk_lt Vq.out))
                     replace Vx := Lib.hid (blk_below Vx.out hb (blk_lt Vx.out))
                     replace Vp := Lib.hid (blk_below Vp.out hb (blk_lt Vp.out))
                     replace Ra := Lib.hid (Ro.below Ra.out hb)
                     replace Rx := Lib.hid (Ro.below Rx.out hb)
                     replace HB := Lib.hid (And.intro (HB.out.1.trans (hb.mono HB.out.2)) (Nat.le_trans HB.out.2 hb.size))
                     have Oo := ON
                     clear hb hap hap2 hS
                     have HC2 := Lib.hid (show k + 1 ≤ k0 ∧ butL own2 k = own ∨ k0 < k + 1 ∧ butL own2 k = butL own k0 from Or.inr ⟨by have := HKK.out; omega, by rw [hkk2, HKK.out]⟩)
                     have HL2 := Lib.hid (show (butL own2 k).length = o1 from by have h1 := butN_len (l := own2) (k := k) (by have := HOL2.out; omega); have := HOL2.out; have := HO2.out; omega)
                     go_roundw
                     case rel => exact ⟨k + 1, o1, c7, A7, butL own2 k, rfl, by go_num, by have := HO2.out; omega, by have := HO2.out; omega, HC2, HL2.out, Va, Vq, Vx, Vp, Ra, Rx, Oo, HB⟩
                     case measure => have := HO2.out; simp [intOf, lenV]; omega
                  · as_aux_lemma =>
                     have b6 : (x == tt) = false := by simp [hxt]
                     have HC2 := Lib.hid (show k + 1 ≤ k0 ∧ own2 = own ∨ k0 < k + 1 ∧ own2 = butL own k0 from by
                       rcases HCS.out with ⟨h1, h2⟩ | ⟨h1, h2⟩
                       · rcases Nat.lt_or_ge k k0 with h3 | h3
                         · exact Or.inl ⟨by omega, h2⟩
                         · exfalso; have h4 : k = k0 := by omega
                           rw [h2, h4, HFK.out.1] at hgx; injection hgx with h5; exact hxt h5.symm
                       · exact Or.inr ⟨by omega, h2⟩)
                     clear hgx hoi HCS
                     go_wp2
                     go_roundw
                     case rel => exact ⟨k + 1, ol2, oc2, _, own2, rfl, by go_num, by omega, hl20, HC2, HOL2.out, Va, Vq, Vx, Vp, Ra, Rx, Oo, HB⟩
                     case measure => simp [intOf, lenV]; omega
                · as_aux_lemma =>
                   have b5 : decide ((k : Int) < (ol2 : Int)) = false := by simp; omega
                   have b5' : decide (k < ol2) = false := by simp; omega
                   have ho2 : own2 = butL own k0 := by
                     rcases HCS.out with ⟨h1, h2⟩ | ⟨h1, h2⟩
                     · exfalso; have h3 := HKL.out; rw [h2] at hol2; omega
                     · exact h2
                   subst ho2
                   clear HCS hol2
                   have gxa := nea_x; have gxq := neq_x; have gpa := nea_p; have gpq := neq_p
                   have gxa' := gxa.symm; have gxq' := gxq.symm; have gpa' := gpa.symm; have gpq' := gpq.symm; have naq' := naq.symm
                   have ca0 : wr.cell? ⟨sa, 0, none⟩ = some (.slice B m d) := (blk_cell Va.out 0).trans rfl
                   have fa0 : wr.frozen? ⟨sa, 0, none⟩ = false := blk_frozen Va.out 0
                   have ca1 : wr.cell? ⟨sa, 1, none⟩ = some (.int .i64 fr) := (blk_cell Va.out 1).trans rfl
                   have fa1 : wr.frozen? ⟨sa, 1, none⟩ = false := blk_frozen Va.out 1
                   have cq0 : wr.cell? ⟨sq, 0, none⟩ = some (.int .i64 hd) := (blk_cell Vq.out 0).trans rfl
                   have fq0 : wr.frozen? ⟨sq, 0, none⟩ = false := blk_frozen Vq.out 0
                   have cq1 : wr.cell? ⟨sq, 1, none⟩ = some (.int .i64 tl) := (blk_cell Vq.out 1).trans rfl
                   have fq1 : wr.frozen? ⟨sq, 1, none⟩ = false := blk_frozen Vq.out 1
                   have cx0 : wr.cell? ⟨sx, 0, none⟩ = some (.slice B2 m2 d2) := (blk_cell Vx.out 0).trans rfl
                   have cx1 : wr.cell? ⟨sx, 1, none⟩ = some (.int .i64 fr2) := (blk_cell Vx.out 1).trans rfl
                   have cp0 : wr.cell? ⟨sx + 1, 0, none⟩ = some (.int .i64 h2_) := (blk_cell Vp.out 0).trans rfl
                   have cp1 : wr.cell? ⟨sx + 1, 1, none⟩ = some (.int .i64 t2_) := (blk_cell Vp.out 1).trans rfl
                   have FA := Lib.hid (keep_pair (blk_pair Va.out (.slice B2 m2 d2) (.int .i64 fr2)) naq (.int .i64 h2_) (.int .i64 t2_))
                   have FQ := Lib.hid (blk_pair (keep_pair Vq.out naq.symm (.slice B2 m2 d2) (.int .i64 fr2)) (.int .i64 h2_) (.int .i64 t2_))
                   have FR := Lib.hid ((Rx.out.pair Va.out (by decide) gea (.slice B2 m2 d2) (.int .i64 fr2)).pair (keep_pair Vq.out naq.symm (.slice B2 m2 d2) (.int .i64 fr2)) (by decide) geq (.int .i64 h2_) (.int .i64 t2_)).drew
                   have FO := Lib.hid (own_pair (own_pair Oo.out Va.out (by decide) (.slice B2 m2 d2) (.int .i64 fr2)) (keep_pair Vq.out naq.symm (.slice B2 m2 d2) (.int .i64 fr2)) (by decide) (.int .i64 h2_) (.int .i64 t2_))
                   have FB := Lib.hid (bel_pair (bel_pair HB.out.1 gea (.slice B2 m2 d2) (.int .i64 fr2)) geq (.int .i64 h2_) (.int .i64 t2_)).drew
                   have FS := Lib.hid HB.out.2
                   go_wp2_with fail
                   go_region
                   go_wp2
                   go_roundw
                   case rel => exact ⟨i + 1, ol2, oc2, OA2, _, _, _, _, _, _, _, _, _, _, rfl, by go_num, by omega, FA.out, FQ.out, FR.out, TQ2.out, YO2.out, Lib.hid ⟨FO.out.1, FO.out.2⟩, Lib.hid ⟨FB.out, by simpa [World.setCell] using FS.out⟩⟩
                   case measure => simp [intOf]; omega
      · as_aux_lemma =>
         have en : n = i := by omega
         subst en
         have b1 : decide ((n : Int) < (n : Int)) = false := by simp
         obtain ⟨g1, g2, g3⟩ := TQ.out.done
         obtain ⟨hml, hol, hos⟩ := HM.out
         have c1 := Lib.hid (show ∀ W, Rr w W B m d rs → Calls Try.prog 14 #[.agg #[.slice B m d, .int .i64 fr], .agg #[.int .i64 hd, .int .i64 tl]] W (YesPost W true) from fun W h => rightAs h (by omega) g1)
         have c2 := Lib.hid (show ∀ W, Rr w W B m d rs → Calls Try.prog 17 #[.agg #[.slice B m d, .int .i64 fr], .agg #[.int .i64 hd, .int .i64 tl]] W (IntsPost W own) from fun W h => tasksAs h (by omega) g2)
         have c3 := Lib.hid (show ∀ W, Rr w W B m d rs → Calls Try.prog 25 #[.agg #[.slice B m d, .int .i64 fr]] W (IntsPost W (freeS (rs, fr))) from fun W h => refFree_any B m d rs fr W h.es (by omega))
         have c4 := Lib.hid (show ∀ (A B : Option Addr) (n c m d : Nat) W, Is W A n c own → Is W B m d own → Calls Try.prog 16 #[.slice A n c, .slice B m d] W (YesPost W true) from fun A B n c m d W h1 h2 => intsTrue own h1 h2 (by omega))
         have G3 := Lib.hid g3
         have HOL := Lib.hid hol
         clear g1 g2 g3 TQ YO hml hol hos
         have ca0 : wr.cell? ⟨sa, 0, none⟩ = some (.slice B m d) := (blk_cell Va.out 0).trans rfl
         have ca1 : wr.cell? ⟨sa, 1, none⟩ = some (.int .i64 fr) := (blk_cell Va.out 1).trans rfl
         have cq0 : wr.cell? ⟨sq, 0, none⟩ = some (.int .i64 hd) := (blk_cell Vq.out 0).trans rfl
         have cq1 : wr.cell? ⟨sq, 1, none⟩ = some (.int .i64 tl) := (blk_cell Vq.out 1).trans rfl
         go_wp2_with fail
         refine (c1.out _ Ra.out).mono ?_
         rintro e w5 ⟨rfl, hb⟩
         clear ca0 ca1 cq0 cq1
         replace Va := Lib.hid (blk_below Va.out hb (blk_lt Va.out))
         replace Vq := Lib.hid (blk_below Vq.out hb (blk_lt Vq.out))
         replace Ra := Lib.hid (Ro.below Ra.out hb)
         replace Oo := Lib.hid (own_below Oo.out hb)
         replace HB := Lib.hid (And.intro (HB.out.1.trans (hb.mono HB.out.2)) (Nat.le_trans HB.out.2 hb.size))
         clear hb
         have ca0 : w5.cell? ⟨sa, 0, none⟩ = some (.slice B m d) := (blk_cell Va.out 0).trans rfl
         have ca1 : w5.cell? ⟨sa, 1, none⟩ = some (.int .i64 fr) := (blk_cell Va.out 1).trans rfl
         have cq0 : w5.cell? ⟨sq, 0, none⟩ = some (.int .i64 hd) := (blk_cell Vq.out 0).trans rfl
         have cq1 : w5.cell? ⟨sq, 1, none⟩ = some (.int .i64 tl) := (blk_cell Vq.out 1).trans rfl
         go_wp2_with fail
         refine (c2.out _ Ra.out).mono ?_
         rintro e w6 ⟨A1, n1, e1, rfl, his, hb⟩
         clear ca0 ca1 cq0 cq1
         replace Va := Lib.hid (blk_below Va.out hb (blk_lt Va.out))
         replace Vq := Lib.hid (blk_below Vq.out hb (blk_lt Vq.out))
         replace Ra := Lib.hid (Ro.below Ra.out hb)
         replace Oo := Lib.hid (own_below Oo.out hb)
         replace HB := Lib.hid (And.intro (HB.out.1.trans (hb.mono HB.out.2)) (Nat.le_trans HB.out.2 hb.size))
         clear hb
         have hoi : Is w6 OA ol oc own := by
           obtain ⟨_, _, he, h⟩ := Es.of_own Oo.out (intC_one _)
           injection he with he1 he2 he3; subst he1; subst he3; exact h
         go_wp2_with fail
         refine (c4.out _ _ _ _ _ _ _ his hoi).mono ?_
         rintro e w7 ⟨rfl, hb⟩
         replace Va := Lib.hid (blk_below Va.out hb (blk_lt Va.out))
         replace Vq := Lib.hid (blk_below Vq.out hb (blk_lt Vq.out))
         replace Ra := Lib.hid (Ro.below Ra.out hb)
         replace Oo := Lib.hid (own_below Oo.out hb)
         replace HB := Lib.hid (And.intro (HB.out.1.trans (hb.mono HB.out.2)) (Nat.le_trans HB.out.2 hb.size))
         clear hb
         clear his hoi
         have ca0 : w7.cell? ⟨sa, 0, none⟩ = some (.slice B m d) := (blk_cell Va.out 0).trans rfl
         have ca1 : w7.cell? ⟨sa, 1, none⟩ = some (.int .i64 fr) := (blk_cell Va.out 1).trans rfl
         go_wp2_with fail
         refine (c3.out _ Ra.out).mono ?_
         rintro e w8 ⟨A2, n2, e2, rfl, his, hb⟩
         clear ca0 ca1
         replace Va := Lib.hid (blk_below Va.out hb (blk_lt Va.out))
         replace Vq := Lib.hid (blk_below Vq.out hb (blk_lt Vq.out))
         replace Ra := Lib.hid (Ro.below Ra.out hb)
         replace Oo := Lib.hid (own_below Oo.out hb)
         replace HB := Lib.hid (And.intro (HB.out.1.trans (hb.mono HB.out.2)) (Nat.le_trans HB.out.2 hb.size))
         clear hb
         have hn2 := Is.len his
         have hEq : ((n2 : Int) == (z : Int) - (ol : Int)) = true := by have := G3.out; have := HOL.out; simp; omega
         have hz2 : ol ≤ z := by have := G3.out; have := HOL.out; omega
         clear his hn2
         go_wp2
         go_ret
         exact ⟨rfl, HB.out.1⟩
end Go.Proofs.Ytombfempdfdeoaa
