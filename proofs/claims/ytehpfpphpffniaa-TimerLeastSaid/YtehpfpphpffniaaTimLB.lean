/- What the landed timer's closure, slices.IndexFunc, slices.ContainsFunc over it and its own Right answer; for lists of up to 16384. -/
import Derived.Test.YtehpfpphpffniaaTimL
namespace Go.Proofs.Ytehpfpphpffniaa
set_option linter.unusedVariables false
set_option linter.unusedSimpArgs false
open Go.RowKit
/-- the first one of whom it holds, or -1. -/
def IdxT (w : World) (p : Tm → Bool) (ws : List Tm) (e : Ending) (w' : World) : Prop :=
  ∃ k : Int, e = .returned (.int .i64 k) ∧ ((∃ j : Nat, k = j ∧ j < ws.length ∧ p (tmAt ws j) = true ∧ ∀ i : Nat, i < j → p (tmAt ws i) = false) ∨ (k = -1 ∧ ∀ i : Nat, i < ws.length → p (tmAt ws i) = false)) ∧ Below w.heap.size w w'
def AnyT (w : World) (p : Tm → Bool) (ws : List Tm) (e : Ending) (w' : World) : Prop :=
  ∃ y, e = .returned (.bool y) ∧ (y = true ↔ ∃ i : Nat, i < ws.length ∧ p (tmAt ws i) = true) ∧ Below w.heap.size w w'
def tmTaskP (v : Int) (x : Tm) : Bool := x.2 == v
set_option maxRecDepth 100000 in
set_option maxHeartbeats 4000000 in
theorem tmTask1_any (x : Tm) (b : Nat) (v : Int) (w : World) (hb : w.heap[b]? = some (.cells #[.int .i64 v] 3)) :
    Calls Try.prog 38 #[.agg #[.int .i64 x.1, .int .i64 x.2], .pointer (some ⟨b, 0, none⟩)] w (YesT w (tmTaskP v x)) := by
  obtain ⟨ti, ta⟩ := x
  unfold tmTaskP
  simp only
  have VB := Lib.hid hb
  clear hb
  obtain ⟨v1, hv1⟩ : ∃ W, w.alloc (.cells #[.int .i64 ti, .int .i64 ta] 24) = W := ⟨_, rfl⟩
  have fr1 : Fr w v1 w.heap.size [.cells #[.int .i64 ti, .int .i64 ta] 24] := hv1 ▸ Fr.first w _
  have z1 : v1.heap.size = w.heap.size + 1 := by rw [← hv1, Fr.size1]
  generalize hq : w.heap.size = q at *
  have FR := Lib.hid fr1
  clear fr1
  have hvb : v1.heap[b]? = some (.cells #[.int .i64 v] 3) := by rw [← hv1, heap_alloc_old _ _ (blk_lt VB.out)]; exact VB.out
  have cb := blk_cell hvb 0
  simp only [List.getElem?_toArray, List.getElem?_cons_zero] at cb
  clear hvb
  have c00 : v1.cell? ⟨q, 0, none⟩ = some (.int .i64 ti) := FR.out.cell 0 0 rfl rfl rfl
  have c01 : v1.cell? ⟨q, 1, none⟩ = some (.int .i64 ta) := FR.out.cell 0 1 rfl rfl rfl
  go_enter Try.func38, Try.ntmps38
  go_wp2
  go_ret
  exact ⟨rfl, FR.out.out⟩
theorem tmTask_any (v : Int) (w : World) : Calls Try.prog 28 #[.int .i64 v] w (fun e w' => ∃ b, e = .returned (.func (.func 38) #[] #[.pointer (some ⟨b, 0, none⟩)]) ∧ w'.heap[b]? = some (.cells #[.int .i64 v] 3) ∧ w.heap.size ≤ b ∧ Below w.heap.size w w') := by
  have hmf : ∀ (fn : Fn) (first cap : Array Value) (w : World), (Instr.makeFunc fn first cap).run Try.prog w = .ok (.func fn first cap) w := fun _ _ _ _ => rfl
  have hk := Lib.hid (heap_alloc_new w (.cells #[.int .i64 v] 3))
  have hb := Lib.hid ((Below.refl w.heap.size w).alloc (Nat.le_refl _) (.cells #[.int .i64 v] 3))
  go_enter Try.func28, Try.ntmps28
  go_wp2
  go_ret
  exact ⟨_, rfl, hk.out, Nat.le_refl _, hb.out⟩
set_option maxRecDepth 100000 in
set_option maxHeartbeats 4000000 in
theorem tmTaskIndex_any (A : Option Addr) (n c : Nat) (ws : List Tm) (b : Nat) (v : Int) (w : World) (hx : Tms w A n c ws) (hb : w.heap[b]? = some (.cells #[.int .i64 v] 3)) (hn : n ≤ 16384) :
    Calls Try.prog 33 #[.slice A n c, .func (.func 38) #[] #[.pointer (some ⟨b, 0, none⟩)]] w (IdxT w (tmTaskP v) ws) := by
  have RX := Lib.hid hx
  have VB := Lib.hid hb
  have LD := Lib.hid (fun (W : World) (x : Tm) h => tmTask1_any x b v W h)
  have hlen := Lib.hid hx.len
  clear hx hb
  go_enter Try.func33, Try.ntmps33
  go_wp2
  go_loopw [8] (fun kv wr => ∃ k : Nat, kv = .int .i64 (k : Int) ∧ k ≤ n ∧ Hid (Below w.heap.size w wr) ∧ Hid (∀ i : Nat, i < k → tmTaskP v (tmAt ws i) = false)) (fun kv _ => n - (intOf kv).toNat)
  case atStart => exact ⟨0, rfl, by omega, Below.refl _ _, fun j hj => by omega⟩
  case round =>
    obtain ⟨k, rfl, hk, HB, HN⟩ := hrel
    by_cases hlt : k < n
    · have b1 : decide ((k : Int) < (n : Int)) = true := by simpa using hlt
      obtain ⟨b2, off, rfl, hb0, k0, k1⟩ := Tms.look (show Tms wr A n c ws from Es.below RX.out HB.out) k hlt
      have hi0 : (0 : Int) ≤ (k : Int) := by omega
      have hi1 : (k : Int) < (n : Int) := by omega
      have LD2 := LD.out wr (tmAt ws k) (blk_below VB.out HB.out (blk_lt VB.out))
      have HK := Lib.hid (show k < ws.length by have := hlen.out; omega)
      clear hb0
      cases he : tmTaskP v (tmAt ws k)
      · rw [he] at LD2
        replace LD2 := Lib.hid LD2
        have HA := Lib.hid (show ∀ i : Nat, i < k + 1 → tmTaskP v (tmAt ws i) = false from fun i hi => by
          rcases Nat.lt_or_ge i k with h8 | h8
          · exact HN.out i h8
          · have : i = k := by omega
            subst this; exact he)
        clear he HN
        go_wp2_with fail
        refine LD2.out.mono ?_
        rintro e w2 ⟨rfl, hb⟩
        have HB2 := Lib.hid (HB.out.trans (hb.mono HB.out.size))
        clear hb k0 k1
        go_wp2
        go_roundw
        case rel => exact ⟨k + 1, by go_num, by omega, HB2.out, HA.out⟩
        case measure => simp [intOf]; omega
      · rw [he] at LD2
        replace LD2 := Lib.hid LD2
        have HE := Lib.hid he
        clear he
        go_wp2_with fail
        refine LD2.out.mono ?_
        rintro e w2 ⟨rfl, hb⟩
        have HB2 := Lib.hid (HB.out.trans (hb.mono HB.out.size))
        clear hb k0 k1
        go_wp2
        go_ret
        exact ⟨_, rfl, Or.inl ⟨k, rfl, HK.out, HE.out, HN.out⟩, HB2.out⟩
    · have en : n = k := by omega
      subst en
      have b1 : decide ((n : Int) < (n : Int)) = false := by simp
      go_wp2
      go_ret
      exact ⟨_, rfl, Or.inr ⟨rfl, fun i hi => HN.out i (by have := hlen.out; omega)⟩, HB.out⟩
theorem tmTaskContains_any (A : Option Addr) (n c : Nat) (ws : List Tm) (b : Nat) (v : Int) (w : World) (hx : Tms w A n c ws) (hb : w.heap[b]? = some (.cells #[.int .i64 v] 3)) (hn : n ≤ 16384) :
    Calls Try.prog 27 #[.slice A n c, .func (.func 38) #[] #[.pointer (some ⟨b, 0, none⟩)]] w (AnyT w (tmTaskP v) ws) := by
  have IX := Lib.hid (tmTaskIndex_any A n c ws b v w hx hb hn)
  clear hx hb
  go_enter Try.func27, Try.ntmps27
  go_wp2_with fail
  refine IX.out.mono ?_
  rintro e w2 ⟨k, rfl, hk, hb⟩
  rcases hk with ⟨j, rfl, h0, h1, _⟩ | ⟨rfl, h1⟩
  · have b0 : decide ((0 : Int) ≤ (j : Int)) = true := by simp
    have H0 := Lib.hid h0; have H1 := Lib.hid h1; have HB := Lib.hid hb
    clear h0 h1 hb
    go_wp2
    go_ret
    exact ⟨_, rfl, ⟨fun _ => ⟨j, H0.out, H1.out⟩, fun _ => rfl⟩, HB.out⟩
  · have H1 := Lib.hid h1; have HB := Lib.hid hb
    clear h1 hb
    go_wp2
    go_ret
    exact ⟨_, rfl, ⟨fun h => (by cases h), fun ⟨i, hi, h⟩ => (by rw [H1.out i hi] at h; cases h)⟩, HB.out⟩
theorem anyT_iff {h : List Tm} {k : Int} : (∃ i : Nat, i < h.length ∧ tmTaskP k (tmAt h i) = true) ↔ 0 ≤ placeH h k := by
  constructor
  · rintro ⟨i, hi, h1⟩
    rcases Int.lt_or_le (placeH h k) 0 with h2 | h2
    · exact absurd (by simpa [tmTaskP] using h1) (place_none.1 h2 _ (tmAt_mem hi))
    · exact h2
  · intro h0
    obtain ⟨h1, h2⟩ := place_some h0
    exact ⟨_, h1, by simp [tmTaskP, h2]⟩
theorem plT_first {k : Int} : ∀ {h : List Tm} {j i : Nat}, j < h.length → tmTaskP k (tmAt h j) = true → (∀ l : Nat, l < j → tmTaskP k (tmAt h l) = false) → plT k h i = ((i + j : Nat) : Int)
  | [], j, i, hj, _, _ => by simp at hj
  | x :: h, 0, i, _, h1, _ => by
    have h2 : x.2 = k := by have h1 : (x.2 == k) = true := h1; simpa using h1
    unfold plT; rw [if_pos h2]; rfl
  | x :: h, j + 1, i, hj, h1, h2 => by
    have h3 : ¬ x.2 = k := by have h1 : (x.2 == k) = false := h2 0 (by omega); simpa using h1
    unfold plT; rw [if_neg h3]
    have := plT_first (k := k) (h := h) (j := j) (i := i + 1) (by simpa using hj) h1 (fun l hl => h2 (l + 1) (by omega))
    rw [this]; congr 1; omega
theorem idxT_place {h : List Tm} {k x : Int} (hk : (∃ j : Nat, x = j ∧ j < h.length ∧ tmTaskP k (tmAt h j) = true ∧ ∀ i : Nat, i < j → tmTaskP k (tmAt h i) = false) ∨ (x = -1 ∧ ∀ i : Nat, i < h.length → tmTaskP k (tmAt h i) = false)) : (x = placeH h k ∧ 0 ≤ x) ∨ (x < 0 ∧ placeH h k < 0) := by
  rcases hk with ⟨j, rfl, h1, h2, h3⟩ | ⟨rfl, h1⟩
  · refine Or.inl ⟨?_, by omega⟩
    have := plT_first (i := 0) h1 h2 h3
    unfold placeH; rw [this]; congr 1; omega
  · refine Or.inr ⟨by omega, ?_⟩
    rcases Int.lt_or_le (placeH h k) 0 with h2 | h2
    · exact h2
    · obtain ⟨i, hi, h3⟩ := anyT_iff.2 h2
      rw [h1 i hi] at h3; cases h3
set_option maxRecDepth 100000 in
set_option maxHeartbeats 8000000 in
theorem tmRightL (A : Option Addr) (n c : Nat) (h : List Tm) (w : World) (hx : Tms w A n c h) (hn : n ≤ 16384) :
    Calls Try.prog 16 #[.slice A n c] w (YesT w (rightH h)) := by
  have hlen : h.length = n := hx.len
  have RX := Lib.hid hx
  have HL := Lib.hid hlen
  have MB := Lib.hid (fun (a1 a2 : Int) (W : World) => may12_any a1 a2 W)
  have AH := Lib.hid (fun (i : Nat) (W : World) (hw : Tms W A n c h) (hi : i < n) => ahead12_any A n c i h W hw hn hi)
  obtain ⟨R, hR⟩ : ∃ R, rightH h = R := ⟨_, rfl⟩
  rw [hR]
  clear hx
  by_cases h2 : 12 < n
  · have b1 : decide ((12 : Int) < (n : Int)) = true := by simp; omega
    have b1n : decide (12 < n) = true := by simp; omega
    have HE := Lib.hid (show R = false from by rw [← hR]; exact decide_eq_false (fun h5 => by have := h5.1; omega))
    clear h2 hR hlen
    go_enter Try.func16, Try.ntmps16
    go_wp2
    go_ret
    rw [HE.out]
    exact ⟨rfl, Below.refl _ _⟩
  · have b1 : decide ((12 : Int) < (n : Int)) = false := by simp; omega
    have b1n : decide (12 < n) = false := by simp; omega
    have n12 : n ≤ 12 := by omega
    have HRO := Lib.hid (show okTs h n → R = true from fun h5 => by rw [← hR]; exact decide_eq_true ⟨by omega, by rw [hlen]; exact h5⟩)
    have HRN := Lib.hid (show ∀ i : Nat, i < n → ¬ okT h i → R = false from fun i hi h5 => by rw [← hR]; exact decide_eq_false (fun hh => h5 (hh.2 i (by omega))))
    clear h2 hR hlen
    go_enter Try.func16, Try.ntmps16
    go_wp2
    go_loopw [10] (fun iv wr => ∃ (i : Nat), iv = .int .i64 (i : Int) ∧ i ≤ n ∧ Hid (okTs h i) ∧ Hid (Below w.heap.size w wr)) (fun iv _ => n - (intOf iv).toNat)
    case atStart => exact ⟨0, rfl, by omega, fun j hj => by omega, Below.refl _ _⟩
    case round =>
      obtain ⟨i, rfl, hi, HOK, HB⟩ := hrel
      by_cases hlt : i < n
      · have c1 : decide ((i : Int) < (n : Int)) = true := by simpa using hlt
        have i0 : (0 : Int) ≤ (i : Int) := by omega
        have i1 : (i : Int) < (n : Int) := by omega
        have RY := Lib.hid (Es.below RX.out HB.out)
        obtain ⟨A2, c2, hsl, htk⟩ := tms_take (P := Try.prog) (show Tms wr A n c h from RY.out) 22 unTms szTms (i : Int) i rfl hi
        have TK := Lib.hid htk; have HSL := Lib.hid hsl
        clear htk hsl
        obtain ⟨b, off, he, hb0, k0, k1⟩ := Tms.look RY.out i hlt
        have HAE := Lib.hid he
        obtain ⟨⟨tw, tk⟩, hti⟩ : ∃ x, tmAt h i = x := ⟨_, rfl⟩
        rw [hti] at k0 k1
        simp only at k0 k1
        have HTI := Lib.hid hti
        have HLT := Lib.hid hlt
        clear hti hb0 hlt
        obtain ⟨w3, hw3⟩ : ∃ W, wr.alloc (.cells #[.int .i64 0, .int .i64 0] 24) = W := ⟨_, rfl⟩
        have hv3 : w3.heap[wr.heap.size]? = some (.cells #[.int .i64 0, .int .i64 0] 24) := hw3 ▸ heap_alloc_new _ _
        have hb3 : Below wr.heap.size wr w3 := hw3 ▸ (Below.refl _ _).alloc (Nat.le_refl _) _
        obtain ⟨w5, hw5⟩ : ∃ W, (w3.setCell ⟨wr.heap.size, 0, none⟩ (.int .i64 tw)).setCell ⟨wr.heap.size, 1, none⟩ (.int .i64 tk) = W := ⟨_, rfl⟩
        have hb5 : Below wr.heap.size wr w5 := hw5 ▸ (hb3.setCell (p := ⟨wr.heap.size, 0, none⟩) (Nat.le_refl _) _).setCell (p := ⟨wr.heap.size, 1, none⟩) (Nat.le_refl _) _
        have hv5 : w5.heap[wr.heap.size]? = some (.cells #[.int .i64 tw, .int .i64 tk] 24) := by have h5 := blk_set (j := 1) (blk_set (j := 0) hv3 (.int .i64 tw)) (.int .i64 tk); rw [← hw5]; exact h5
        have HB5 := Lib.hid (HB.out.trans (hb5.mono HB.out.size))
        replace RY := Lib.hid (Es.below RY.out hb5)
        replace TK := Lib.hid (Es.below TK.out hb5)
        generalize hs : wr.heap.size = s at *
        have a0 : w3.cell? ⟨s, 0, none⟩ = some (.int .i64 0) := (blk_cell hv3 0).trans rfl
        have a1 : w3.cell? ⟨s, 1, none⟩ = some (.int .i64 0) := (blk_cell hv3 1).trans rfl
        have ff0 : w3.frozen? ⟨s, 0, none⟩ = false := blk_frozen hv3 0
        have ff1 : w3.frozen? ⟨s, 1, none⟩ = false := blk_frozen hv3 1
        have V5 := Lib.hid hv5
        have L5 := Lib.hid (blk_lt hv5)
        subst he
        clear hv3 hb3 hb5 HB
        go_upto_region 6 with fail
        clear a0 a1 ff0 ff1 k0 k1 hw3 hw5
        by_cases h3 : 0 ≤ tw ∧ 0 ≤ tk
        · have HT := Lib.hid h3
          replace MB := Lib.hid (fun (W : World) => by have := MB.out tw tk W; rwa [decide_eq_true h3] at this)
          clear h3
          by_cases h4 : 0 < i ∧ befT (tw, tk) (tmAt h ((i - 1) / 4))
          · have HE := Lib.hid (HRN.out i HLT.out (fun h5 => h5.2.2.1 h4.1 (by rw [HTI.out]; exact h4.2)))
            replace AH := Lib.hid (fun (W : World) (hw : Tms W (some ⟨b, off, none⟩) n c h) => by have := AH.out i W hw HLT.out; rwa [HTI.out, decide_eq_true h4] at this)
            clear h4
            refine wp_region_noPanic ?_
            refine wp_region_held_drew (S := (fun wv => Hid (Below w5.heap.size w5 wv))) (by kernel_rfl) (Lib.hid (Below.refl _ w5).drew) (fun hS => ?_)
            refine wpAnyH_take (i := 0) (oi := ⟨some 15, .load 24 (.tmp 4), 24, "timer.go:17", #[], none⟩) (v := .agg (([.int .i64 tw, .int .i64 tk] : List Value)).toArray) rfl (by kernel_rfl) (by kernel_rfl) (by kernel_rfl) (fun _ _ _ h => h) (yieldsIf_load_mid (by rfl) _ _ (by rfl) (s) (0) (by rfl) (([.int .i64 tw, .int .i64 tk] : List Value)) _ (fun wv hS => blk_rngl (blk_below V5.out hS.out L5.out)) Try.underlying24 (by rfl) (by kernel_rfl)) hS ?_
            try simp only [Act.put, List.setIfInBounds_toArray, List.set_cons_zero, List.set_cons_succ]
            refine wpAnyH_ready (rs := [1]) (by kernel_rfl) (by simp) (AllReadyH.cons (o := ⟨some 16, .call { callee := .value (.func 26), args := #[.tmp 15], argTypes := #[24] }, 4, "timer.go:17", #[⟨0, .data⟩], none⟩) rfl (fun K hK => ?_) AllReadyH.nil)
            go_simp
            refine (MB.out _).mono ?_; rintro e wa ⟨rfl, hbb⟩
            replace hS := Lib.hid (hS.out.trans (hbb.mono hS.out.size))
            clear hbb
            go_wp2_with fail
            refine Shut.out hK _ _ hS (fun _ => ?_)
            clear hK K
            try simp only [Act.put, List.setIfInBounds_toArray, List.set_cons_zero, List.set_cons_succ]
            refine wpAnyH_take (i := 2) (oi := ⟨some 17, .unOp .not 4 (.tmp 16), 4, "timer.go:17", #[⟨1, .data⟩], none⟩) (v := ?_) rfl (by kernel_rfl) (by kernel_rfl) (by kernel_rfl) (fun _ _ _ h => h) (Or.inl ⟨by rfl, ?_⟩) hS ?_
            rotate_left
            · intro wv _; go_simp; try with_reducible rfl
            try simp only [Act.put, List.setIfInBounds_toArray, List.set_cons_zero, List.set_cons_succ]
            refine wpAnyH_take (i := 3) (oi := ⟨some 18, .move (.tmp 17), 4, "timer.go:17", #[⟨2, .data⟩, ⟨1, .chain⟩], none⟩) (v := ?_) rfl (by kernel_rfl) (by kernel_rfl) (by kernel_rfl) (fun _ _ _ h => h) (Or.inl ⟨by rfl, ?_⟩) hS ?_
            rotate_left
            · intro wv _; go_simp; try with_reducible rfl
            try simp only [Act.put, List.setIfInBounds_toArray, List.set_cons_zero, List.set_cons_succ]
            refine wpAnyH_take (i := 4) (oi := ⟨some 19, .move (.tmp 0), 22, "timer.go:17", #[⟨3, .guard⟩], some (3, false)⟩) (v := ?_) rfl (by kernel_rfl) (by kernel_rfl) (by kernel_rfl) (fun _ _ _ h => h) (Or.inl ⟨by rfl, ?_⟩) hS ?_
            rotate_left
            · intro wv _; go_simp; try with_reducible rfl
            try simp only [Act.put, List.setIfInBounds_toArray, List.set_cons_zero, List.set_cons_succ]
            refine wpAnyH_take (i := 5) (oi := ⟨some 20, .move (.tmp 3), 3, "timer.go:17", #[⟨3, .guard⟩], some (3, false)⟩) (v := ?_) rfl (by kernel_rfl) (by kernel_rfl) (by kernel_rfl) (fun _ _ _ h => h) (Or.inl ⟨by rfl, ?_⟩) hS ?_
            rotate_left
            · intro wv _; go_simp; try with_reducible rfl
            try simp only [Act.put, List.setIfInBounds_toArray, List.set_cons_zero, List.set_cons_succ]
            refine wpAnyH_ready (rs := [6]) (by kernel_rfl) (by simp) (AllReadyH.cons (o := ⟨some 21, .call { callee := .value (.func 34), args := #[.tmp 19, .tmp 20], argTypes := #[44, 3] }, 4, "timer.go:17", #[⟨4, .data⟩, ⟨5, .data⟩, ⟨3, .chain⟩, ⟨3, .guard⟩], some (3, false)⟩) rfl (fun K hK => ?_) AllReadyH.nil)
            go_simp
            refine (AH.out _ (Es.below RY.out hS.out)).mono ?_; rintro e wb ⟨rfl, hbb⟩
            replace hS := Lib.hid (hS.out.trans (hbb.mono hS.out.size))
            clear hbb
            go_wp2_with fail
            refine Shut.out hK _ _ hS (fun _ => ?_)
            clear hK K
            try simp only [Act.put, List.setIfInBounds_toArray, List.set_cons_zero, List.set_cons_succ]
            refine wpAnyH_take (i := 7) (oi := ⟨some 22, .pick (.tmp 18) (.const (Value.bool true)) (.tmp 21), 4, "timer.go:17", #[⟨3, .data⟩, ⟨6, .data⟩], none⟩) (v := ?_) rfl (by kernel_rfl) (by kernel_rfl) (by kernel_rfl) (fun _ _ _ h => h) (Or.inl ⟨by rfl, ?_⟩) hS ?_
            rotate_left
            · intro wv _; go_simp; try with_reducible rfl
            try simp only [Act.put, List.setIfInBounds_toArray, List.set_cons_zero, List.set_cons_succ]
            refine wpAnyH_take (i := 8) (oi := ⟨some 23, .move (.tmp 22), 4, "timer.go:17", #[⟨7, .data⟩, ⟨6, .chain⟩], none⟩) (v := ?_) rfl (by kernel_rfl) (by kernel_rfl) (by kernel_rfl) (fun _ _ _ h => h) (Or.inl ⟨by rfl, ?_⟩) hS ?_
            rotate_left
            · intro wv _; go_simp; try with_reducible rfl
            try simp only [Act.put, List.setIfInBounds_toArray, List.set_cons_zero, List.set_cons_succ]
            refine wpAnyH_take (i := 9) (oi := ⟨some 24, .move (.tmp 0), 22, "timer.go:17", #[⟨8, .guard⟩], some (8, false)⟩) (v := undef) rfl (by kernel_rfl) (by kernel_rfl) (by kernel_rfl) (fun _ _ _ h => h) (Or.inr ⟨by rfl, rfl⟩) hS ?_
            try simp only [Act.put, List.setIfInBounds_toArray, List.set_cons_zero, List.set_cons_succ]
            refine wpAnyH_take (i := 10) (oi := ⟨some 25, .move (.tmp 3), 3, "timer.go:17", #[⟨8, .guard⟩], some (8, false)⟩) (v := undef) rfl (by kernel_rfl) (by kernel_rfl) (by kernel_rfl) (fun _ _ _ h => h) (Or.inr ⟨by rfl, rfl⟩) hS ?_
            try simp only [Act.put, List.setIfInBounds_toArray, List.set_cons_zero, List.set_cons_succ]
            refine wpAnyH_take (i := 11) (oi := ⟨some 26, .slice 22 (.tmp 24) none (some (.tmp 25)) none, 22, "timer.go:17", #[⟨9, .data⟩, ⟨10, .data⟩, ⟨8, .guard⟩], some (8, false)⟩) (v := undef) rfl (by kernel_rfl) (by kernel_rfl) (by kernel_rfl) (fun _ _ _ h => h) (Or.inr ⟨by rfl, rfl⟩) hS ?_
            try simp only [Act.put, List.setIfInBounds_toArray, List.set_cons_zero, List.set_cons_succ]
            refine wpAnyH_take (i := 12) (oi := ⟨some 27, .fieldAddr 24 (.tmp 4) 1, 0, "timer.go:17", #[⟨8, .guard⟩], some (8, false)⟩) (v := undef) rfl (by kernel_rfl) (by kernel_rfl) (by kernel_rfl) (fun _ _ _ h => h) (Or.inr ⟨by rfl, rfl⟩) hS ?_
            try simp only [Act.put, List.setIfInBounds_toArray, List.set_cons_zero, List.set_cons_succ]
            refine wpAnyH_take (i := 13) (oi := ⟨some 28, .load 3 (.tmp 27), 3, "timer.go:17", #[⟨12, .data⟩, ⟨8, .guard⟩], some (8, false)⟩) (v := undef) rfl (by kernel_rfl) (by kernel_rfl) (by kernel_rfl) (fun _ _ _ h => h) (Or.inr ⟨by rfl, rfl⟩) hS ?_
            try simp only [Act.put, List.setIfInBounds_toArray, List.set_cons_zero, List.set_cons_succ]
            refine wpAnyH_take (i := 14) (oi := ⟨some 29, .call { callee := .value (.func 28), args := #[.tmp 28], argTypes := #[3] }, 46, "timer.go:17", #[⟨13, .data⟩, ⟨8, .chain⟩, ⟨8, .guard⟩], some (8, false)⟩) (v := undef) rfl (by kernel_rfl) (by kernel_rfl) (by kernel_rfl) (fun _ _ _ h => h) (Or.inr ⟨by rfl, rfl⟩) hS ?_
            try simp only [Act.put, List.setIfInBounds_toArray, List.set_cons_zero, List.set_cons_succ]
            refine wpAnyH_take (i := 15) (oi := ⟨some 30, .call { callee := .value (.func 27), args := #[.tmp 26, .tmp 29], argTypes := #[22, 46] }, 4, "timer.go:17", #[⟨11, .data⟩, ⟨14, .data⟩, ⟨14, .chain⟩, ⟨8, .guard⟩], some (8, false)⟩) (v := undef) rfl (by kernel_rfl) (by kernel_rfl) (by kernel_rfl) (fun _ _ _ h => h) (Or.inr ⟨by rfl, rfl⟩) hS ?_
            try simp only [Act.put, List.setIfInBounds_toArray, List.set_cons_zero, List.set_cons_succ]
            refine wpAnyH_take (i := 16) (oi := ⟨some 31, .pick (.tmp 23) (.const (Value.bool true)) (.tmp 30), 4, "timer.go:17", #[⟨8, .data⟩, ⟨15, .data⟩], none⟩) (v := ?_) rfl (by kernel_rfl) (by kernel_rfl) (by kernel_rfl) (fun _ _ _ h => h) (Or.inl ⟨by rfl, ?_⟩) hS ?_
            rotate_left
            · intro wv _; go_simp; try with_reducible rfl
            try simp only [Act.put, List.setIfInBounds_toArray, List.set_cons_zero, List.set_cons_succ]
            refine wpAnyH_done (by kernel_rfl) ?_ _
            refine NoPanic.normal ?_
            go_wp2
            go_ret
            rw [HE.out]
            exact ⟨rfl, HB5.out.trans (hS.out.mono HB5.out.size)⟩
          · have HA := Lib.hid h4
            replace AH := Lib.hid (fun (W : World) (hw : Tms W (some ⟨b, off, none⟩) n c h) => by have := AH.out i W hw HLT.out; rwa [HTI.out, decide_eq_false h4] at this)
            clear h4
            refine wp_region_noPanic ?_
            refine wp_region_held_drew (S := (fun wv => Hid (Below w5.heap.size w5 wv))) (by kernel_rfl) (Lib.hid (Below.refl _ w5).drew) (fun hS => ?_)
            refine wpAnyH_take (i := 0) (oi := ⟨some 15, .load 24 (.tmp 4), 24, "timer.go:17", #[], none⟩) (v := .agg (([.int .i64 tw, .int .i64 tk] : List Value)).toArray) rfl (by kernel_rfl) (by kernel_rfl) (by kernel_rfl) (fun _ _ _ h => h) (yieldsIf_load_mid (by rfl) _ _ (by rfl) (s) (0) (by rfl) (([.int .i64 tw, .int .i64 tk] : List Value)) _ (fun wv hS => blk_rngl (blk_below V5.out hS.out L5.out)) Try.underlying24 (by rfl) (by kernel_rfl)) hS ?_
            try simp only [Act.put, List.setIfInBounds_toArray, List.set_cons_zero, List.set_cons_succ]
            refine wpAnyH_ready (rs := [1]) (by kernel_rfl) (by simp) (AllReadyH.cons (o := ⟨some 16, .call { callee := .value (.func 26), args := #[.tmp 15], argTypes := #[24] }, 4, "timer.go:17", #[⟨0, .data⟩], none⟩) rfl (fun K hK => ?_) AllReadyH.nil)
            go_simp
            refine (MB.out _).mono ?_; rintro e wa ⟨rfl, hbb⟩
            replace hS := Lib.hid (hS.out.trans (hbb.mono hS.out.size))
            clear hbb
            go_wp2_with fail
            refine Shut.out hK _ _ hS (fun _ => ?_)
            clear hK K
            try simp only [Act.put, List.setIfInBounds_toArray, List.set_cons_zero, List.set_cons_succ]
            refine wpAnyH_take (i := 2) (oi := ⟨some 17, .unOp .not 4 (.tmp 16), 4, "timer.go:17", #[⟨1, .data⟩], none⟩) (v := ?_) rfl (by kernel_rfl) (by kernel_rfl) (by kernel_rfl) (fun _ _ _ h => h) (Or.inl ⟨by rfl, ?_⟩) hS ?_
            rotate_left
            · intro wv _; go_simp; try with_reducible rfl
            try simp only [Act.put, List.setIfInBounds_toArray, List.set_cons_zero, List.set_cons_succ]
            refine wpAnyH_take (i := 3) (oi := ⟨some 18, .move (.tmp 17), 4, "timer.go:17", #[⟨2, .data⟩, ⟨1, .chain⟩], none⟩) (v := ?_) rfl (by kernel_rfl) (by kernel_rfl) (by kernel_rfl) (fun _ _ _ h => h) (Or.inl ⟨by rfl, ?_⟩) hS ?_
            rotate_left
            · intro wv _; go_simp; try with_reducible rfl
            try simp only [Act.put, List.setIfInBounds_toArray, List.set_cons_zero, List.set_cons_succ]
            refine wpAnyH_take (i := 4) (oi := ⟨some 19, .move (.tmp 0), 22, "timer.go:17", #[⟨3, .guard⟩], some (3, false)⟩) (v := ?_) rfl (by kernel_rfl) (by kernel_rfl) (by kernel_rfl) (fun _ _ _ h => h) (Or.inl ⟨by rfl, ?_⟩) hS ?_
            rotate_left
            · intro wv _; go_simp; try with_reducible rfl
            try simp only [Act.put, List.setIfInBounds_toArray, List.set_cons_zero, List.set_cons_succ]
            refine wpAnyH_take (i := 5) (oi := ⟨some 20, .move (.tmp 3), 3, "timer.go:17", #[⟨3, .guard⟩], some (3, false)⟩) (v := ?_) rfl (by kernel_rfl) (by kernel_rfl) (by kernel_rfl) (fun _ _ _ h => h) (Or.inl ⟨by rfl, ?_⟩) hS ?_
            rotate_left
            · intro wv _; go_simp; try with_reducible rfl
            try simp only [Act.put, List.setIfInBounds_toArray, List.set_cons_zero, List.set_cons_succ]
            refine wpAnyH_ready (rs := [6]) (by kernel_rfl) (by simp) (AllReadyH.cons (o := ⟨some 21, .call { callee := .value (.func 34), args := #[.tmp 19, .tmp 20], argTypes := #[44, 3] }, 4, "timer.go:17", #[⟨4, .data⟩, ⟨5, .data⟩, ⟨3, .chain⟩, ⟨3, .guard⟩], some (3, false)⟩) rfl (fun K hK => ?_) AllReadyH.nil)
            go_simp
            refine (AH.out _ (Es.below RY.out hS.out)).mono ?_; rintro e wb ⟨rfl, hbb⟩
            replace hS := Lib.hid (hS.out.trans (hbb.mono hS.out.size))
            clear hbb
            go_wp2_with fail
            refine Shut.out hK _ _ hS (fun _ => ?_)
            clear hK K
            try simp only [Act.put, List.setIfInBounds_toArray, List.set_cons_zero, List.set_cons_succ]
            refine wpAnyH_take (i := 7) (oi := ⟨some 22, .pick (.tmp 18) (.const (Value.bool true)) (.tmp 21), 4, "timer.go:17", #[⟨3, .data⟩, ⟨6, .data⟩], none⟩) (v := ?_) rfl (by kernel_rfl) (by kernel_rfl) (by kernel_rfl) (fun _ _ _ h => h) (Or.inl ⟨by rfl, ?_⟩) hS ?_
            rotate_left
            · intro wv _; go_simp; try with_reducible rfl
            try simp only [Act.put, List.setIfInBounds_toArray, List.set_cons_zero, List.set_cons_succ]
            refine wpAnyH_take (i := 8) (oi := ⟨some 23, .move (.tmp 22), 4, "timer.go:17", #[⟨7, .data⟩, ⟨6, .chain⟩], none⟩) (v := ?_) rfl (by kernel_rfl) (by kernel_rfl) (by kernel_rfl) (fun _ _ _ h => h) (Or.inl ⟨by rfl, ?_⟩) hS ?_
            rotate_left
            · intro wv _; go_simp; try with_reducible rfl
            try simp only [Act.put, List.setIfInBounds_toArray, List.set_cons_zero, List.set_cons_succ]
            refine wpAnyH_take (i := 9) (oi := ⟨some 24, .move (.tmp 0), 22, "timer.go:17", #[⟨8, .guard⟩], some (8, false)⟩) (v := ?_) rfl (by kernel_rfl) (by kernel_rfl) (by kernel_rfl) (fun _ _ _ h => h) (Or.inl ⟨by rfl, ?_⟩) hS ?_
            rotate_left
            · intro wv _; go_simp; try with_reducible rfl
            try simp only [Act.put, List.setIfInBounds_toArray, List.set_cons_zero, List.set_cons_succ]
            refine wpAnyH_take (i := 10) (oi := ⟨some 25, .move (.tmp 3), 3, "timer.go:17", #[⟨8, .guard⟩], some (8, false)⟩) (v := ?_) rfl (by kernel_rfl) (by kernel_rfl) (by kernel_rfl) (fun _ _ _ h => h) (Or.inl ⟨by rfl, ?_⟩) hS ?_
            rotate_left
            · intro wv _; go_simp; try with_reducible rfl
            try simp only [Act.put, List.setIfInBounds_toArray, List.set_cons_zero, List.set_cons_succ]
            refine wpAnyH_take (i := 11) (oi := ⟨some 26, .slice 22 (.tmp 24) none (some (.tmp 25)) none, 22, "timer.go:17", #[⟨9, .data⟩, ⟨10, .data⟩, ⟨8, .guard⟩], some (8, false)⟩) (v := ?_) rfl (by kernel_rfl) (by kernel_rfl) (by kernel_rfl) (fun _ _ _ h => h) (Or.inl ⟨by rfl, ?_⟩) hS ?_
            rotate_left
            · intro wv hS; have hrun := (HSL.out wv); go_simp; try with_reducible rfl
            try simp only [Act.put, List.setIfInBounds_toArray, List.set_cons_zero, List.set_cons_succ]
            refine wpAnyH_take (i := 12) (oi := ⟨some 27, .fieldAddr 24 (.tmp 4) 1, 0, "timer.go:17", #[⟨8, .guard⟩], some (8, false)⟩) (v := ?_) rfl (by kernel_rfl) (by kernel_rfl) (by kernel_rfl) (fun _ _ _ h => h) (Or.inl ⟨by rfl, ?_⟩) hS ?_
            rotate_left
            · intro wv _; go_simp; try with_reducible rfl
            try simp only [Act.put, List.setIfInBounds_toArray, List.set_cons_zero, List.set_cons_succ]
            refine wpAnyH_take (i := 13) (oi := ⟨some 28, .load 3 (.tmp 27), 3, "timer.go:17", #[⟨12, .data⟩, ⟨8, .guard⟩], some (8, false)⟩) (v := ?_) rfl (by kernel_rfl) (by kernel_rfl) (by kernel_rfl) (fun _ _ _ h => h) (Or.inl ⟨by rfl, ?_⟩) hS ?_
            rotate_left
            · intro wv hS; have hrun := ((blk_cell (blk_below V5.out hS.out L5.out) 1).trans rfl); go_simp; try with_reducible rfl
            try simp only [Act.put, List.setIfInBounds_toArray, List.set_cons_zero, List.set_cons_succ]
            refine wpAnyH_ready (rs := [14]) (by kernel_rfl) (by simp) (AllReadyH.cons (o := ⟨some 29, .call { callee := .value (.func 28), args := #[.tmp 28], argTypes := #[3] }, 46, "timer.go:17", #[⟨13, .data⟩, ⟨8, .chain⟩, ⟨8, .guard⟩], some (8, false)⟩) rfl (fun K hK => ?_) AllReadyH.nil)
            go_simp
            refine (tmTask_any tk _).mono ?_; rintro e wc ⟨bb, rfl, hvb, hbb0, hbb⟩
            replace hS := Lib.hid (hS.out.trans (hbb.mono hS.out.size))
            have VB := Lib.hid hvb
            clear hbb hbb0 hvb
            go_wp2_with fail
            refine Shut.out hK _ _ hS (fun _ => ?_)
            clear hK K
            try simp only [Act.put, List.setIfInBounds_toArray, List.set_cons_zero, List.set_cons_succ]
            refine wpAnyH_ready (rs := [15]) (by kernel_rfl) (by simp) (AllReadyH.cons (o := ⟨some 30, .call { callee := .value (.func 27), args := #[.tmp 26, .tmp 29], argTypes := #[22, 46] }, 4, "timer.go:17", #[⟨11, .data⟩, ⟨14, .data⟩, ⟨14, .chain⟩, ⟨8, .guard⟩], some (8, false)⟩) rfl (fun K hK => ?_) AllReadyH.nil)
            go_simp
            refine (tmTaskContains_any A2 i c2 (h.take i) bb tk _ (Es.below TK.out hS.out) VB.out (by have := HLT.out; omega)).mono ?_; rintro e wd ⟨y, rfl, hy, hbb⟩
            replace hS := Lib.hid (hS.out.trans (hbb.mono hS.out.size))
            have HY := Lib.hid hy
            clear hbb hy VB
            go_wp2_with fail
            refine Shut.out hK _ _ hS (fun _ => ?_)
            clear hK K
            try simp only [Act.put, List.setIfInBounds_toArray, List.set_cons_zero, List.set_cons_succ]
            refine wpAnyH_take (i := 16) (oi := ⟨some 31, .pick (.tmp 23) (.const (Value.bool true)) (.tmp 30), 4, "timer.go:17", #[⟨8, .data⟩, ⟨15, .data⟩], none⟩) (v := ?_) rfl (by kernel_rfl) (by kernel_rfl) (by kernel_rfl) (fun _ _ _ h => h) (Or.inl ⟨by rfl, ?_⟩) hS ?_
            rotate_left
            · intro wv _; go_simp; try with_reducible rfl
            try simp only [Act.put, List.setIfInBounds_toArray, List.set_cons_zero, List.set_cons_succ]
            refine wpAnyH_done (by kernel_rfl) ?_ _
            refine NoPanic.normal ?_
            replace HB5 := Lib.hid (HB5.out.trans (hS.out.mono HB5.out.size))
            clear hS
            cases y
            · have HOK2 := Lib.hid (show okTs h (i + 1) from fun j hj => by
                rcases Nat.lt_or_ge j i with h8 | h8
                · exact HOK.out j h8
                · have : j = i := by omega
                  subst this
                  refine ⟨?_, ?_, fun h9 h10 => ?_, fun k2 hk2 h10 => ?_⟩
                  · rw [HTI.out]; exact HT.out.1
                  · rw [HTI.out]; exact HT.out.2
                  · rw [HTI.out] at h10; exact HA.out ⟨h9, h10⟩
                  · have h11 := HY.out.2 ⟨k2, by rw [List.length_take]; have := HL.out; have := HLT.out; omega, by rw [tmAt_take hk2]; rw [HTI.out] at h10; simp [tmTaskP, h10]⟩
                    cases h11)
              have HLI := HLT.out
              go_wp2
              go_roundw
              case rel => exact ⟨i + 1, by go_num, by omega, HOK2.out, HB5.out⟩
              case measure => simp [intOf]; omega
            · have HE := Lib.hid (HRN.out i HLT.out (fun h5 => by
                obtain ⟨k2, h6, h7⟩ := HY.out.1 rfl
                rw [List.length_take] at h6
                rw [tmAt_take (by omega)] at h7
                have h8 := h5.2.2.2 k2 (by omega)
                rw [HTI.out] at h8
                exact h8 (by simpa [tmTaskP] using h7)))
              go_wp2
              go_ret
              rw [HE.out]
              exact ⟨rfl, HB5.out⟩
        · have HE := Lib.hid (HRN.out i HLT.out (fun h5 => h3 (by have h6 := h5.1; have h7 := h5.2.1; rw [HTI.out] at h6 h7; exact ⟨h6, h7⟩)))
          replace MB := Lib.hid (fun (W : World) => by have := MB.out tw tk W; rwa [decide_eq_false h3] at this)
          clear h3
          refine wp_region_noPanic ?_
          refine wp_region_held_drew (S := (fun wv => Hid (Below w5.heap.size w5 wv))) (by kernel_rfl) (Lib.hid (Below.refl _ w5).drew) (fun hS => ?_)
          refine wpAnyH_take (i := 0) (oi := ⟨some 15, .load 24 (.tmp 4), 24, "timer.go:17", #[], none⟩) (v := .agg (([.int .i64 tw, .int .i64 tk] : List Value)).toArray) rfl (by kernel_rfl) (by kernel_rfl) (by kernel_rfl) (fun _ _ _ h => h) (yieldsIf_load_mid (by rfl) _ _ (by rfl) (s) (0) (by rfl) (([.int .i64 tw, .int .i64 tk] : List Value)) _ (fun wv hS => blk_rngl (blk_below V5.out hS.out L5.out)) Try.underlying24 (by rfl) (by kernel_rfl)) hS ?_
          try simp only [Act.put, List.setIfInBounds_toArray, List.set_cons_zero, List.set_cons_succ]
          refine wpAnyH_ready (rs := [1]) (by kernel_rfl) (by simp) (AllReadyH.cons (o := ⟨some 16, .call { callee := .value (.func 26), args := #[.tmp 15], argTypes := #[24] }, 4, "timer.go:17", #[⟨0, .data⟩], none⟩) rfl (fun K hK => ?_) AllReadyH.nil)
          go_simp
          refine (MB.out _).mono ?_; rintro e wa ⟨rfl, hbb⟩
          replace hS := Lib.hid (hS.out.trans (hbb.mono hS.out.size))
          clear hbb
          go_wp2_with fail
          refine Shut.out hK _ _ hS (fun _ => ?_)
          clear hK K
          try simp only [Act.put, List.setIfInBounds_toArray, List.set_cons_zero, List.set_cons_succ]
          refine wpAnyH_take (i := 2) (oi := ⟨some 17, .unOp .not 4 (.tmp 16), 4, "timer.go:17", #[⟨1, .data⟩], none⟩) (v := ?_) rfl (by kernel_rfl) (by kernel_rfl) (by kernel_rfl) (fun _ _ _ h => h) (Or.inl ⟨by rfl, ?_⟩) hS ?_
          rotate_left
          · intro wv _; go_simp; try with_reducible rfl
          try simp only [Act.put, List.setIfInBounds_toArray, List.set_cons_zero, List.set_cons_succ]
          refine wpAnyH_take (i := 3) (oi := ⟨some 18, .move (.tmp 17), 4, "timer.go:17", #[⟨2, .data⟩, ⟨1, .chain⟩], none⟩) (v := ?_) rfl (by kernel_rfl) (by kernel_rfl) (by kernel_rfl) (fun _ _ _ h => h) (Or.inl ⟨by rfl, ?_⟩) hS ?_
          rotate_left
          · intro wv _; go_simp; try with_reducible rfl
          try simp only [Act.put, List.setIfInBounds_toArray, List.set_cons_zero, List.set_cons_succ]
          refine wpAnyH_take (i := 4) (oi := ⟨some 19, .move (.tmp 0), 22, "timer.go:17", #[⟨3, .guard⟩], some (3, false)⟩) (v := undef) rfl (by kernel_rfl) (by kernel_rfl) (by kernel_rfl) (fun _ _ _ h => h) (Or.inr ⟨by rfl, rfl⟩) hS ?_
          try simp only [Act.put, List.setIfInBounds_toArray, List.set_cons_zero, List.set_cons_succ]
          refine wpAnyH_take (i := 5) (oi := ⟨some 20, .move (.tmp 3), 3, "timer.go:17", #[⟨3, .guard⟩], some (3, false)⟩) (v := undef) rfl (by kernel_rfl) (by kernel_rfl) (by kernel_rfl) (fun _ _ _ h => h) (Or.inr ⟨by rfl, rfl⟩) hS ?_
          try simp only [Act.put, List.setIfInBounds_toArray, List.set_cons_zero, List.set_cons_succ]
          refine wpAnyH_take (i := 6) (oi := ⟨some 21, .call { callee := .value (.func 34), args := #[.tmp 19, .tmp 20], argTypes := #[44, 3] }, 4, "timer.go:17", #[⟨4, .data⟩, ⟨5, .data⟩, ⟨3, .chain⟩, ⟨3, .guard⟩], some (3, false)⟩) (v := undef) rfl (by kernel_rfl) (by kernel_rfl) (by kernel_rfl) (fun _ _ _ h => h) (Or.inr ⟨by rfl, rfl⟩) hS ?_
          try simp only [Act.put, List.setIfInBounds_toArray, List.set_cons_zero, List.set_cons_succ]
          refine wpAnyH_take (i := 7) (oi := ⟨some 22, .pick (.tmp 18) (.const (Value.bool true)) (.tmp 21), 4, "timer.go:17", #[⟨3, .data⟩, ⟨6, .data⟩], none⟩) (v := ?_) rfl (by kernel_rfl) (by kernel_rfl) (by kernel_rfl) (fun _ _ _ h => h) (Or.inl ⟨by rfl, ?_⟩) hS ?_
          rotate_left
          · intro wv _; go_simp; try with_reducible rfl
          try simp only [Act.put, List.setIfInBounds_toArray, List.set_cons_zero, List.set_cons_succ]
          refine wpAnyH_take (i := 8) (oi := ⟨some 23, .move (.tmp 22), 4, "timer.go:17", #[⟨7, .data⟩, ⟨6, .chain⟩], none⟩) (v := ?_) rfl (by kernel_rfl) (by kernel_rfl) (by kernel_rfl) (fun _ _ _ h => h) (Or.inl ⟨by rfl, ?_⟩) hS ?_
          rotate_left
          · intro wv _; go_simp; try with_reducible rfl
          try simp only [Act.put, List.setIfInBounds_toArray, List.set_cons_zero, List.set_cons_succ]
          refine wpAnyH_take (i := 9) (oi := ⟨some 24, .move (.tmp 0), 22, "timer.go:17", #[⟨8, .guard⟩], some (8, false)⟩) (v := undef) rfl (by kernel_rfl) (by kernel_rfl) (by kernel_rfl) (fun _ _ _ h => h) (Or.inr ⟨by rfl, rfl⟩) hS ?_
          try simp only [Act.put, List.setIfInBounds_toArray, List.set_cons_zero, List.set_cons_succ]
          refine wpAnyH_take (i := 10) (oi := ⟨some 25, .move (.tmp 3), 3, "timer.go:17", #[⟨8, .guard⟩], some (8, false)⟩) (v := undef) rfl (by kernel_rfl) (by kernel_rfl) (by kernel_rfl) (fun _ _ _ h => h) (Or.inr ⟨by rfl, rfl⟩) hS ?_
          try simp only [Act.put, List.setIfInBounds_toArray, List.set_cons_zero, List.set_cons_succ]
          refine wpAnyH_take (i := 11) (oi := ⟨some 26, .slice 22 (.tmp 24) none (some (.tmp 25)) none, 22, "timer.go:17", #[⟨9, .data⟩, ⟨10, .data⟩, ⟨8, .guard⟩], some (8, false)⟩) (v := undef) rfl (by kernel_rfl) (by kernel_rfl) (by kernel_rfl) (fun _ _ _ h => h) (Or.inr ⟨by rfl, rfl⟩) hS ?_
          try simp only [Act.put, List.setIfInBounds_toArray, List.set_cons_zero, List.set_cons_succ]
          refine wpAnyH_take (i := 12) (oi := ⟨some 27, .fieldAddr 24 (.tmp 4) 1, 0, "timer.go:17", #[⟨8, .guard⟩], some (8, false)⟩) (v := undef) rfl (by kernel_rfl) (by kernel_rfl) (by kernel_rfl) (fun _ _ _ h => h) (Or.inr ⟨by rfl, rfl⟩) hS ?_
          try simp only [Act.put, List.setIfInBounds_toArray, List.set_cons_zero, List.set_cons_succ]
          refine wpAnyH_take (i := 13) (oi := ⟨some 28, .load 3 (.tmp 27), 3, "timer.go:17", #[⟨12, .data⟩, ⟨8, .guard⟩], some (8, false)⟩) (v := undef) rfl (by kernel_rfl) (by kernel_rfl) (by kernel_rfl) (fun _ _ _ h => h) (Or.inr ⟨by rfl, rfl⟩) hS ?_
          try simp only [Act.put, List.setIfInBounds_toArray, List.set_cons_zero, List.set_cons_succ]
          refine wpAnyH_take (i := 14) (oi := ⟨some 29, .call { callee := .value (.func 28), args := #[.tmp 28], argTypes := #[3] }, 46, "timer.go:17", #[⟨13, .data⟩, ⟨8, .chain⟩, ⟨8, .guard⟩], some (8, false)⟩) (v := undef) rfl (by kernel_rfl) (by kernel_rfl) (by kernel_rfl) (fun _ _ _ h => h) (Or.inr ⟨by rfl, rfl⟩) hS ?_
          try simp only [Act.put, List.setIfInBounds_toArray, List.set_cons_zero, List.set_cons_succ]
          refine wpAnyH_take (i := 15) (oi := ⟨some 30, .call { callee := .value (.func 27), args := #[.tmp 26, .tmp 29], argTypes := #[22, 46] }, 4, "timer.go:17", #[⟨11, .data⟩, ⟨14, .data⟩, ⟨14, .chain⟩, ⟨8, .guard⟩], some (8, false)⟩) (v := undef) rfl (by kernel_rfl) (by kernel_rfl) (by kernel_rfl) (fun _ _ _ h => h) (Or.inr ⟨by rfl, rfl⟩) hS ?_
          try simp only [Act.put, List.setIfInBounds_toArray, List.set_cons_zero, List.set_cons_succ]
          refine wpAnyH_take (i := 16) (oi := ⟨some 31, .pick (.tmp 23) (.const (Value.bool true)) (.tmp 30), 4, "timer.go:17", #[⟨8, .data⟩, ⟨15, .data⟩], none⟩) (v := ?_) rfl (by kernel_rfl) (by kernel_rfl) (by kernel_rfl) (fun _ _ _ h => h) (Or.inl ⟨by rfl, ?_⟩) hS ?_
          rotate_left
          · intro wv _; go_simp; try with_reducible rfl
          try simp only [Act.put, List.setIfInBounds_toArray, List.set_cons_zero, List.set_cons_succ]
          refine wpAnyH_done (by kernel_rfl) ?_ _
          refine NoPanic.normal ?_
          go_wp2
          go_ret
          rw [HE.out]
          exact ⟨rfl, HB5.out.trans (hS.out.mono HB5.out.size)⟩
      · have en : i = n := by omega
        have c1 : decide ((i : Int) < (n : Int)) = false := by simp; omega
        have c1n : decide (i < n) = false := by simp; omega
        have HE := Lib.hid (HRO.out (en ▸ HOK.out))
        clear en hlt hi
        go_wp2
        go_ret
        rw [HE.out]
        exact ⟨rfl, HB.out⟩
end Go.Proofs.Ytehpfpphpffniaa
