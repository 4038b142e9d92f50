/- What the landed notify's closures, slices.IndexFunc, slices.ContainsFunc over them and its own Park answer; for lists of up to 16384 who wait. -/
import Derived.Test.YtjpgmkbcjedhfaaNotH
namespace Go.Proofs.Ytjpgmkbcjedhfaa
set_option linter.unusedVariables false
set_option linter.unusedSimpArgs false
open Go.RowKit
/-- the first one of whom it holds, or -1. -/
def IdxN (w : World) (p : Wt → Bool) (ws : List Wt) (e : Ending) (w' : World) : Prop :=
  ∃ k : Int, e = .returned (.int .i64 k) ∧ ((∃ j : Nat, k = j ∧ j < ws.length ∧ p (wtAt ws j) = true ∧ ∀ i : Nat, i < j → p (wtAt ws i) = false) ∨ (k = -1 ∧ ∀ i : Nat, i < ws.length → p (wtAt ws i) = false)) ∧ Below w.heap.size w w'
def AnyN (w : World) (p : Wt → Bool) (ws : List Wt) (e : Ending) (w' : World) : Prop :=
  ∃ y, e = .returned (.bool y) ∧ (y = true ↔ ∃ i : Nat, i < ws.length ∧ p (wtAt ws i) = true) ∧ Below w.heap.size w w'
def ntTaskP (v : Int) (x : Wt) : Bool := x.2 == v
set_option maxRecDepth 100000 in
set_option maxHeartbeats 4000000 in
theorem ntTask1_any (x : Wt) (b : Nat) (v : Int) (w : World) (hb : w.heap[b]? = some (.cells #[.int .i64 v] 3)) :
    Calls Try.prog 36 #[.agg #[.int .u32 x.1, .int .i64 x.2], .pointer (some ⟨b, 0, none⟩)] w (YesN w (ntTaskP v x)) := by
  obtain ⟨ti, ta⟩ := x
  unfold ntTaskP
  simp only
  have VB := Lib.hid hb
  clear hb
  obtain ⟨v1, hv1⟩ : ∃ W, w.alloc (.cells #[.int .u32 ti, .int .i64 ta] 53) = W := ⟨_, rfl⟩
  have fr1 : Fr w v1 w.heap.size [.cells #[.int .u32 ti, .int .i64 ta] 53] := hv1 ▸ Fr.first w _
  have z1 : v1.heap.size = w.heap.size + 1 := by rw [← hv1, Fr.size1]
  generalize hq : w.heap.size = q at *
  have FR := Lib.hid fr1
  clear fr1
  have hvb : v1.heap[b]? = some (.cells #[.int .i64 v] 3) := by rw [← hv1, heap_alloc_old _ _ (blk_lt VB.out)]; exact VB.out
  have cb := blk_cell hvb 0
  simp only [List.getElem?_toArray, List.getElem?_cons_zero] at cb
  clear hvb
  have c00 : v1.cell? ⟨q, 0, none⟩ = some (.int .u32 ti) := FR.out.cell 0 0 rfl rfl rfl
  have c01 : v1.cell? ⟨q, 1, none⟩ = some (.int .i64 ta) := FR.out.cell 0 1 rfl rfl rfl
  go_enter Try.func36, Try.ntmps36
  go_wp2
  go_ret
  exact ⟨rfl, FR.out.out⟩
theorem ntTask_any (v : Int) (w : World) : Calls Try.prog 30 #[.int .i64 v] w (fun e w' => ∃ b, e = .returned (.func (.func 36) #[] #[.pointer (some ⟨b, 0, none⟩)]) ∧ w'.heap[b]? = some (.cells #[.int .i64 v] 3) ∧ w.heap.size ≤ b ∧ Below w.heap.size w w') := by
  have hmf : ∀ (fn : Fn) (first cap : Array Value) (w : World), (Instr.makeFunc fn first cap).run Try.prog w = .ok (.func fn first cap) w := fun _ _ _ _ => rfl
  have hk := Lib.hid (heap_alloc_new w (.cells #[.int .i64 v] 3))
  have hb := Lib.hid ((Below.refl w.heap.size w).alloc (Nat.le_refl _) (.cells #[.int .i64 v] 3))
  go_enter Try.func30, Try.ntmps30
  go_wp2
  go_ret
  exact ⟨_, rfl, hk.out, Nat.le_refl _, hb.out⟩
set_option maxRecDepth 100000 in
set_option maxHeartbeats 4000000 in
theorem ntTaskIndex_any (A : Option Addr) (n c : Nat) (ws : List Wt) (b : Nat) (v : Int) (w : World) (hx : Wts w A n c ws) (hb : w.heap[b]? = some (.cells #[.int .i64 v] 3)) (hn : n ≤ 16384) :
    Calls Try.prog 33 #[.slice A n c, .func (.func 36) #[] #[.pointer (some ⟨b, 0, none⟩)]] w (IdxN w (ntTaskP v) ws) := by
  have RX := Lib.hid hx
  have VB := Lib.hid hb
  have LD := Lib.hid (fun (W : World) (x : Wt) h => ntTask1_any x b v W h)
  have hlen := Lib.hid hx.len
  clear hx hb
  go_enter Try.func33, Try.ntmps33
  go_wp2
  go_loopw [8] (fun kv wr => ∃ k : Nat, kv = .int .i64 (k : Int) ∧ k ≤ n ∧ Hid (Below w.heap.size w wr) ∧ Hid (∀ i : Nat, i < k → ntTaskP v (wtAt ws i) = false)) (fun kv _ => n - (intOf kv).toNat)
  case atStart => exact ⟨0, rfl, by omega, Below.refl _ _, fun j hj => by omega⟩
  case round =>
    obtain ⟨k, rfl, hk, HB, HN⟩ := hrel
    by_cases hlt : k < n
    · have b1 : decide ((k : Int) < (n : Int)) = true := by simpa using hlt
      obtain ⟨b2, off, rfl, hb0, k0, k1⟩ := Wts.look (ws := ws) (Es.below RX.out HB.out) k hlt
      have hi0 : (0 : Int) ≤ (k : Int) := by omega
      have hi1 : (k : Int) < (n : Int) := by omega
      have LD2 := LD.out wr (wtAt ws k) (blk_below VB.out HB.out (blk_lt VB.out))
      have HK := Lib.hid (show k < ws.length by have := hlen.out; omega)
      clear hb0
      cases he : ntTaskP v (wtAt ws k)
      · rw [he] at LD2
        replace LD2 := Lib.hid LD2
        have HA := Lib.hid (show ∀ i : Nat, i < k + 1 → ntTaskP v (wtAt ws i) = false from fun i hi => by
          rcases Nat.lt_or_ge i k with h8 | h8
          · exact HN.out i h8
          · have : i = k := by omega
            subst this; exact he)
        clear he HN
        go_wp2_with fail
        refine LD2.out.mono ?_
        rintro e w2 ⟨rfl, hb⟩
        have HB2 := Lib.hid (HB.out.trans (hb.mono HB.out.size))
        clear hb k0 k1
        go_wp2
        go_roundw
        case rel => exact ⟨k + 1, by go_num, by omega, HB2.out, HA.out⟩
        case measure => simp [intOf]; omega
      · rw [he] at LD2
        replace LD2 := Lib.hid LD2
        have HE := Lib.hid he
        clear he
        go_wp2_with fail
        refine LD2.out.mono ?_
        rintro e w2 ⟨rfl, hb⟩
        have HB2 := Lib.hid (HB.out.trans (hb.mono HB.out.size))
        clear hb k0 k1
        go_wp2
        go_ret
        exact ⟨_, rfl, Or.inl ⟨k, rfl, HK.out, HE.out, HN.out⟩, HB2.out⟩
    · have en : n = k := by omega
      subst en
      have b1 : decide ((n : Int) < (n : Int)) = false := by simp
      go_wp2
      go_ret
      exact ⟨_, rfl, Or.inr ⟨rfl, fun i hi => HN.out i (by have := hlen.out; omega)⟩, HB.out⟩
theorem ntTaskContains_any (A : Option Addr) (n c : Nat) (ws : List Wt) (b : Nat) (v : Int) (w : World) (hx : Wts w A n c ws) (hb : w.heap[b]? = some (.cells #[.int .i64 v] 3)) (hn : n ≤ 16384) :
    Calls Try.prog 29 #[.slice A n c, .func (.func 36) #[] #[.pointer (some ⟨b, 0, none⟩)]] w (AnyN w (ntTaskP v) ws) := by
  have IX := Lib.hid (ntTaskIndex_any A n c ws b v w hx hb hn)
  clear hx hb
  go_enter Try.func29, Try.ntmps29
  go_wp2_with fail
  refine IX.out.mono ?_
  rintro e w2 ⟨k, rfl, hk, hb⟩
  rcases hk with ⟨j, rfl, h0, h1, _⟩ | ⟨rfl, h1⟩
  · have b0 : decide ((0 : Int) ≤ (j : Int)) = true := by simp
    have H0 := Lib.hid h0; have H1 := Lib.hid h1; have HB := Lib.hid hb
    clear h0 h1 hb
    go_wp2
    go_ret
    exact ⟨_, rfl, ⟨fun _ => ⟨j, H0.out, H1.out⟩, fun _ => rfl⟩, HB.out⟩
  · have H1 := Lib.hid h1; have HB := Lib.hid hb
    clear h1 hb
    go_wp2
    go_ret
    exact ⟨_, rfl, ⟨fun h => (by cases h), fun ⟨i, hi, h⟩ => (by rw [H1.out i hi] at h; cases h)⟩, HB.out⟩
def ntTickP (v : Int) (x : Wt) : Bool := x.1 == v
set_option maxRecDepth 100000 in
set_option maxHeartbeats 4000000 in
theorem ntTick1_any (x : Wt) (b : Nat) (v : Int) (w : World) (hb : w.heap[b]? = some (.cells #[.int .u32 v] 22)) :
    Calls Try.prog 37 #[.agg #[.int .u32 x.1, .int .i64 x.2], .pointer (some ⟨b, 0, none⟩)] w (YesN w (ntTickP v x)) := by
  obtain ⟨ti, ta⟩ := x
  unfold ntTickP
  simp only
  have VB := Lib.hid hb
  clear hb
  obtain ⟨v1, hv1⟩ : ∃ W, w.alloc (.cells #[.int .u32 ti, .int .i64 ta] 53) = W := ⟨_, rfl⟩
  have fr1 : Fr w v1 w.heap.size [.cells #[.int .u32 ti, .int .i64 ta] 53] := hv1 ▸ Fr.first w _
  have z1 : v1.heap.size = w.heap.size + 1 := by rw [← hv1, Fr.size1]
  generalize hq : w.heap.size = q at *
  have FR := Lib.hid fr1
  clear fr1
  have hvb : v1.heap[b]? = some (.cells #[.int .u32 v] 22) := by rw [← hv1, heap_alloc_old _ _ (blk_lt VB.out)]; exact VB.out
  have cb := blk_cell hvb 0
  simp only [List.getElem?_toArray, List.getElem?_cons_zero] at cb
  clear hvb
  have c00 : v1.cell? ⟨q, 0, none⟩ = some (.int .u32 ti) := FR.out.cell 0 0 rfl rfl rfl
  have c01 : v1.cell? ⟨q, 1, none⟩ = some (.int .i64 ta) := FR.out.cell 0 1 rfl rfl rfl
  go_enter Try.func37, Try.ntmps37
  go_wp2
  go_ret
  exact ⟨rfl, FR.out.out⟩
theorem ntTick_any (v : Int) (w : World) : Calls Try.prog 31 #[.int .u32 v] w (fun e w' => ∃ b, e = .returned (.func (.func 37) #[] #[.pointer (some ⟨b, 0, none⟩)]) ∧ w'.heap[b]? = some (.cells #[.int .u32 v] 22) ∧ w.heap.size ≤ b ∧ Below w.heap.size w w') := by
  have hmf : ∀ (fn : Fn) (first cap : Array Value) (w : World), (Instr.makeFunc fn first cap).run Try.prog w = .ok (.func fn first cap) w := fun _ _ _ _ => rfl
  have hk := Lib.hid (heap_alloc_new w (.cells #[.int .u32 v] 22))
  have hb := Lib.hid ((Below.refl w.heap.size w).alloc (Nat.le_refl _) (.cells #[.int .u32 v] 22))
  go_enter Try.func31, Try.ntmps31
  go_wp2
  go_ret
  exact ⟨_, rfl, hk.out, Nat.le_refl _, hb.out⟩
set_option maxRecDepth 100000 in
set_option maxHeartbeats 4000000 in
theorem ntTickIndex_any (A : Option Addr) (n c : Nat) (ws : List Wt) (b : Nat) (v : Int) (w : World) (hx : Wts w A n c ws) (hb : w.heap[b]? = some (.cells #[.int .u32 v] 22)) (hn : n ≤ 16384) :
    Calls Try.prog 33 #[.slice A n c, .func (.func 37) #[] #[.pointer (some ⟨b, 0, none⟩)]] w (IdxN w (ntTickP v) ws) := by
  have RX := Lib.hid hx
  have VB := Lib.hid hb
  have LD := Lib.hid (fun (W : World) (x : Wt) h => ntTick1_any x b v W h)
  have hlen := Lib.hid hx.len
  clear hx hb
  go_enter Try.func33, Try.ntmps33
  go_wp2
  go_loopw [8] (fun kv wr => ∃ k : Nat, kv = .int .i64 (k : Int) ∧ k ≤ n ∧ Hid (Below w.heap.size w wr) ∧ Hid (∀ i : Nat, i < k → ntTickP v (wtAt ws i) = false)) (fun kv _ => n - (intOf kv).toNat)
  case atStart => exact ⟨0, rfl, by omega, Below.refl _ _, fun j hj => by omega⟩
  case round =>
    obtain ⟨k, rfl, hk, HB, HN⟩ := hrel
    by_cases hlt : k < n
    · have b1 : decide ((k : Int) < (n : Int)) = true := by simpa using hlt
      obtain ⟨b2, off, rfl, hb0, k0, k1⟩ := Wts.look (ws := ws) (Es.below RX.out HB.out) k hlt
      have hi0 : (0 : Int) ≤ (k : Int) := by omega
      have hi1 : (k : Int) < (n : Int) := by omega
      have LD2 := LD.out wr (wtAt ws k) (blk_below VB.out HB.out (blk_lt VB.out))
      have HK := Lib.hid (show k < ws.length by have := hlen.out; omega)
      clear hb0
      cases he : ntTickP v (wtAt ws k)
      · rw [he] at LD2
        replace LD2 := Lib.hid LD2
        have HA := Lib.hid (show ∀ i : Nat, i < k + 1 → ntTickP v (wtAt ws i) = false from fun i hi => by
          rcases Nat.lt_or_ge i k with h8 | h8
          · exact HN.out i h8
          · have : i = k := by omega
            subst this; exact he)
        clear he HN
        go_wp2_with fail
        refine LD2.out.mono ?_
        rintro e w2 ⟨rfl, hb⟩
        have HB2 := Lib.hid (HB.out.trans (hb.mono HB.out.size))
        clear hb k0 k1
        go_wp2
        go_roundw
        case rel => exact ⟨k + 1, by go_num, by omega, HB2.out, HA.out⟩
        case measure => simp [intOf]; omega
      · rw [he] at LD2
        replace LD2 := Lib.hid LD2
        have HE := Lib.hid he
        clear he
        go_wp2_with fail
        refine LD2.out.mono ?_
        rintro e w2 ⟨rfl, hb⟩
        have HB2 := Lib.hid (HB.out.trans (hb.mono HB.out.size))
        clear hb k0 k1
        go_wp2
        go_ret
        exact ⟨_, rfl, Or.inl ⟨k, rfl, HK.out, HE.out, HN.out⟩, HB2.out⟩
    · have en : n = k := by omega
      subst en
      have b1 : decide ((n : Int) < (n : Int)) = false := by simp
      go_wp2
      go_ret
      exact ⟨_, rfl, Or.inr ⟨rfl, fun i hi => HN.out i (by have := hlen.out; omega)⟩, HB.out⟩
theorem ntTickContains_any (A : Option Addr) (n c : Nat) (ws : List Wt) (b : Nat) (v : Int) (w : World) (hx : Wts w A n c ws) (hb : w.heap[b]? = some (.cells #[.int .u32 v] 22)) (hn : n ≤ 16384) :
    Calls Try.prog 29 #[.slice A n c, .func (.func 37) #[] #[.pointer (some ⟨b, 0, none⟩)]] w (AnyN w (ntTickP v) ws) := by
  have IX := Lib.hid (ntTickIndex_any A n c ws b v w hx hb hn)
  clear hx hb
  go_enter Try.func29, Try.ntmps29
  go_wp2_with fail
  refine IX.out.mono ?_
  rintro e w2 ⟨k, rfl, hk, hb⟩
  rcases hk with ⟨j, rfl, h0, h1, _⟩ | ⟨rfl, h1⟩
  · have b0 : decide ((0 : Int) ≤ (j : Int)) = true := by simp
    have H0 := Lib.hid h0; have H1 := Lib.hid h1; have HB := Lib.hid hb
    clear h0 h1 hb
    go_wp2
    go_ret
    exact ⟨_, rfl, ⟨fun _ => ⟨j, H0.out, H1.out⟩, fun _ => rfl⟩, HB.out⟩
  · have H1 := Lib.hid h1; have HB := Lib.hid hb
    clear h1 hb
    go_wp2
    go_ret
    exact ⟨_, rfl, ⟨fun h => (by cases h), fun ⟨i, hi, h⟩ => (by rw [H1.out i hi] at h; cases h)⟩, HB.out⟩
theorem Fr.over {w0 w w' : World} {q : Nat} {L : List Obj} (h : Fr w0 w q L) (hb : Below (q + L.length) w w') : Fr w0 w' q L :=
  ⟨fun k o hk => (hb.block (q + k) (by have := (List.getElem?_eq_some_iff.1 hk).1; omega)).trans (h.blk k o hk), h.bel.trans (hb.mono (by omega)), by have := hb.size; have := h.sz; omega, h.q0⟩
theorem anyW_iff {ws : List Wt} {k ta : Int} : anyW ws k ta ws.length ↔ (∃ i : Nat, i < ws.length ∧ ntTaskP ta (wtAt ws i) = true) ∨ (∃ i : Nat, i < ws.length ∧ ntTickP k (wtAt ws i) = true) := by
  unfold anyW
  constructor
  · rintro ⟨i, hi, h | h⟩
    · exact Or.inr ⟨i, hi, by simp [ntTickP, h]⟩
    · exact Or.inl ⟨i, hi, by simp [ntTaskP, h]⟩
  · rintro (⟨i, hi, h⟩ | ⟨i, hi, h⟩)
    · exact ⟨i, hi, Or.inr (by simpa [ntTaskP] using h)⟩
    · exact ⟨i, hi, Or.inl (by simpa [ntTickP] using h)⟩
set_option maxRecDepth 100000 in
set_option maxHeartbeats 8000000 in
theorem ntParkL (A : Option Addr) (n c : Nat) (ws : List Wt) (wa to k ta : Int) (w : World) (hx : Wts w A n c ws) (hn : n ≤ 16384) (hb : NB (wa, to, ws)) (k0 : 0 ≤ k) (k1 : k < 4294967296) :
    Calls Try.prog 11 #[.agg #[.int .u32 wa, .int .u32 to, .slice A n c], .int .u32 k, .int .i64 ta] w (NGotN w A n c (parkN (wa, to, ws) k ta)) := by
  obtain ⟨i5, hi5, hz0, hz1, hz2⟩ := info_of infoWt
  have HI := Lib.hid hi5; have HZ0 := Lib.hid hz0; have HZ1 := Lib.hid hz1; have HZ2 := Lib.hid hz2
  clear hi5 hz0 hz1 hz2
  have hlen := hx.len
  have RX := Lib.hid hx
  have HL := Lib.hid hlen
  have CP := Lib.hid (fun (W : World) (h : Wts W A n c ws) => ntCopied_any A n c ws wa to W h hn hb)
  have RT := fun (B : Option Addr) (d : Nat) (W : World) (h : Wts W B n d ws) => ntRight_any B n d ws wa to W h hn hb
  have CN := Lib.hid (fun (B : Option Addr) (d : Nat) (W : World) (h : Wts W B n d ws) => ntCount_any B n d ws wa to W h hn hb)
  have OU := fun (B : Option Addr) (d : Nat) (W : World) (h : Wts W B n d ws) => ntOut_any B n d ws wa to k W h hn hb k0 k1
  obtain ⟨R, hR⟩ : ∃ R, parkN (wa, to, ws) k ta = R := ⟨_, rfl⟩
  rw [hR]
  clear hx
  obtain ⟨v1, hv1⟩ : ∃ W, w.alloc (.cells #[.int .u32 wa, .int .u32 to, .slice A n c] 25) = W := ⟨_, rfl⟩
  have fr1 : Fr w v1 w.heap.size [.cells #[.int .u32 wa, .int .u32 to, .slice A n c] 25] := hv1 ▸ Fr.first w _
  have z1 : v1.heap.size = w.heap.size + 1 := by rw [← hv1, Fr.size1]
  obtain ⟨v2, hv2⟩ : ∃ W, v1.alloc (.cells #[.int .u32 0, .int .u32 0, .slice none 0 0] 25) = W := ⟨_, rfl⟩
  have fr2 : Fr w v2 w.heap.size [.cells #[.int .u32 wa, .int .u32 to, .slice A n c] 25, .cells #[.int .u32 0, .int .u32 0, .slice none 0 0] 25] := hv2 ▸ fr1.more z1 _
  have z2 : v2.heap.size = w.heap.size + 2 := by rw [← hv2, Fr.size1, z1]
  generalize hq : w.heap.size = q at *
  have FR := Lib.hid fr2
  clear fr1 fr2
  cases hr : rightN (wa, to, ws)
  · rw [hr] at RT
    replace RT := Lib.hid RT
    have HE := Lib.hid (show R = ((wa, to, ws), 1) by rw [← hR]; unfold parkN; rw [if_pos (Or.inl hr)])
    clear hr hR hlen OU hb
    go_enter Try.func11, Try.ntmps11
    have CP2 := Lib.hid (CP.out _ (FR.out.es RX.out))
    have c00 : v2.cell? ⟨q, 0, none⟩ = some (.int .u32 wa) := FR.out.cell 0 0 rfl rfl rfl
    have c01 : v2.cell? ⟨q, 1, none⟩ = some (.int .u32 to) := FR.out.cell 0 1 rfl rfl rfl
    have c02 : v2.cell? ⟨q, 2, none⟩ = some (.slice A n c) := FR.out.cell 0 2 rfl rfl rfl
    have c10 : v2.cell? ⟨q + 1, 0, none⟩ = some (.int .u32 0) := FR.out.cell 1 0 rfl rfl rfl
    have c11 : v2.cell? ⟨q + 1, 1, none⟩ = some (.int .u32 0) := FR.out.cell 1 1 rfl rfl rfl
    have c12 : v2.cell? ⟨q + 1, 2, none⟩ = some (.slice none 0 0) := FR.out.cell 1 2 rfl rfl rfl
    go_wp2_with fail
    refine CP2.out.mono ?_
    rintro e w3 ⟨B, d, rfl, hown, hb⟩
    clear c00 c01 c02 c10 c11 c12
    have hsz := FR.out.sz
    simp only [List.length_cons, List.length_nil] at hsz
    replace FR := Lib.hid (FR.out.step hb)
    have OW := Lib.hid (own_base hown hsz)
    clear hb hown hsz
    have pc00 : w3.cell? ⟨q, 0, none⟩ = some (.int .u32 wa) := FR.out.cell 0 0 rfl rfl rfl
    have pf00 : w3.frozen? ⟨q, 0, none⟩ = false := FR.out.frozen 0 0 rfl rfl
    have pc01 : w3.cell? ⟨q, 1, none⟩ = some (.int .u32 to) := FR.out.cell 0 1 rfl rfl rfl
    have pf01 : w3.frozen? ⟨q, 1, none⟩ = false := FR.out.frozen 0 1 rfl rfl
    have pc02 : w3.cell? ⟨q, 2, none⟩ = some (.slice A n c) := FR.out.cell 0 2 rfl rfl rfl
    have pf02 : w3.frozen? ⟨q, 2, none⟩ = false := FR.out.frozen 0 2 rfl rfl
    have hszw4 := FR.out.sz
    simp only [List.length_cons, List.length_nil] at hszw4
    obtain ⟨w4, hw4⟩ : ∃ W, (((w3.setCell ⟨q, 0, none⟩ (.int .u32 wa)).setCell ⟨q, 1, none⟩ (.int .u32 to)).setCell ⟨q, 2, none⟩ (.slice B n d)) = W := ⟨_, rfl⟩
    replace FR := Lib.hid (show Fr w w4 q [.cells #[.int .u32 wa, .int .u32 to, .slice B n d] 25, .cells #[.int .u32 0, .int .u32 0, .slice none 0 0] 25] from hw4 ▸ (((FR.out.set 0 0 rfl rfl (.int .u32 wa)).set 0 1 rfl rfl (.int .u32 to)).set 0 2 rfl rfl (.slice B n d)))
    replace OW := Lib.hid (hw4 ▸ (own_apart (own_apart (own_apart OW.out (k := q) (o := 0) (u := .int .u32 wa) (by omega)) (k := q) (o := 1) (u := .int .u32 to) (by omega)) (k := q) (o := 2) (u := .slice B n d) (by omega)))
    have RX2 := Lib.hid (wts_own OW.out)
    have c00 : w4.cell? ⟨q, 0, none⟩ = some (.int .u32 wa) := FR.out.cell 0 0 rfl rfl rfl
    have c01 : w4.cell? ⟨q, 1, none⟩ = some (.int .u32 to) := FR.out.cell 0 1 rfl rfl rfl
    have c02 : w4.cell? ⟨q, 2, none⟩ = some (.slice B n d) := FR.out.cell 0 2 rfl rfl rfl
    go_wp2_with fail
    refine ((RT.out _ _ _ RX2.out)).mono ?_
    rintro e w5 ⟨rfl, hb⟩
    clear c00 c01 c02
    replace FR := Lib.hid (FR.out.step hb)
    replace OW := Lib.hid (own_below OW.out hb)
    clear hb
    replace RX2 := Lib.hid (wts_own OW.out)
    have c00 : w5.cell? ⟨q, 0, none⟩ = some (.int .u32 wa) := FR.out.cell 0 0 rfl rfl rfl
    have f00 : w5.frozen? ⟨q, 0, none⟩ = false := FR.out.frozen 0 0 rfl rfl
    have c01 : w5.cell? ⟨q, 1, none⟩ = some (.int .u32 to) := FR.out.cell 0 1 rfl rfl rfl
    have f01 : w5.frozen? ⟨q, 1, none⟩ = false := FR.out.frozen 0 1 rfl rfl
    have c02 : w5.cell? ⟨q, 2, none⟩ = some (.slice B n d) := FR.out.cell 0 2 rfl rfl rfl
    have f02 : w5.frozen? ⟨q, 2, none⟩ = false := FR.out.frozen 0 2 rfl rfl
    have c10 : w5.cell? ⟨q + 1, 0, none⟩ = some (.int .u32 0) := FR.out.cell 1 0 rfl rfl rfl
    have f10 : w5.frozen? ⟨q + 1, 0, none⟩ = false := FR.out.frozen 1 0 rfl rfl
    have c11 : w5.cell? ⟨q + 1, 1, none⟩ = some (.int .u32 0) := FR.out.cell 1 1 rfl rfl rfl
    have f11 : w5.frozen? ⟨q + 1, 1, none⟩ = false := FR.out.frozen 1 1 rfl rfl
    have c12 : w5.cell? ⟨q + 1, 2, none⟩ = some (.slice none 0 0) := FR.out.cell 1 2 rfl rfl rfl
    have f12 : w5.frozen? ⟨q + 1, 2, none⟩ = false := FR.out.frozen 1 2 rfl rfl
    go_wp2
    have FZ : Fr w (((w5.setCell ⟨q + 1, 0, none⟩ (.int .u32 wa)).setCell ⟨q + 1, 1, none⟩ (.int .u32 to)).setCell ⟨q + 1, 2, none⟩ (.slice B n d)) q [.cells #[.int .u32 wa, .int .u32 to, .slice B n d] 25, .cells #[.int .u32 wa, .int .u32 to, .slice B n d] 25] := (((FR.out.set 1 0 rfl rfl (.int .u32 wa)).set 1 1 rfl rfl (.int .u32 to)).set 1 2 rfl rfl (.slice B n d))
    refine bodyPost_ret (res_cs Try.results11 (by rfl) (FZ.load 1 rfl rfl Try.underlying25 (by kernel_rfl))) rfl ?_
    rw [HE.out]
    have hrs := own_base (own_apart (own_apart (own_apart (OW.out) (k := q + 1) (o := 0) (u := .int .u32 wa) (by omega)) (k := q + 1) (o := 1) (u := .int .u32 to) (by omega)) (k := q + 1) (o := 2) (u := .slice B n d) (by omega)) (show w.heap.size ≤ _ from by rw [hq]; omega)
    exact ⟨_, _, _, rfl, wts_own hrs, FZ.out, Or.inl hrs⟩
  · rw [hr] at RT
    replace RT := Lib.hid RT
    by_cases h1 : ta < 0
    · have b1 : decide (ta < 0) = true := by simpa using h1
      have HE := Lib.hid (show R = ((wa, to, ws), 1) by rw [← hR]; unfold parkN; rw [if_pos (Or.inr (Or.inl h1))])
      clear hr hR hlen OU hb h1
      go_enter Try.func11, Try.ntmps11
      have CP2 := Lib.hid (CP.out _ (FR.out.es RX.out))
      have c00 : v2.cell? ⟨q, 0, none⟩ = some (.int .u32 wa) := FR.out.cell 0 0 rfl rfl rfl
      have c01 : v2.cell? ⟨q, 1, none⟩ = some (.int .u32 to) := FR.out.cell 0 1 rfl rfl rfl
      have c02 : v2.cell? ⟨q, 2, none⟩ = some (.slice A n c) := FR.out.cell 0 2 rfl rfl rfl
      have c10 : v2.cell? ⟨q + 1, 0, none⟩ = some (.int .u32 0) := FR.out.cell 1 0 rfl rfl rfl
      have c11 : v2.cell? ⟨q + 1, 1, none⟩ = some (.int .u32 0) := FR.out.cell 1 1 rfl rfl rfl
      have c12 : v2.cell? ⟨q + 1, 2, none⟩ = some (.slice none 0 0) := FR.out.cell 1 2 rfl rfl rfl
      go_wp2_with fail
      refine CP2.out.mono ?_
      rintro e w3 ⟨B, d, rfl, hown, hb⟩
      clear c00 c01 c02 c10 c11 c12
      have hsz := FR.out.sz
      simp only [List.length_cons, List.length_nil] at hsz
      replace FR := Lib.hid (FR.out.step hb)
      have OW := Lib.hid (own_base hown hsz)
      clear hb hown hsz
      have pc00 : w3.cell? ⟨q, 0, none⟩ = some (.int .u32 wa) := FR.out.cell 0 0 rfl rfl rfl
      have pf00 : w3.frozen? ⟨q, 0, none⟩ = false := FR.out.frozen 0 0 rfl rfl
      have pc01 : w3.cell? ⟨q, 1, none⟩ = some (.int .u32 to) := FR.out.cell 0 1 rfl rfl rfl
      have pf01 : w3.frozen? ⟨q, 1, none⟩ = false := FR.out.frozen 0 1 rfl rfl
      have pc02 : w3.cell? ⟨q, 2, none⟩ = some (.slice A n c) := FR.out.cell 0 2 rfl rfl rfl
      have pf02 : w3.frozen? ⟨q, 2, none⟩ = false := FR.out.frozen 0 2 rfl rfl
      have hszw4 := FR.out.sz
      simp only [List.length_cons, List.length_nil] at hszw4
      obtain ⟨w4, hw4⟩ : ∃ W, (((w3.setCell ⟨q, 0, none⟩ (.int .u32 wa)).setCell ⟨q, 1, none⟩ (.int .u32 to)).setCell ⟨q, 2, none⟩ (.slice B n d)) = W := ⟨_, rfl⟩
      replace FR := Lib.hid (show Fr w w4 q [.cells #[.int .u32 wa, .int .u32 to, .slice B n d] 25, .cells #[.int .u32 0, .int .u32 0, .slice none 0 0] 25] from hw4 ▸ (((FR.out.set 0 0 rfl rfl (.int .u32 wa)).set 0 1 rfl rfl (.int .u32 to)).set 0 2 rfl rfl (.slice B n d)))
      replace OW := Lib.hid (hw4 ▸ (own_apart (own_apart (own_apart OW.out (k := q) (o := 0) (u := .int .u32 wa) (by omega)) (k := q) (o := 1) (u := .int .u32 to) (by omega)) (k := q) (o := 2) (u := .slice B n d) (by omega)))
      have RX2 := Lib.hid (wts_own OW.out)
      have c00 : w4.cell? ⟨q, 0, none⟩ = some (.int .u32 wa) := FR.out.cell 0 0 rfl rfl rfl
      have c01 : w4.cell? ⟨q, 1, none⟩ = some (.int .u32 to) := FR.out.cell 0 1 rfl rfl rfl
      have c02 : w4.cell? ⟨q, 2, none⟩ = some (.slice B n d) := FR.out.cell 0 2 rfl rfl rfl
      go_wp2_with fail
      refine ((RT.out _ _ _ RX2.out)).mono ?_
      rintro e w5 ⟨rfl, hb⟩
      clear c00 c01 c02
      replace FR := Lib.hid (FR.out.step hb)
      replace OW := Lib.hid (own_below OW.out hb)
      clear hb
      replace RX2 := Lib.hid (wts_own OW.out)
      have c00 : w5.cell? ⟨q, 0, none⟩ = some (.int .u32 wa) := FR.out.cell 0 0 rfl rfl rfl
      have f00 : w5.frozen? ⟨q, 0, none⟩ = false := FR.out.frozen 0 0 rfl rfl
      have c01 : w5.cell? ⟨q, 1, none⟩ = some (.int .u32 to) := FR.out.cell 0 1 rfl rfl rfl
      have f01 : w5.frozen? ⟨q, 1, none⟩ = false := FR.out.frozen 0 1 rfl rfl
      have c02 : w5.cell? ⟨q, 2, none⟩ = some (.slice B n d) := FR.out.cell 0 2 rfl rfl rfl
      have f02 : w5.frozen? ⟨q, 2, none⟩ = false := FR.out.frozen 0 2 rfl rfl
      have c10 : w5.cell? ⟨q + 1, 0, none⟩ = some (.int .u32 0) := FR.out.cell 1 0 rfl rfl rfl
      have f10 : w5.frozen? ⟨q + 1, 0, none⟩ = false := FR.out.frozen 1 0 rfl rfl
      have c11 : w5.cell? ⟨q + 1, 1, none⟩ = some (.int .u32 0) := FR.out.cell 1 1 rfl rfl rfl
      have f11 : w5.frozen? ⟨q + 1, 1, none⟩ = false := FR.out.frozen 1 1 rfl rfl
      have c12 : w5.cell? ⟨q + 1, 2, none⟩ = some (.slice none 0 0) := FR.out.cell 1 2 rfl rfl rfl
      have f12 : w5.frozen? ⟨q + 1, 2, none⟩ = false := FR.out.frozen 1 2 rfl rfl
      go_wp2
      have FZ : Fr w (((w5.setCell ⟨q + 1, 0, none⟩ (.int .u32 wa)).setCell ⟨q + 1, 1, none⟩ (.int .u32 to)).setCell ⟨q + 1, 2, none⟩ (.slice B n d)) q [.cells #[.int .u32 wa, .int .u32 to, .slice B n d] 25, .cells #[.int .u32 wa, .int .u32 to, .slice B n d] 25] := (((FR.out.set 1 0 rfl rfl (.int .u32 wa)).set 1 1 rfl rfl (.int .u32 to)).set 1 2 rfl rfl (.slice B n d))
      refine bodyPost_ret (res_cs Try.results11 (by rfl) (FZ.load 1 rfl rfl Try.underlying25 (by kernel_rfl))) rfl ?_
      rw [HE.out]
      have hrs := own_base (own_apart (own_apart (own_apart (OW.out) (k := q + 1) (o := 0) (u := .int .u32 wa) (by omega)) (k := q + 1) (o := 1) (u := .int .u32 to) (by omega)) (k := q + 1) (o := 2) (u := .slice B n d) (by omega)) (show w.heap.size ≤ _ from by rw [hq]; omega)
      exact ⟨_, _, _, rfl, wts_own hrs, FZ.out, Or.inl hrs⟩
    · have b1 : decide (ta < 0) = false := by simpa using h1
      cases ho : outN (wa, to, ws) k
      · rw [ho] at OU
        replace OU := Lib.hid OU
        have HE := Lib.hid (show R = ((wa, to, ws), 1) by rw [← hR]; unfold parkN; rw [if_pos (Or.inr (Or.inr ho))])
        clear hr hR hlen hb h1 ho
        go_enter Try.func11, Try.ntmps11
        have CP2 := Lib.hid (CP.out _ (FR.out.es RX.out))
        have c00 : v2.cell? ⟨q, 0, none⟩ = some (.int .u32 wa) := FR.out.cell 0 0 rfl rfl rfl
        have c01 : v2.cell? ⟨q, 1, none⟩ = some (.int .u32 to) := FR.out.cell 0 1 rfl rfl rfl
        have c02 : v2.cell? ⟨q, 2, none⟩ = some (.slice A n c) := FR.out.cell 0 2 rfl rfl rfl
        have c10 : v2.cell? ⟨q + 1, 0, none⟩ = some (.int .u32 0) := FR.out.cell 1 0 rfl rfl rfl
        have c11 : v2.cell? ⟨q + 1, 1, none⟩ = some (.int .u32 0) := FR.out.cell 1 1 rfl rfl rfl
        have c12 : v2.cell? ⟨q + 1, 2, none⟩ = some (.slice none 0 0) := FR.out.cell 1 2 rfl rfl rfl
        go_wp2_with fail
        refine CP2.out.mono ?_
        rintro e w3 ⟨B, d, rfl, hown, hb⟩
        clear c00 c01 c02 c10 c11 c12
        have hsz := FR.out.sz
        simp only [List.length_cons, List.length_nil] at hsz
        replace FR := Lib.hid (FR.out.step hb)
        have OW := Lib.hid (own_base hown hsz)
        clear hb hown hsz
        have pc00 : w3.cell? ⟨q, 0, none⟩ = some (.int .u32 wa) := FR.out.cell 0 0 rfl rfl rfl
        have pf00 : w3.frozen? ⟨q, 0, none⟩ = false := FR.out.frozen 0 0 rfl rfl
        have pc01 : w3.cell? ⟨q, 1, none⟩ = some (.int .u32 to) := FR.out.cell 0 1 rfl rfl rfl
        have pf01 : w3.frozen? ⟨q, 1, none⟩ = false := FR.out.frozen 0 1 rfl rfl
        have pc02 : w3.cell? ⟨q, 2, none⟩ = some (.slice A n c) := FR.out.cell 0 2 rfl rfl rfl
        have pf02 : w3.frozen? ⟨q, 2, none⟩ = false := FR.out.frozen 0 2 rfl rfl
        have hszw4 := FR.out.sz
        simp only [List.length_cons, List.length_nil] at hszw4
        obtain ⟨w4, hw4⟩ : ∃ W, (((w3.setCell ⟨q, 0, none⟩ (.int .u32 wa)).setCell ⟨q, 1, none⟩ (.int .u32 to)).setCell ⟨q, 2, none⟩ (.slice B n d)) = W := ⟨_, rfl⟩
        replace FR := Lib.hid (show Fr w w4 q [.cells #[.int .u32 wa, .int .u32 to, .slice B n d] 25, .cells #[.int .u32 0, .int .u32 0, .slice none 0 0] 25] from hw4 ▸ (((FR.out.set 0 0 rfl rfl (.int .u32 wa)).set 0 1 rfl rfl (.int .u32 to)).set 0 2 rfl rfl (.slice B n d)))
        replace OW := Lib.hid (hw4 ▸ (own_apart (own_apart (own_apart OW.out (k := q) (o := 0) (u := .int .u32 wa) (by omega)) (k := q) (o := 1) (u := .int .u32 to) (by omega)) (k := q) (o := 2) (u := .slice B n d) (by omega)))
        have RX2 := Lib.hid (wts_own OW.out)
        have c00 : w4.cell? ⟨q, 0, none⟩ = some (.int .u32 wa) := FR.out.cell 0 0 rfl rfl rfl
        have c01 : w4.cell? ⟨q, 1, none⟩ = some (.int .u32 to) := FR.out.cell 0 1 rfl rfl rfl
        have c02 : w4.cell? ⟨q, 2, none⟩ = some (.slice B n d) := FR.out.cell 0 2 rfl rfl rfl
        go_wp2_with fail
        refine ((RT.out _ _ _ RX2.out)).mono ?_
        rintro e w5 ⟨rfl, hb⟩
        clear c00 c01 c02
        replace FR := Lib.hid (FR.out.step hb)
        replace OW := Lib.hid (own_below OW.out hb)
        clear hb
        replace RX2 := Lib.hid (wts_own OW.out)
        have c00 : w5.cell? ⟨q, 0, none⟩ = some (.int .u32 wa) := FR.out.cell 0 0 rfl rfl rfl
        have c01 : w5.cell? ⟨q, 1, none⟩ = some (.int .u32 to) := FR.out.cell 0 1 rfl rfl rfl
        have c02 : w5.cell? ⟨q, 2, none⟩ = some (.slice B n d) := FR.out.cell 0 2 rfl rfl rfl
        go_wp2_with fail
        refine ((OU.out _ _ _ RX2.out)).mono ?_
        rintro e w6 ⟨rfl, hb⟩
        clear c00 c01 c02
        replace FR := Lib.hid (FR.out.step hb)
        replace OW := Lib.hid (own_below OW.out hb)
        clear hb
        replace RX2 := Lib.hid (wts_own OW.out)
        have c00 : w6.cell? ⟨q, 0, none⟩ = some (.int .u32 wa) := FR.out.cell 0 0 rfl rfl rfl
        have f00 : w6.frozen? ⟨q, 0, none⟩ = false := FR.out.frozen 0 0 rfl rfl
        have c01 : w6.cell? ⟨q, 1, none⟩ = some (.int .u32 to) := FR.out.cell 0 1 rfl rfl rfl
        have f01 : w6.frozen? ⟨q, 1, none⟩ = false := FR.out.frozen 0 1 rfl rfl
        have c02 : w6.cell? ⟨q, 2, none⟩ = some (.slice B n d) := FR.out.cell 0 2 rfl rfl rfl
        have f02 : w6.frozen? ⟨q, 2, none⟩ = false := FR.out.frozen 0 2 rfl rfl
        have c10 : w6.cell? ⟨q + 1, 0, none⟩ = some (.int .u32 0) := FR.out.cell 1 0 rfl rfl rfl
        have f10 : w6.frozen? ⟨q + 1, 0, none⟩ = false := FR.out.frozen 1 0 rfl rfl
        have c11 : w6.cell? ⟨q + 1, 1, none⟩ = some (.int .u32 0) := FR.out.cell 1 1 rfl rfl rfl
        have f11 : w6.frozen? ⟨q + 1, 1, none⟩ = false := FR.out.frozen 1 1 rfl rfl
        have c12 : w6.cell? ⟨q + 1, 2, none⟩ = some (.slice none 0 0) := FR.out.cell 1 2 rfl rfl rfl
        have f12 : w6.frozen? ⟨q + 1, 2, none⟩ = false := FR.out.frozen 1 2 rfl rfl
        go_wp2
        have FZ : Fr w (((w6.setCell ⟨q + 1, 0, none⟩ (.int .u32 wa)).setCell ⟨q + 1, 1, none⟩ (.int .u32 to)).setCell ⟨q + 1, 2, none⟩ (.slice B n d)) q [.cells #[.int .u32 wa, .int .u32 to, .slice B n d] 25, .cells #[.int .u32 wa, .int .u32 to, .slice B n d] 25] := (((FR.out.set 1 0 rfl rfl (.int .u32 wa)).set 1 1 rfl rfl (.int .u32 to)).set 1 2 rfl rfl (.slice B n d))
        refine bodyPost_ret (res_cs Try.results11 (by rfl) (FZ.load 1 rfl rfl Try.underlying25 (by kernel_rfl))) rfl ?_
        rw [HE.out]
        have hrs := own_base (own_apart (own_apart (own_apart (OW.out) (k := q + 1) (o := 0) (u := .int .u32 wa) (by omega)) (k := q + 1) (o := 1) (u := .int .u32 to) (by omega)) (k := q + 1) (o := 2) (u := .slice B n d) (by omega)) (show w.heap.size ≤ _ from by rw [hq]; omega)
        exact ⟨_, _, _, rfl, wts_own hrs, FZ.out, Or.inl hrs⟩
      · rw [ho] at OU
        replace OU := Lib.hid OU
        have hRE : R = if anyW ws k ta ws.length then ((wa, to, ws), 8) else if 12 ≤ n then ((wa, to, ws), 6) else ((wa, to, ws ++ [(k, ta)]), 0) := by rw [← hR]; unfold parkN; rw [if_neg (by rw [hr, ho]; simp; omega)]; simp only; rw [hlen]
        have N12 := Lib.hid (show n ≤ 12 from by have := (rightN_iff.1 hr).2.1; simp only at this; omega)
        have HR8 := Lib.hid (show anyW ws k ta ws.length → R = ((wa, to, ws), 8) from fun h => by rw [hRE, if_pos h])
        have HRN := Lib.hid (show ¬ anyW ws k ta ws.length → R = if 12 ≤ n then ((wa, to, ws), 6) else ((wa, to, ws ++ [(k, ta)]), 0) from fun h => by rw [hRE, if_neg h])
        clear hr hR hlen hb h1 ho hRE
        go_enter Try.func11, Try.ntmps11
        have CP2 := Lib.hid (CP.out _ (FR.out.es RX.out))
        have c00 : v2.cell? ⟨q, 0, none⟩ = some (.int .u32 wa) := FR.out.cell 0 0 rfl rfl rfl
        have c01 : v2.cell? ⟨q, 1, none⟩ = some (.int .u32 to) := FR.out.cell 0 1 rfl rfl rfl
        have c02 : v2.cell? ⟨q, 2, none⟩ = some (.slice A n c) := FR.out.cell 0 2 rfl rfl rfl
        have c10 : v2.cell? ⟨q + 1, 0, none⟩ = some (.int .u32 0) := FR.out.cell 1 0 rfl rfl rfl
        have c11 : v2.cell? ⟨q + 1, 1, none⟩ = some (.int .u32 0) := FR.out.cell 1 1 rfl rfl rfl
        have c12 : v2.cell? ⟨q + 1, 2, none⟩ = some (.slice none 0 0) := FR.out.cell 1 2 rfl rfl rfl
        go_wp2_with fail
        refine CP2.out.mono ?_
        rintro e w3 ⟨B, d, rfl, hown, hb⟩
        clear c00 c01 c02 c10 c11 c12
        have hsz := FR.out.sz
        simp only [List.length_cons, List.length_nil] at hsz
        replace FR := Lib.hid (FR.out.step hb)
        have OW := Lib.hid (own_base hown hsz)
        clear hb hown hsz
        have pc00 : w3.cell? ⟨q, 0, none⟩ = some (.int .u32 wa) := FR.out.cell 0 0 rfl rfl rfl
        have pf00 : w3.frozen? ⟨q, 0, none⟩ = false := FR.out.frozen 0 0 rfl rfl
        have pc01 : w3.cell? ⟨q, 1, none⟩ = some (.int .u32 to) := FR.out.cell 0 1 rfl rfl rfl
        have pf01 : w3.frozen? ⟨q, 1, none⟩ = false := FR.out.frozen 0 1 rfl rfl
        have pc02 : w3.cell? ⟨q, 2, none⟩ = some (.slice A n c) := FR.out.cell 0 2 rfl rfl rfl
        have pf02 : w3.frozen? ⟨q, 2, none⟩ = false := FR.out.frozen 0 2 rfl rfl
        have hszw4 := FR.out.sz
        simp only [List.length_cons, List.length_nil] at hszw4
        obtain ⟨w4, hw4⟩ : ∃ W, (((w3.setCell ⟨q, 0, none⟩ (.int .u32 wa)).setCell ⟨q, 1, none⟩ (.int .u32 to)).setCell ⟨q, 2, none⟩ (.slice B n d)) = W := ⟨_, rfl⟩
        replace FR := Lib.hid (show Fr w w4 q [.cells #[.int .u32 wa, .int .u32 to, .slice B n d] 25, .cells #[.int .u32 0, .int .u32 0, .slice none 0 0] 25] from hw4 ▸ (((FR.out.set 0 0 rfl rfl (.int .u32 wa)).set 0 1 rfl rfl (.int .u32 to)).set 0 2 rfl rfl (.slice B n d)))
        replace OW := Lib.hid (hw4 ▸ (own_apart (own_apart (own_apart OW.out (k := q) (o := 0) (u := .int .u32 wa) (by omega)) (k := q) (o := 1) (u := .int .u32 to) (by omega)) (k := q) (o := 2) (u := .slice B n d) (by omega)))
        have RX2 := Lib.hid (wts_own OW.out)
        have c00 : w4.cell? ⟨q, 0, none⟩ = some (.int .u32 wa) := FR.out.cell 0 0 rfl rfl rfl
        have c01 : w4.cell? ⟨q, 1, none⟩ = some (.int .u32 to) := FR.out.cell 0 1 rfl rfl rfl
        have c02 : w4.cell? ⟨q, 2, none⟩ = some (.slice B n d) := FR.out.cell 0 2 rfl rfl rfl
        go_wp2_with fail
        refine ((RT.out _ _ _ RX2.out)).mono ?_
        rintro e w5 ⟨rfl, hb⟩
        clear c00 c01 c02
        replace FR := Lib.hid (FR.out.step hb)
        replace OW := Lib.hid (own_below OW.out hb)
        clear hb
        replace RX2 := Lib.hid (wts_own OW.out)
        have c00 : w5.cell? ⟨q, 0, none⟩ = some (.int .u32 wa) := FR.out.cell 0 0 rfl rfl rfl
        have c01 : w5.cell? ⟨q, 1, none⟩ = some (.int .u32 to) := FR.out.cell 0 1 rfl rfl rfl
        have c02 : w5.cell? ⟨q, 2, none⟩ = some (.slice B n d) := FR.out.cell 0 2 rfl rfl rfl
        go_wp2_with fail
        refine ((OU.out _ _ _ RX2.out)).mono ?_
        rintro e w6 ⟨rfl, hb⟩
        clear c00 c01 c02
        replace FR := Lib.hid (FR.out.step hb)
        replace OW := Lib.hid (own_below OW.out hb)
        clear hb
        replace RX2 := Lib.hid (wts_own OW.out)
        have c00 : w6.cell? ⟨q, 0, none⟩ = some (.int .u32 wa) := FR.out.cell 0 0 rfl rfl rfl
        have c01 : w6.cell? ⟨q, 1, none⟩ = some (.int .u32 to) := FR.out.cell 0 1 rfl rfl rfl
        have c02 : w6.cell? ⟨q, 2, none⟩ = some (.slice B n d) := FR.out.cell 0 2 rfl rfl rfl
        go_wp2
        refine wp_region_noPanic ?_
        refine wp_region_held_drew (S := (fun wv => Hid (Fr w wv q [.cells #[.int .u32 wa, .int .u32 to, .slice B n d] 25, .cells #[.int .u32 0, .int .u32 0, .slice none 0 0] 25] ∧ wv.ownsRow (q + 2) 53 2 (.slice B n d) n (wtC ws)))) (by kernel_rfl) (Lib.hid ⟨FR.out.drew, ⟨OW.out.1, OW.out.2⟩⟩) (fun hS => ?_)
        refine wpAnyH_take (i := 0) (oi := ⟨some 22, .fieldAddr 25 (.tmp 3) 2, 0, "notify.go:56", #[], none⟩) (v := ?_) rfl (by kernel_rfl) (by kernel_rfl) (by kernel_rfl) (fun _ _ _ h => h) (Or.inl ⟨by rfl, ?_⟩) hS ?_
        rotate_left
        · intro wv _; go_simp; try with_reducible rfl
        try simp only [Act.put, List.setIfInBounds_toArray, List.set_cons_zero, List.set_cons_succ]
        refine wpAnyH_take (i := 1) (oi := ⟨some 23, .load 23 (.tmp 22), 23, "notify.go:56", #[⟨0, .data⟩], none⟩) (v := ?_) rfl (by kernel_rfl) (by kernel_rfl) (by kernel_rfl) (fun _ _ _ h => h) (Or.inl ⟨by rfl, ?_⟩) hS ?_
        rotate_left
        · intro wv hS; have hrun := (show wv.cell? ⟨q, 2, none⟩ = some (.slice B n d) from hS.out.1.cell 0 2 rfl rfl rfl); go_simp; try with_reducible rfl
        try simp only [Act.put, List.setIfInBounds_toArray, List.set_cons_zero, List.set_cons_succ]
        refine wpAnyH_take (i := 2) (oi := ⟨some 24, .move (.tmp 2), 3, "notify.go:56", #[], none⟩) (v := ?_) rfl (by kernel_rfl) (by kernel_rfl) (by kernel_rfl) (fun _ _ _ h => h) (Or.inl ⟨by rfl, ?_⟩) hS ?_
        rotate_left
        · intro wv _; go_simp; try with_reducible rfl
        try simp only [Act.put, List.setIfInBounds_toArray, List.set_cons_zero, List.set_cons_succ]
        refine wpAnyH_ready (rs := [3]) (by kernel_rfl) (by simp) (AllReadyH.cons (o := ⟨some 25, .call { callee := .value (.func 30), args := #[.tmp 24], argTypes := #[3] }, 54, "notify.go:56", #[⟨2, .data⟩], none⟩) rfl (fun K hK => ?_) AllReadyH.nil)
        go_simp
        refine (ntTask_any ta _).mono ?_; rintro e wx ⟨b, rfl, hcb, hbq, hb⟩
        replace hS := Lib.hid (And.intro (hS.out.1.step hb) (own_below hS.out.2 hb))
        go_wp2_with fail
        refine Shut.out hK _ _ hS (fun _ => ?_)
        clear hK K
        try simp only [Act.put, List.setIfInBounds_toArray, List.set_cons_zero, List.set_cons_succ]
        refine wpAnyH_ready (rs := [4]) (by kernel_rfl) (by simp) (AllReadyH.cons (o := ⟨some 26, .call { callee := .value (.func 29), args := #[.tmp 23, .tmp 25], argTypes := #[23, 54] }, 4, "notify.go:56", #[⟨1, .data⟩, ⟨3, .data⟩, ⟨3, .chain⟩], none⟩) rfl (fun K hK => ?_) AllReadyH.nil)
        go_simp
        refine (ntTaskContains_any _ _ _ ws _ ta _ (wts_own hS.out.2) hcb hn).mono ?_; rintro e wc6 ⟨y, rfl, hy, hb⟩
        replace hS := Lib.hid (And.intro (hS.out.1.step hb) (own_below hS.out.2 hb))
        go_wp2_with fail
        refine Shut.out hK _ _ hS (fun _ => ?_)
        clear hK K
        try simp only [Act.put, List.setIfInBounds_toArray, List.set_cons_zero, List.set_cons_succ]
        refine wpAnyH_take (i := 5) (oi := ⟨some 21, .assign (.tmp 26), 4, "notify.go:56", #[⟨4, .data⟩, ⟨4, .chain⟩], none⟩) (v := ?_) rfl (by kernel_rfl) (by kernel_rfl) (by kernel_rfl) (fun _ _ _ h => h) (Or.inl ⟨by rfl, ?_⟩) hS ?_
        rotate_left
        · intro wv _; go_simp; try with_reducible rfl
        try simp only [Act.put, List.setIfInBounds_toArray, List.set_cons_zero, List.set_cons_succ]
        refine wpAnyH_done (by kernel_rfl) ?_ _
        refine NoPanic.normal ?_
        clear c00 c01 c02
        clear FR OW
        have FR := Lib.hid hS.out.1
        have OW := Lib.hid hS.out.2
        replace RX2 := Lib.hid (wts_own OW.out)
        have HY6 := Lib.hid hy
        clear hS hb hcb hbq hy
        cases y
        · have c00 : wc6.cell? ⟨q, 0, none⟩ = some (.int .u32 wa) := FR.out.cell 0 0 rfl rfl rfl
          have c01 : wc6.cell? ⟨q, 1, none⟩ = some (.int .u32 to) := FR.out.cell 0 1 rfl rfl rfl
          have c02 : wc6.cell? ⟨q, 2, none⟩ = some (.slice B n d) := FR.out.cell 0 2 rfl rfl rfl
          go_wp2
          refine wp_region_noPanic ?_
          refine wp_region_held_drew (S := (fun wv => Hid (Fr w wv q [.cells #[.int .u32 wa, .int .u32 to, .slice B n d] 25, .cells #[.int .u32 0, .int .u32 0, .slice none 0 0] 25] ∧ wv.ownsRow (q + 2) 53 2 (.slice B n d) n (wtC ws)))) (by kernel_rfl) (Lib.hid ⟨FR.out.drew, ⟨OW.out.1, OW.out.2⟩⟩) (fun hS => ?_)
          refine wpAnyH_take (i := 0) (oi := ⟨some 27, .fieldAddr 25 (.tmp 3) 2, 0, "notify.go:56", #[], none⟩) (v := ?_) rfl (by kernel_rfl) (by kernel_rfl) (by kernel_rfl) (fun _ _ _ h => h) (Or.inl ⟨by rfl, ?_⟩) hS ?_
          rotate_left
          · intro wv _; go_simp; try with_reducible rfl
          try simp only [Act.put, List.setIfInBounds_toArray, List.set_cons_zero, List.set_cons_succ]
          refine wpAnyH_take (i := 1) (oi := ⟨some 28, .load 23 (.tmp 27), 23, "notify.go:56", #[⟨0, .data⟩], none⟩) (v := ?_) rfl (by kernel_rfl) (by kernel_rfl) (by kernel_rfl) (fun _ _ _ h => h) (Or.inl ⟨by rfl, ?_⟩) hS ?_
          rotate_left
          · intro wv hS; have hrun := (show wv.cell? ⟨q, 2, none⟩ = some (.slice B n d) from hS.out.1.cell 0 2 rfl rfl rfl); go_simp; try with_reducible rfl
          try simp only [Act.put, List.setIfInBounds_toArray, List.set_cons_zero, List.set_cons_succ]
          refine wpAnyH_take (i := 2) (oi := ⟨some 29, .move (.tmp 1), 22, "notify.go:56", #[], none⟩) (v := ?_) rfl (by kernel_rfl) (by kernel_rfl) (by kernel_rfl) (fun _ _ _ h => h) (Or.inl ⟨by rfl, ?_⟩) hS ?_
          rotate_left
          · intro wv _; go_simp; try with_reducible rfl
          try simp only [Act.put, List.setIfInBounds_toArray, List.set_cons_zero, List.set_cons_succ]
          refine wpAnyH_ready (rs := [3]) (by kernel_rfl) (by simp) (AllReadyH.cons (o := ⟨some 30, .call { callee := .value (.func 31), args := #[.tmp 29], argTypes := #[22] }, 54, "notify.go:56", #[⟨2, .data⟩], none⟩) rfl (fun K hK => ?_) AllReadyH.nil)
          go_simp
          refine (ntTick_any k _).mono ?_; rintro e wx ⟨b, rfl, hcb, hbq, hb⟩
          replace hS := Lib.hid (And.intro (hS.out.1.step hb) (own_below hS.out.2 hb))
          go_wp2_with fail
          refine Shut.out hK _ _ hS (fun _ => ?_)
          clear hK K
          try simp only [Act.put, List.setIfInBounds_toArray, List.set_cons_zero, List.set_cons_succ]
          refine wpAnyH_ready (rs := [4]) (by kernel_rfl) (by simp) (AllReadyH.cons (o := ⟨some 31, .call { callee := .value (.func 29), args := #[.tmp 28, .tmp 30], argTypes := #[23, 54] }, 4, "notify.go:56", #[⟨1, .data⟩, ⟨3, .data⟩, ⟨3, .chain⟩], none⟩) rfl (fun K hK => ?_) AllReadyH.nil)
          go_simp
          refine (ntTickContains_any _ _ _ ws _ k _ (wts_own hS.out.2) hcb hn).mono ?_; rintro e wc7 ⟨y, rfl, hy, hb⟩
          replace hS := Lib.hid (And.intro (hS.out.1.step hb) (own_below hS.out.2 hb))
          go_wp2_with fail
          refine Shut.out hK _ _ hS (fun _ => ?_)
          clear hK K
          try simp only [Act.put, List.setIfInBounds_toArray, List.set_cons_zero, List.set_cons_succ]
          refine wpAnyH_take (i := 5) (oi := ⟨some 21, .assign (.tmp 31), 4, "notify.go:56", #[⟨4, .data⟩, ⟨4, .chain⟩], none⟩) (v := ?_) rfl (by kernel_rfl) (by kernel_rfl) (by kernel_rfl) (fun _ _ _ h => h) (Or.inl ⟨by rfl, ?_⟩) hS ?_
          rotate_left
          · intro wv _; go_simp; try with_reducible rfl
          try simp only [Act.put, List.setIfInBounds_toArray, List.set_cons_zero, List.set_cons_succ]
          refine wpAnyH_done (by kernel_rfl) ?_ _
          refine NoPanic.normal ?_
          clear c00 c01 c02
          clear FR OW
          have FR := Lib.hid hS.out.1
          have OW := Lib.hid hS.out.2
          replace RX2 := Lib.hid (wts_own OW.out)
          have HY7 := Lib.hid hy
          clear hS hb hcb hbq hy
          cases y
          · have hRE := HRN.out (fun h => by rcases anyW_iff.1 h with h | h; exact absurd (HY6.out.2 h) (by simp); exact absurd (HY7.out.2 h) (by simp))
            clear HY6 HY7 HR8 HRN
            by_cases h4 : 12 ≤ n
            · have e12 : n = 12 := by have := N12.out; omega
              have c4 : ((n : Int) == 12) = true := by simp [e12]
              have c4n : (n == 12) = true := by simp [e12]
              have HE := Lib.hid (show R = ((wa, to, ws), 6) by rw [hRE, if_pos h4])
              clear hRE h4 e12
              have c00 : wc7.cell? ⟨q, 0, none⟩ = some (.int .u32 wa) := FR.out.cell 0 0 rfl rfl rfl
              have f00 : wc7.frozen? ⟨q, 0, none⟩ = false := FR.out.frozen 0 0 rfl rfl
              have c01 : wc7.cell? ⟨q, 1, none⟩ = some (.int .u32 to) := FR.out.cell 0 1 rfl rfl rfl
              have f01 : wc7.frozen? ⟨q, 1, none⟩ = false := FR.out.frozen 0 1 rfl rfl
              have c02 : wc7.cell? ⟨q, 2, none⟩ = some (.slice B n d) := FR.out.cell 0 2 rfl rfl rfl
              have f02 : wc7.frozen? ⟨q, 2, none⟩ = false := FR.out.frozen 0 2 rfl rfl
              have c10 : wc7.cell? ⟨q + 1, 0, none⟩ = some (.int .u32 0) := FR.out.cell 1 0 rfl rfl rfl
              have f10 : wc7.frozen? ⟨q + 1, 0, none⟩ = false := FR.out.frozen 1 0 rfl rfl
              have c11 : wc7.cell? ⟨q + 1, 1, none⟩ = some (.int .u32 0) := FR.out.cell 1 1 rfl rfl rfl
              have f11 : wc7.frozen? ⟨q + 1, 1, none⟩ = false := FR.out.frozen 1 1 rfl rfl
              have c12 : wc7.cell? ⟨q + 1, 2, none⟩ = some (.slice none 0 0) := FR.out.cell 1 2 rfl rfl rfl
              have f12 : wc7.frozen? ⟨q + 1, 2, none⟩ = false := FR.out.frozen 1 2 rfl rfl
              go_wp2
              have FZ : Fr w (((wc7.setCell ⟨q + 1, 0, none⟩ (.int .u32 wa)).setCell ⟨q + 1, 1, none⟩ (.int .u32 to)).setCell ⟨q + 1, 2, none⟩ (.slice B n d)) q [.cells #[.int .u32 wa, .int .u32 to, .slice B n d] 25, .cells #[.int .u32 wa, .int .u32 to, .slice B n d] 25] := (((FR.out.set 1 0 rfl rfl (.int .u32 wa)).set 1 1 rfl rfl (.int .u32 to)).set 1 2 rfl rfl (.slice B n d))
              refine bodyPost_ret (res_cs Try.results11 (by rfl) (FZ.load 1 rfl rfl Try.underlying25 (by kernel_rfl))) rfl ?_
              rw [HE.out]
              have hrs := own_base (own_apart (own_apart (own_apart (OW.out) (k := q + 1) (o := 0) (u := .int .u32 wa) (by omega)) (k := q + 1) (o := 1) (u := .int .u32 to) (by omega)) (k := q + 1) (o := 2) (u := .slice B n d) (by omega)) (show w.heap.size ≤ _ from by rw [hq]; omega)
              exact ⟨_, _, _, rfl, wts_own hrs, FZ.out, Or.inl hrs⟩
            · have c4 : ((n : Int) == 12) = false := by simp; omega
              have c4n : (n == 12) = false := by simp; omega
              have HE := Lib.hid (show R = ((wa, to, ws ++ [(k, ta)]), 0) by rw [hRE, if_neg h4])
              clear hRE h4
              have hsz := FR.out.sz
              simp only [List.length_cons, List.length_nil] at hsz
              obtain ⟨A4, c4, w9, hap4, hown4, hbel4⟩ := eapp_lit (P := Try.prog) (ty := 23) (w0 := wc7) (base := q + 2) (W := wc7) Try.underlying23 HI.out HZ0.out HZ1.out HZ2.out rfl (by decide) OW.out (wtC_one _) (wtC [(k, ta)]) (wtC_one _) (m := 1) rfl (by unfold maxLen; omega) (by omega) (Below.refl _ wc7) hsz
              rw [← wtC_app] at hown4
              replace hap4 : (Builtin.append_ #[23, 23] 23 #[.slice B n d, .slice (some ⟨wc7.heap.size, 0, none⟩) 1 1]).run Try.prog (wc7.alloc (.cells #[.int .u32 k, .int .i64 ta] 53)) = _ := hap4
              have c00 : wc7.cell? ⟨q, 0, none⟩ = some (.int .u32 wa) := FR.out.cell 0 0 rfl rfl rfl
              have f00 : wc7.frozen? ⟨q, 0, none⟩ = false := FR.out.frozen 0 0 rfl rfl
              have c01 : wc7.cell? ⟨q, 1, none⟩ = some (.int .u32 to) := FR.out.cell 0 1 rfl rfl rfl
              have f01 : wc7.frozen? ⟨q, 1, none⟩ = false := FR.out.frozen 0 1 rfl rfl
              have c02 : wc7.cell? ⟨q, 2, none⟩ = some (.slice B n d) := FR.out.cell 0 2 rfl rfl rfl
              have f02 : wc7.frozen? ⟨q, 2, none⟩ = false := FR.out.frozen 0 2 rfl rfl
              have c10 : wc7.cell? ⟨q + 1, 0, none⟩ = some (.int .u32 0) := FR.out.cell 1 0 rfl rfl rfl
              have f10 : wc7.frozen? ⟨q + 1, 0, none⟩ = false := FR.out.frozen 1 0 rfl rfl
              have c11 : wc7.cell? ⟨q + 1, 1, none⟩ = some (.int .u32 0) := FR.out.cell 1 1 rfl rfl rfl
              have f11 : wc7.frozen? ⟨q + 1, 1, none⟩ = false := FR.out.frozen 1 1 rfl rfl
              have c12 : wc7.cell? ⟨q + 1, 2, none⟩ = some (.slice none 0 0) := FR.out.cell 1 2 rfl rfl rfl
              have f12 : wc7.frozen? ⟨q + 1, 2, none⟩ = false := FR.out.frozen 1 2 rfl rfl
              have HO4 := Lib.hid hown4
              have FR9 := Lib.hid (show Fr w w9 q [.cells #[.int .u32 wa, .int .u32 to, .slice B n d] 25, .cells #[.int .u32 0, .int .u32 0, .slice none 0 0] 25] from FR.out.over hbel4)
              clear hown4 hbel4
              replace FR := FR9
              have OW9 := HO4
              clear OW RX2 HO4 FR9
              have ec00 : w9.cell? ⟨q, 0, none⟩ = some (.int .u32 wa) := FR.out.cell 0 0 rfl rfl rfl
              have ef00 : w9.frozen? ⟨q, 0, none⟩ = false := FR.out.frozen 0 0 rfl rfl
              have ec01 : w9.cell? ⟨q, 1, none⟩ = some (.int .u32 to) := FR.out.cell 0 1 rfl rfl rfl
              have ef01 : w9.frozen? ⟨q, 1, none⟩ = false := FR.out.frozen 0 1 rfl rfl
              have ec02 : w9.cell? ⟨q, 2, none⟩ = some (.slice B n d) := FR.out.cell 0 2 rfl rfl rfl
              have ef02 : w9.frozen? ⟨q, 2, none⟩ = false := FR.out.frozen 0 2 rfl rfl
              have ec10 : w9.cell? ⟨q + 1, 0, none⟩ = some (.int .u32 0) := FR.out.cell 1 0 rfl rfl rfl
              have ef10 : w9.frozen? ⟨q + 1, 0, none⟩ = false := FR.out.frozen 1 0 rfl rfl
              have ec11 : w9.cell? ⟨q + 1, 1, none⟩ = some (.int .u32 0) := FR.out.cell 1 1 rfl rfl rfl
              have ef11 : w9.frozen? ⟨q + 1, 1, none⟩ = false := FR.out.frozen 1 1 rfl rfl
              have ec12 : w9.cell? ⟨q + 1, 2, none⟩ = some (.slice none 0 0) := FR.out.cell 1 2 rfl rfl rfl
              have ef12 : w9.frozen? ⟨q + 1, 2, none⟩ = false := FR.out.frozen 1 2 rfl rfl
              go_wp2_with (at_builtin; refine eapp_run (by rfl) rfl rfl rfl hap4 ?_)
              have FZ : Fr w ((((w9.setCell ⟨q, 2, none⟩ (.slice A4 (n + 1) c4)).setCell ⟨q + 1, 0, none⟩ (.int .u32 wa)).setCell ⟨q + 1, 1, none⟩ (.int .u32 to)).setCell ⟨q + 1, 2, none⟩ (.slice A4 (n + 1) c4)) q [.cells #[.int .u32 wa, .int .u32 to, .slice A4 (n + 1) c4] 25, .cells #[.int .u32 wa, .int .u32 to, .slice A4 (n + 1) c4] 25] := ((((FR.out.set 0 2 rfl rfl (.slice A4 (n + 1) c4)).set 1 0 rfl rfl (.int .u32 wa)).set 1 1 rfl rfl (.int .u32 to)).set 1 2 rfl rfl (.slice A4 (n + 1) c4))
              refine bodyPost_ret (res_cs Try.results11 (by rfl) (FZ.load 1 rfl rfl Try.underlying25 (by kernel_rfl))) rfl ?_
              rw [HE.out]
              have hrs := own_base (own_apart (own_apart (own_apart (own_apart (OW9.out) (k := q) (o := 2) (u := .slice A4 (n + 1) c4) (by omega)) (k := q + 1) (o := 0) (u := .int .u32 wa) (by omega)) (k := q + 1) (o := 1) (u := .int .u32 to) (by omega)) (k := q + 1) (o := 2) (u := .slice A4 (n + 1) c4) (by omega)) (show w.heap.size ≤ _ from by rw [hq]; omega)
              exact ⟨_, _, _, rfl, wts_own hrs, FZ.out, Or.inl hrs⟩
          · have HE := Lib.hid (HR8.out (anyW_iff.2 (Or.inr (HY7.out.1 rfl))))
            clear HY6 HY7 HR8 HRN
            have c00 : wc7.cell? ⟨q, 0, none⟩ = some (.int .u32 wa) := FR.out.cell 0 0 rfl rfl rfl
            have f00 : wc7.frozen? ⟨q, 0, none⟩ = false := FR.out.frozen 0 0 rfl rfl
            have c01 : wc7.cell? ⟨q, 1, none⟩ = some (.int .u32 to) := FR.out.cell 0 1 rfl rfl rfl
            have f01 : wc7.frozen? ⟨q, 1, none⟩ = false := FR.out.frozen 0 1 rfl rfl
            have c02 : wc7.cell? ⟨q, 2, none⟩ = some (.slice B n d) := FR.out.cell 0 2 rfl rfl rfl
            have f02 : wc7.frozen? ⟨q, 2, none⟩ = false := FR.out.frozen 0 2 rfl rfl
            have c10 : wc7.cell? ⟨q + 1, 0, none⟩ = some (.int .u32 0) := FR.out.cell 1 0 rfl rfl rfl
            have f10 : wc7.frozen? ⟨q + 1, 0, none⟩ = false := FR.out.frozen 1 0 rfl rfl
            have c11 : wc7.cell? ⟨q + 1, 1, none⟩ = some (.int .u32 0) := FR.out.cell 1 1 rfl rfl rfl
            have f11 : wc7.frozen? ⟨q + 1, 1, none⟩ = false := FR.out.frozen 1 1 rfl rfl
            have c12 : wc7.cell? ⟨q + 1, 2, none⟩ = some (.slice none 0 0) := FR.out.cell 1 2 rfl rfl rfl
            have f12 : wc7.frozen? ⟨q + 1, 2, none⟩ = false := FR.out.frozen 1 2 rfl rfl
            go_wp2
            have FZ : Fr w (((wc7.setCell ⟨q + 1, 0, none⟩ (.int .u32 wa)).setCell ⟨q + 1, 1, none⟩ (.int .u32 to)).setCell ⟨q + 1, 2, none⟩ (.slice B n d)) q [.cells #[.int .u32 wa, .int .u32 to, .slice B n d] 25, .cells #[.int .u32 wa, .int .u32 to, .slice B n d] 25] := (((FR.out.set 1 0 rfl rfl (.int .u32 wa)).set 1 1 rfl rfl (.int .u32 to)).set 1 2 rfl rfl (.slice B n d))
            refine bodyPost_ret (res_cs Try.results11 (by rfl) (FZ.load 1 rfl rfl Try.underlying25 (by kernel_rfl))) rfl ?_
            rw [HE.out]
            have hrs := own_base (own_apart (own_apart (own_apart (OW.out) (k := q + 1) (o := 0) (u := .int .u32 wa) (by omega)) (k := q + 1) (o := 1) (u := .int .u32 to) (by omega)) (k := q + 1) (o := 2) (u := .slice B n d) (by omega)) (show w.heap.size ≤ _ from by rw [hq]; omega)
            exact ⟨_, _, _, rfl, wts_own hrs, FZ.out, Or.inl hrs⟩
        · have HE := Lib.hid (HR8.out (anyW_iff.2 (Or.inl (HY6.out.1 rfl))))
          clear HY6 HR8 HRN
          have c00 : wc6.cell? ⟨q, 0, none⟩ = some (.int .u32 wa) := FR.out.cell 0 0 rfl rfl rfl
          have f00 : wc6.frozen? ⟨q, 0, none⟩ = false := FR.out.frozen 0 0 rfl rfl
          have c01 : wc6.cell? ⟨q, 1, none⟩ = some (.int .u32 to) := FR.out.cell 0 1 rfl rfl rfl
          have f01 : wc6.frozen? ⟨q, 1, none⟩ = false := FR.out.frozen 0 1 rfl rfl
          have c02 : wc6.cell? ⟨q, 2, none⟩ = some (.slice B n d) := FR.out.cell 0 2 rfl rfl rfl
          have f02 : wc6.frozen? ⟨q, 2, none⟩ = false := FR.out.frozen 0 2 rfl rfl
          have c10 : wc6.cell? ⟨q + 1, 0, none⟩ = some (.int .u32 0) := FR.out.cell 1 0 rfl rfl rfl
          have f10 : wc6.frozen? ⟨q + 1, 0, none⟩ = false := FR.out.frozen 1 0 rfl rfl
          have c11 : wc6.cell? ⟨q + 1, 1, none⟩ = some (.int .u32 0) := FR.out.cell 1 1 rfl rfl rfl
          have f11 : wc6.frozen? ⟨q + 1, 1, none⟩ = false := FR.out.frozen 1 1 rfl rfl
          have c12 : wc6.cell? ⟨q + 1, 2, none⟩ = some (.slice none 0 0) := FR.out.cell 1 2 rfl rfl rfl
          have f12 : wc6.frozen? ⟨q + 1, 2, none⟩ = false := FR.out.frozen 1 2 rfl rfl
          go_wp2
          have FZ : Fr w (((wc6.setCell ⟨q + 1, 0, none⟩ (.int .u32 wa)).setCell ⟨q + 1, 1, none⟩ (.int .u32 to)).setCell ⟨q + 1, 2, none⟩ (.slice B n d)) q [.cells #[.int .u32 wa, .int .u32 to, .slice B n d] 25, .cells #[.int .u32 wa, .int .u32 to, .slice B n d] 25] := (((FR.out.set 1 0 rfl rfl (.int .u32 wa)).set 1 1 rfl rfl (.int .u32 to)).set 1 2 rfl rfl (.slice B n d))
          refine bodyPost_ret (res_cs Try.results11 (by rfl) (FZ.load 1 rfl rfl Try.underlying25 (by kernel_rfl))) rfl ?_
          rw [HE.out]
          have hrs := own_base (own_apart (own_apart (own_apart (OW.out) (k := q + 1) (o := 0) (u := .int .u32 wa) (by omega)) (k := q + 1) (o := 1) (u := .int .u32 to) (by omega)) (k := q + 1) (o := 2) (u := .slice B n d) (by omega)) (show w.heap.size ≤ _ from by rw [hq]; omega)
          exact ⟨_, _, _, rfl, wts_own hrs, FZ.out, Or.inl hrs⟩
end Go.Proofs.Ytjpgmkbcjedhfaa
