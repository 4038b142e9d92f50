/- What the landed timer's own up, first and down answer, which turn a row of the call's own in place; for lists of up to 16384. -/
import Derived.Test.YtehpfpphpffniaaTimL
namespace Go.Proofs.Ytehpfpphpffniaa
set_option linter.unusedVariables false
set_option linter.unusedSimpArgs false
open Go.RowKit
/-- of a place and its first so many children, the one that is before the others. -/
def frC (h : List Tm) (i : Nat) : Nat → Nat
  | 0 => i
  | m + 1 => if 4 * i + 1 + m < h.length ∧ befT (tmAt h (4 * i + 1 + m)) (tmAt h (frC h i m)) then 4 * i + 1 + m else frC h i m
theorem frC_end {h : List Tm} {i m : Nat} (he : h.length ≤ 4 * i + 1 + m) : ∀ j : Nat, frC h i (m + j) = frC h i m
  | 0 => rfl
  | j + 1 => by
    show (if 4 * i + 1 + (m + j) < h.length ∧ _ then _ else frC h i (m + j)) = _
    rw [if_neg (by omega)]
    exact frC_end he j
theorem frC_lt {h : List Tm} {i : Nat} (hi : i < h.length) : ∀ m : Nat, frC h i m < h.length
  | 0 => hi
  | m + 1 => by
    show (if 4 * i + 1 + m < h.length ∧ _ then _ else frC h i m) < _
    split
    · rename_i h1; exact h1.1
    · exact frC_lt hi m
theorem frC_best {h : List Tm} {i : Nat} (h0 : 4 * i + 1 < h.length) : ∀ m : Nat, frC h i (m + 1) = if befT (tmAt h (bestC h (4 * i + 1) m)) (tmAt h i) then bestC h (4 * i + 1) m else i
  | 0 => by
    show (if 4 * i + 1 + 0 < h.length ∧ befT (tmAt h (4 * i + 1 + 0)) (tmAt h i) then 4 * i + 1 + 0 else i) = if befT (tmAt h (4 * i + 1)) (tmAt h i) then 4 * i + 1 else i
    rw [Nat.add_zero]
    by_cases h1 : befT (tmAt h (4 * i + 1)) (tmAt h i)
    · rw [if_pos ⟨h0, h1⟩, if_pos h1]
    · rw [if_neg (fun h => h1 h.2), if_neg h1]
  | m + 1 => by
    have ih := frC_best h0 m
    show (if 4 * i + 1 + (m + 1) < h.length ∧ befT (tmAt h (4 * i + 1 + (m + 1))) (tmAt h (frC h i (m + 1))) then 4 * i + 1 + (m + 1) else frC h i (m + 1)) = _
    have hb : bestC h (4 * i + 1) (m + 1) = if 4 * i + 1 + m + 1 < h.length ∧ befT (tmAt h (4 * i + 1 + m + 1)) (tmAt h (bestC h (4 * i + 1) m)) then 4 * i + 1 + m + 1 else bestC h (4 * i + 1) m := rfl
    rw [hb, ih, show 4 * i + 1 + (m + 1) = 4 * i + 1 + m + 1 by omega]
    generalize bestC h (4 * i + 1) m = b
    generalize 4 * i + 1 + m + 1 = k
    by_cases hk : k < h.length
    · by_cases h1 : befT (tmAt h b) (tmAt h i)
      · rw [if_pos h1]
        by_cases h2 : befT (tmAt h k) (tmAt h b)
        · rw [if_pos ⟨hk, h2⟩, if_pos (befT_trans h2 h1)]
        · rw [if_neg (fun h => h2 h.2), if_pos h1]
      · rw [if_neg h1]
        by_cases h2 : befT (tmAt h k) (tmAt h i)
        · have h3 : befT (tmAt h k) (tmAt h b) := bef_nbef h2 h1
          have e1 : (if k < h.length ∧ befT (tmAt h k) (tmAt h b) then k else b) = k := if_pos ⟨hk, h3⟩
          rw [e1, if_pos ⟨hk, h2⟩, if_pos h2]
        · rw [if_neg (fun h5 : k < h.length ∧ befT (tmAt h k) (tmAt h i) => h2 h5.2)]
          by_cases h4 : k < h.length ∧ befT (tmAt h k) (tmAt h b)
          · have e1 : (if k < h.length ∧ befT (tmAt h k) (tmAt h b) then k else b) = k := if_pos h4
            rw [e1, if_neg h2]
          · have e1 : (if k < h.length ∧ befT (tmAt h k) (tmAt h b) then k else b) = b := if_neg h4
            rw [e1, if_neg h1]
    · have e1 : (if k < h.length ∧ befT (tmAt h k) (tmAt h b) then k else b) = b := if_neg (fun h5 => hk h5.1)
      rw [e1]
      exact if_neg (fun h5 : k < h.length ∧ _ => hk h5.1)
theorem bestC_ge (h : List Tm) (b : Nat) : ∀ m : Nat, b ≤ bestC h b m
  | 0 => Nat.le_refl _
  | m + 1 => by
    show b ≤ (if b + m + 1 < h.length ∧ _ then b + m + 1 else bestC h b m)
    split
    · omega
    · exact bestC_ge h b m
theorem down_fr {f : Nat} {h : List Tm} {i : Nat} (hi : i < h.length) : downT (f + 1) h i = if frC h i 4 = i then h else downT f (swapT h i (frC h i 4)) (frC h i 4) := by
  conv => lhs; unfold downT
  by_cases h0 : 4 * i + 1 < h.length
  · have h4 := frC_best h0 3
    have hg := bestC_ge h (4 * i + 1) 3
    rw [if_pos h0]
    by_cases h1 : befT (tmAt h (bestC h (4 * i + 1) 3)) (tmAt h i)
    · rw [if_pos h1] at h4 ⊢
      rw [h4, if_neg (by omega)]
    · rw [if_neg h1] at h4 ⊢
      rw [h4, if_pos rfl]
  · rw [if_neg h0]
    have h4 := frC_end (h := h) (i := i) (m := 0) (by omega) 4
    rw [Nat.zero_add] at h4
    rw [h4, if_pos (show frC h i 0 = i from rfl)]
/-- a row of one's own, and nothing else that was is turned. -/
structure TW (base : Nat) (w1 w : World) (g n d : Nat) (h : List Tm) : Prop where
  own : w.ownsRow base 24 2 (.slice (some ⟨g, 0, none⟩) n d) n (tmC h)
  gr : w1.grownBy w (some g)
section
variable {base : Nat} {w1 w w' w2 : World} {g n d : Nat} {h : List Tm}
theorem gset12 (k : w1.grownBy w (some g)) (o : Nat) (v : Value) : w1.grownBy (w.setCell ⟨g, o, none⟩ v) (some g) :=
  ⟨k.os, k.tape, k.output, by simpa [World.setCell] using k.size, fun i hi hne => (Below.heap_setCell _ _ _ _ (fun e => hne (by rw [e]))).trans (k.block i hi hne)⟩
theorem gtrans12 {r : Option Nat} (h : w1.grownBy w r) (k : w.grownBy w' r) : w1.grownBy w' r :=
  ⟨k.os.trans h.os, k.tape.trans h.tape, k.output.trans h.output, Nat.le_trans h.size k.size, fun i hi hne => (k.block i (by have := h.size; omega) hne).trans (h.block i hi hne)⟩
theorem gbel12 {r : Option Nat} (h : Below w.heap.size w w') : w.grownBy w' r := ⟨h.os, h.tape, h.output, h.size, fun k hk _ => h.block k hk⟩
theorem TW.mk0 (ho : w.ownsRow base 24 2 (.slice (some ⟨g, 0, none⟩) n d) n (tmC h)) : TW base w w g n d h := ⟨ho, World.grownBy.refl _ _⟩
theorem TW.len (H : TW base w1 w g n d h) : h.length = n := (tms_own H.own).len
theorem TW.at (H : TW base w1 w g n d h) (i : Nat) (hi : i < n) : w.cell? ⟨g, i * 2, none⟩ = some (.int .i64 (tmAt h i).1) ∧ w.cell? ⟨g, i * 2 + 1, none⟩ = some (.int .i64 (tmAt h i).2) := by
  obtain ⟨e0, e1⟩ := tmC_at h i (by rw [H.len]; exact hi)
  exact ⟨(H.own.cellAt (i * 2) (by omega)).trans e0, (H.own.cellAt (i * 2 + 1) (by omega)).trans e1⟩
theorem TW.step (H : TW base w1 w g n d h) (hb : Below w.heap.size w w') : TW base w1 w' g n d h := ⟨own_below H.own hb, gtrans12 H.gr (gbel12 hb)⟩
theorem TW.drew (H : TW base w1 w g n d h) : TW base w1 w.drew g n d h := ⟨own_below H.own (Below.refl _ w).drew, ⟨H.gr.os, H.gr.tape, H.gr.output, H.gr.size, H.gr.block⟩⟩
theorem TW.tms (H : TW base w1 w g n d h) : Tms w (some ⟨g, 0, none⟩) n d h := tms_own H.own
theorem TW.set (H : TW base w1 w g n d h) (i : Nat) (hi : i < n) (x y : Int) : TW base w1 ((w.setCell ⟨g, i * 2, none⟩ (.int .i64 x)).setCell ⟨g, i * 2 + 1, none⟩ (.int .i64 y)) g n d (h.set i (x, y)) := by
  refine ⟨?_, gset12 (gset12 H.gr _ _) _ _⟩
  have := ((H.own.stored (i * 2) (.int .i64 x)).1.stored (i * 2 + 1) (.int .i64 y)).1
  rw [tmC_set h i (x, y) (by rw [H.len]; exact hi)] at this
  exact this
theorem TW.ge (H : TW base w1 w g n d h) : base ≤ g := (H.own.lt g (by simp [Value.ownBlock])).1
theorem TW.lt (H : TW base w1 w g n d h) : g < w.heap.size := (H.own.lt g (by simp [Value.ownBlock])).2
theorem TW.trans (H : TW base w1 w g n d h) {m e : Nat} {l : List Tm} (K : TW base w w' g m e l) : TW base w1 w' g m e l := ⟨K.own, gtrans12 H.gr K.gr⟩
/-- the row's first timers. -/
theorem TW.take (H : TW base w1 w g n d h) (m : Nat) (hm : m ≤ n) : TW base w1 w g m d (h.take m) := by
  refine ⟨?_, H.gr⟩
  obtain ⟨h1, h2⟩ := H.own
  have hl := H.len
  refine ⟨by rw [tmC_len, List.length_take]; congr 1; omega, ?_⟩
  rcases h2 with ⟨h3, _⟩ | ⟨g', cap, cur, h3, h4, h5, h6, h7, h8, h9⟩
  · cases h3
  · injection h3 with h3 h10 h11
    injection h3 with h3; injection h3 with h3
    subst h3; subst h11
    refine Or.inr ⟨g, d, cur, rfl, h4, h5, by omega, h7, h8, ?_⟩
    have e1 : tmC (h.take m) = (tmC h).take (m * 2) := by
      have h12 := tmC_split h m
      have h13 : (tmC (h.take m)).length = m * 2 := by rw [tmC_len, List.length_take]; congr 1; omega
      rw [h12, ← h13, List.take_left']
      rfl
    rw [e1, ← h9, List.take_take]
    congr 1
    have : m * 2 ≤ n * 2 := Nat.mul_le_mul_right 2 hm
    omega
end
/-- nothing, and a row of one's own that was turned. -/
def TWp (w : World) (base g n d : Nat) (h : List Tm) (e : Ending) (w' : World) : Prop := e = .returned (.tuple #[]) ∧ TW base w w' g n d h
set_option maxRecDepth 100000 in
set_option maxHeartbeats 4000000 in
theorem up12_any (base g n d f i : Nat) (h : List Tm) (w : World) (ho : w.ownsRow base 24 2 (.slice (some ⟨g, 0, none⟩) n d) n (tmC h)) (hn : n ≤ 16384) (hi : i < n) (hf : i < f) :
    Calls Try.prog 39 #[.slice (some ⟨g, 0, none⟩) n d, .int .i64 (i : Int)] w (TWp w base g n d (upT f h i)) := by
  have HT := Lib.hid (TW.mk0 ho)
  have AH := Lib.hid (fun (k : Nat) (h : List Tm) (W : World) (hw : Tms W (some ⟨g, 0, none⟩) n d h) (hk : k < n) => ahead12_any (some ⟨g, 0, none⟩) n d k h W hw hn hk)
  have PF := Lib.hid (fun (k : Nat) (hk : 0 < k) (hk2 : k < n) (W : World) => par12_any k hk (by omega) W)
  obtain ⟨R, hR⟩ : ∃ R, upT f h i = R := ⟨_, rfl⟩
  rw [hR]
  have HR := Lib.hid hR
  have HF0 := Lib.hid hf
  clear hR hf ho
  go_enter Try.func39, Try.ntmps39
  go_wp2
  go_loopw [1] (fun iv wr => ∃ (k : Nat), iv = .int .i64 (k : Int) ∧ k < n ∧ Hid (∃ (f2 : Nat) (h2 : List Tm), k < f2 ∧ upT f2 h2 k = R ∧ TW base w wr g n d h2)) (fun iv _ => (intOf iv).toNat)
  case atStart => exact ⟨i, rfl, hi, f, h, HF0.out, HR.out, HT.out⟩
  case round =>
    clear HT HR HF0 hi
    obtain ⟨k, rfl, hk, HX⟩ := hrel
    obtain ⟨f2, h2, hf2, hR, hT⟩ := HX.out
    clear HX
    obtain ⟨f3, rfl⟩ : ∃ f3, f2 = f3 + 1 := ⟨f2 - 1, by omega⟩
    unfold upT at hR
    have HT := Lib.hid hT
    have HK := Lib.hid hk
    clear hT
    by_cases h0 : 0 < k ∧ befT (tmAt h2 k) (tmAt h2 ((k - 1) / 4))
    · rw [if_pos h0] at hR
      obtain ⟨p, hp⟩ : ∃ p, (k - 1) / 4 = p := ⟨_, rfl⟩
      have hpk : p < k := by omega
      have AQ := Lib.hid (fun (W : World) (hw : Tms W (some ⟨g, 0, none⟩) n d h2) => by have := AH.out k h2 W hw hk; rwa [decide_eq_true h0] at this)
      have PQ := PF.out k h0.1 hk
      rw [hp] at hR PQ
      replace PQ := Lib.hid PQ
      have HR := Lib.hid hR
      have k0 : (0 : Int) ≤ (k : Int) := by omega
      have k1 : (k : Int) < (n : Int) := by omega
      have p0 : (0 : Int) ≤ (p : Int) := by omega
      have p1 : (p : Int) < (n : Int) := by omega
      have HP := Lib.hid (show p < n by omega)
      obtain ⟨⟨tw, tk⟩, ht⟩ : ∃ x, tmAt h2 k = x := ⟨_, rfl⟩
      obtain ⟨⟨pw, pk⟩, hpt⟩ : ∃ x, tmAt h2 p = x := ⟨_, rfl⟩
      have AT := Lib.hid ht; have PT := Lib.hid hpt
      clear ht hpt hR hp h0
      go_wp2_with fail
      refine (AQ.out wr HT.out.tms).mono ?_
      rintro e w2 ⟨rfl, hb⟩
      replace HT := Lib.hid (HT.out.step hb)
      clear hb AQ
      go_wp2_with fail
      refine (PQ.out w2).mono ?_
      rintro e w3 ⟨rfl, rfl⟩
      obtain ⟨a0, a1⟩ := HT.out.at k HK.out
      obtain ⟨b0, b1⟩ := HT.out.at p HP.out
      rw [AT.out] at a0 a1; rw [PT.out] at b0 b1
      simp only at a0 a1 b0 b1
      have ff0 := HT.out.own.frozenAt (k * 2)
      have ff1 := HT.out.own.frozenAt (k * 2 + 1)
      have ff2 := HT.out.own.frozenAt (p * 2)
      have ff3 := HT.out.own.frozenAt (p * 2 + 1)
      have hnz := Lib.hid hpk
      have hnp : p ≠ k := by omega
      clear hpk
      go_wp2
      go_region
      go_wp2
      have hpk := hnz.out
      go_roundw
      case rel => exact ⟨p, rfl, HP.out, f3, swapT h2 k p, by omega, HR.out, by unfold swapT; rw [AT.out, PT.out]; exact (HT.out.drew.set k HK.out pw pk).set p HP.out tw tk⟩
      case measure => simp [intOf]; omega
    · rw [if_neg h0] at hR
      subst hR
      have AQ := Lib.hid (fun (W : World) (hw : Tms W (some ⟨g, 0, none⟩) n d h2) => by have := AH.out k h2 W hw hk; rwa [decide_eq_false h0] at this)
      clear h0
      go_wp2_with fail
      refine (AQ.out wr HT.out.tms).mono ?_
      rintro e w2 ⟨rfl, hb⟩
      replace HT := Lib.hid (HT.out.step hb)
      clear hb AQ
      go_wp2
      refine bodyPost_end (results_none rfl _ _ _) rfl ?_
      exact ⟨rfl, HT.out⟩
set_option maxRecDepth 100000 in
set_option maxHeartbeats 4000000 in
theorem first12_any (A : Option Addr) (n c i : Nat) (h : List Tm) (w : World) (hx : Tms w A n c h) (hn : n ≤ 16384) (hi : i < n) :
    Calls Try.prog 49 #[.slice A n c, .int .i64 (i : Int)] w (fun e w' => e = .returned (.int .i64 ((frC h i 4 : Nat) : Int)) ∧ Below w.heap.size w w') := by
  have hlen : h.length = n := hx.len
  have RX := Lib.hid hx
  have HL := Lib.hid hlen
  have HF := Lib.hid (fun (a1 a2 b1 b2 : Int) (W : World) => bef12_any a1 a2 b1 b2 W)
  obtain ⟨R, hR⟩ : ∃ R, frC h i 4 = R := ⟨_, rfl⟩
  rw [hR]
  have HR := Lib.hid hR
  have hs1 : IntKind.i64.wrap (4 * (i : Int)) = 4 * (i : Int) := by rw [IntKind.wrap_i64]; omega
  obtain ⟨j, hj⟩ : ∃ j, 4 * i + 1 = j := ⟨_, rfl⟩
  have hs2 : IntKind.i64.wrap (4 * (i : Int) + 1) = (j : Int) := by rw [IntKind.wrap_i64]; omega
  obtain ⟨k4, hk4⟩ : ∃ k, j + 4 = k := ⟨_, rfl⟩
  have HJ := Lib.hid hj; have HK4 := Lib.hid hk4
  obtain ⟨lim, hlim⟩ : ∃ l : Nat, min k4 n = l := ⟨_, rfl⟩
  have HLIM := Lib.hid hlim
  have hmin : (if (n : Int) < (j : Int) + 4 then (n : Int) else (j : Int) + 4) = (lim : Int) := by split <;> omega
  clear hR hlen hx
  go_enter Try.func49, Try.ntmps49
  go_wp2
  go_loopw [5, 7] (fun fv cv wr => ∃ (b k2 : Nat), fv = .int .i64 (b : Int) ∧ cv = .int .i64 (k2 : Int) ∧ b < n ∧ j ≤ k2 ∧ k2 ≤ k4 ∧ Hid (∃ m : Nat, m ≤ 4 ∧ k2 = j + m ∧ frC h i m = b) ∧ Hid (Below w.heap.size w wr)) (fun _ cv _ => k4 - (intOf cv).toNat)
  case atStart => exact ⟨i, j, by go_num, by go_num, hi, by omega, by omega, Lib.hid ⟨0, by omega, rfl, rfl⟩, Lib.hid (Below.refl _ _)⟩
  case round =>
    obtain ⟨b, k2, rfl, rfl, hb1, hj2, hk2, HM, HB⟩ := hrel
    by_cases h1 : k2 < lim
    · have c1 : decide ((k2 : Int) < (lim : Int)) = true := by simp; omega
      have c1n : decide (k2 < lim) = true := by simp; omega
      have hk2n : k2 < n := by have := HLIM.out; omega
      have q0 : (0 : Int) ≤ (k2 : Int) := by omega
      have q1 : (k2 : Int) < (n : Int) := by omega
      have b0 : (0 : Int) ≤ (b : Int) := by omega
      have b1 : (b : Int) < (n : Int) := by omega
      have RY := Lib.hid (Es.below RX.out HB.out)
      obtain ⟨bb, off, rfl, hb0, u0, u1⟩ := Tms.look RY.out k2 hk2n
      obtain ⟨b2, off2, he2, _, v0, v1⟩ := Tms.look RY.out b hb1
      injection he2 with he2
      injection he2 with he2 he3
      subst he2; subst he3
      obtain ⟨⟨uw, uk⟩, hu⟩ : ∃ x, tmAt h k2 = x := ⟨_, rfl⟩
      obtain ⟨⟨vw, vk⟩, hv⟩ : ∃ x, tmAt h b = x := ⟨_, rfl⟩
      rw [hu] at u0 u1; rw [hv] at v0 v1
      simp only at u0 u1 v0 v1
      have U0 := Lib.hid u0; have U1 := Lib.hid u1; have V0 := Lib.hid v0; have V1 := Lib.hid v1; have HB0 := Lib.hid hb0
      obtain ⟨m, m1, m2, m3⟩ := HM.out
      have hm4 : m < 4 := by have := HLIM.out; have := HK4.out; omega
      have hfm : frC h i (m + 1) = if befT (uw, uk) (vw, vk) then k2 else b := by
        have hkm : 4 * i + 1 + m = k2 := by have := HJ.out; omega
        show (if 4 * i + 1 + m < h.length ∧ befT (tmAt h (4 * i + 1 + m)) (tmAt h (frC h i m)) then 4 * i + 1 + m else frC h i m) = _
        rw [m3, hkm, hu, hv, HL.out]
        by_cases h9 : befT (uw, uk) (vw, vk)
        · rw [if_pos ⟨hk2n, h9⟩, if_pos h9]
        · rw [if_neg (fun h => h9 h.2), if_neg h9]
      have BF := HF.out uw uk vw vk
      clear hu hv u0 u1 v0 v1 hb0 m3
      by_cases hb : befT (uw, uk) (vw, vk)
      · rw [decide_eq_true hb] at BF
        replace BF := Lib.hid BF
        rw [if_pos hb] at hfm
        have HM2 := Lib.hid (show ∃ m2 : Nat, m2 ≤ 4 ∧ k2 + 1 = j + m2 ∧ frC h i m2 = k2 from ⟨m + 1, by omega, by omega, hfm⟩)
        have HLT := Lib.hid (show k2 < k4 by have := HLIM.out; omega)
        have HN2 := Lib.hid hk2n
        clear hfm hb m1 m2 hm4 HM
        go_upto_region 5 with fail
        refine wp_region_noPanic ?_
        refine wp_region_held_drew (S := (fun wv => Hid (Below wr.heap.size wr wv))) (by kernel_rfl) (Lib.hid (Below.refl _ wr).drew) (fun hS => ?_)
        refine wpAnyH_take (i := 0) (oi := ⟨some 22, .move (.tmp 0), 44, "heap.go:62", #[], none⟩) (v := ?_) rfl (by kernel_rfl) (by kernel_rfl) (by kernel_rfl) (fun _ _ _ h => h) (Or.inl ⟨by rfl, ?_⟩) hS ?_
        rotate_left
        · intro wv _; go_simp; try with_reducible rfl
        try simp only [Act.put, List.setIfInBounds_toArray, List.set_cons_zero, List.set_cons_succ]
        refine wpAnyH_take (i := 1) (oi := ⟨some 23, .move (.tmp 7), 3, "heap.go:62", #[], none⟩) (v := ?_) rfl (by kernel_rfl) (by kernel_rfl) (by kernel_rfl) (fun _ _ _ h => h) (Or.inl ⟨by rfl, ?_⟩) hS ?_
        rotate_left
        · intro wv _; go_simp; try with_reducible rfl
        try simp only [Act.put, List.setIfInBounds_toArray, List.set_cons_zero, List.set_cons_succ]
        refine wpAnyH_take (i := 2) (oi := ⟨some 24, .indexAddr 44 (.tmp 22) (.tmp 23), 0, "heap.go:62", #[⟨0, .data⟩, ⟨1, .data⟩], none⟩) (v := ?_) rfl (by kernel_rfl) (by kernel_rfl) (by kernel_rfl) (fun _ _ _ h => h) (Or.inl ⟨by rfl, ?_⟩) hS ?_
        rotate_left
        · intro wv _; go_simp; try with_reducible rfl
        try simp only [Act.put, List.setIfInBounds_toArray, List.set_cons_zero, List.set_cons_succ]
        refine wpAnyH_take (i := 3) (oi := ⟨some 25, .load 24 (.tmp 24), 24, "heap.go:62", #[⟨2, .data⟩], none⟩) (v := .agg (([.int .i64 uw, .int .i64 uk] : List Value)).toArray) rfl (by kernel_rfl) (by kernel_rfl) (by kernel_rfl) (fun _ _ _ h => h) (yieldsIf_load_mid (by rfl) _ _ (by rfl) (bb) (off + k2 * 2) (by rfl) (([.int .i64 uw, .int .i64 uk] : List Value)) _ (fun wv hS => tm_range ((hS.out.cell (p := ⟨bb, off + k2 * 2, none⟩) HB0.out).trans U0.out) ((hS.out.cell (p := ⟨bb, off + k2 * 2 + 1, none⟩) HB0.out).trans U1.out)) Try.underlying24 (by rfl) (by kernel_rfl)) hS ?_
        try simp only [Act.put, List.setIfInBounds_toArray, List.set_cons_zero, List.set_cons_succ]
        refine wpAnyH_take (i := 4) (oi := ⟨some 26, .move (.tmp 0), 44, "heap.go:62", #[], none⟩) (v := ?_) rfl (by kernel_rfl) (by kernel_rfl) (by kernel_rfl) (fun _ _ _ h => h) (Or.inl ⟨by rfl, ?_⟩) hS ?_
        rotate_left
        · intro wv _; go_simp; try with_reducible rfl
        try simp only [Act.put, List.setIfInBounds_toArray, List.set_cons_zero, List.set_cons_succ]
        refine wpAnyH_take (i := 5) (oi := ⟨some 27, .move (.tmp 5), 3, "heap.go:62", #[], none⟩) (v := ?_) rfl (by kernel_rfl) (by kernel_rfl) (by kernel_rfl) (fun _ _ _ h => h) (Or.inl ⟨by rfl, ?_⟩) hS ?_
        rotate_left
        · intro wv _; go_simp; try with_reducible rfl
        try simp only [Act.put, List.setIfInBounds_toArray, List.set_cons_zero, List.set_cons_succ]
        refine wpAnyH_take (i := 6) (oi := ⟨some 28, .indexAddr 44 (.tmp 26) (.tmp 27), 0, "heap.go:62", #[⟨4, .data⟩, ⟨5, .data⟩], none⟩) (v := ?_) rfl (by kernel_rfl) (by kernel_rfl) (by kernel_rfl) (fun _ _ _ h => h) (Or.inl ⟨by rfl, ?_⟩) hS ?_
        rotate_left
        · intro wv _; go_simp; try with_reducible rfl
        try simp only [Act.put, List.setIfInBounds_toArray, List.set_cons_zero, List.set_cons_succ]
        refine wpAnyH_take (i := 7) (oi := ⟨some 29, .load 24 (.tmp 28), 24, "heap.go:62", #[⟨6, .data⟩], none⟩) (v := .agg (([.int .i64 vw, .int .i64 vk] : List Value)).toArray) rfl (by kernel_rfl) (by kernel_rfl) (by kernel_rfl) (fun _ _ _ h => h) (yieldsIf_load_mid (by rfl) _ _ (by rfl) (bb) (off + b * 2) (by rfl) (([.int .i64 vw, .int .i64 vk] : List Value)) _ (fun wv hS => tm_range ((hS.out.cell (p := ⟨bb, off + b * 2, none⟩) HB0.out).trans V0.out) ((hS.out.cell (p := ⟨bb, off + b * 2 + 1, none⟩) HB0.out).trans V1.out)) Try.underlying24 (by rfl) (by kernel_rfl)) hS ?_
        try simp only [Act.put, List.setIfInBounds_toArray, List.set_cons_zero, List.set_cons_succ]
        refine wpAnyH_ready (rs := [8]) (by kernel_rfl) (by simp) (AllReadyH.cons (o := ⟨some 30, .call { callee := .value (.func 42), args := #[.tmp 25, .tmp 29], argTypes := #[24, 24] }, 4, "heap.go:62", #[⟨3, .data⟩, ⟨7, .data⟩], none⟩) rfl (fun K hK => ?_) AllReadyH.nil)
        go_simp
        refine (BF.out _).mono ?_; rintro e wa ⟨rfl, hbb⟩
        replace hS := Lib.hid (hS.out.trans (hbb.mono hS.out.size))
        clear hbb
        go_wp2_with fail
        refine Shut.out hK _ _ hS (fun _ => ?_)
        clear hK K
        try simp only [Act.put, List.setIfInBounds_toArray, List.set_cons_zero, List.set_cons_succ]
        refine wpAnyH_done (by kernel_rfl) ?_ _
        refine NoPanic.normal ?_
        replace HB := Lib.hid (HB.out.trans (hS.out.mono HB.out.size))
        clear hS
        go_wp2
        go_roundw
        case rel => exact ⟨k2, k2 + 1, rfl, by go_num, by have := HN2.out; omega, by omega, by have := HLT.out; omega, HM2, HB⟩
        case measure => have := HLT.out; simp [intOf]; omega
      · rw [decide_eq_false hb] at BF
        replace BF := Lib.hid BF
        rw [if_neg hb] at hfm
        have HM2 := Lib.hid (show ∃ m2 : Nat, m2 ≤ 4 ∧ k2 + 1 = j + m2 ∧ frC h i m2 = b from ⟨m + 1, by omega, by omega, hfm⟩)
        have HLT := Lib.hid (show k2 < k4 by have := HLIM.out; omega)
        have HN2 := Lib.hid hk2n
        clear hfm hb m1 m2 hm4 HM
        go_upto_region 5 with fail
        refine wp_region_noPanic ?_
        refine wp_region_held_drew (S := (fun wv => Hid (Below wr.heap.size wr wv))) (by kernel_rfl) (Lib.hid (Below.refl _ wr).drew) (fun hS => ?_)
        refine wpAnyH_take (i := 0) (oi := ⟨some 22, .move (.tmp 0), 44, "heap.go:62", #[], none⟩) (v := ?_) rfl (by kernel_rfl) (by kernel_rfl) (by kernel_rfl) (fun _ _ _ h => h) (Or.inl ⟨by rfl, ?_⟩) hS ?_
        rotate_left
        · intro wv _; go_simp; try with_reducible rfl
        try simp only [Act.put, List.setIfInBounds_toArray, List.set_cons_zero, List.set_cons_succ]
        refine wpAnyH_take (i := 1) (oi := ⟨some 23, .move (.tmp 7), 3, "heap.go:62", #[], none⟩) (v := ?_) rfl (by kernel_rfl) (by kernel_rfl) (by kernel_rfl) (fun _ _ _ h => h) (Or.inl ⟨by rfl, ?_⟩) hS ?_
        rotate_left
        · intro wv _; go_simp; try with_reducible rfl
        try simp only [Act.put, List.setIfInBounds_toArray, List.set_cons_zero, List.set_cons_succ]
        refine wpAnyH_take (i := 2) (oi := ⟨some 24, .indexAddr 44 (.tmp 22) (.tmp 23), 0, "heap.go:62", #[⟨0, .data⟩, ⟨1, .data⟩], none⟩) (v := ?_) rfl (by kernel_rfl) (by kernel_rfl) (by kernel_rfl) (fun _ _ _ h => h) (Or.inl ⟨by rfl, ?_⟩) hS ?_
        rotate_left
        · intro wv _; go_simp; try with_reducible rfl
        try simp only [Act.put, List.setIfInBounds_toArray, List.set_cons_zero, List.set_cons_succ]
        refine wpAnyH_take (i := 3) (oi := ⟨some 25, .load 24 (.tmp 24), 24, "heap.go:62", #[⟨2, .data⟩], none⟩) (v := .agg (([.int .i64 uw, .int .i64 uk] : List Value)).toArray) rfl (by kernel_rfl) (by kernel_rfl) (by kernel_rfl) (fun _ _ _ h => h) (yieldsIf_load_mid (by rfl) _ _ (by rfl) (bb) (off + k2 * 2) (by rfl) (([.int .i64 uw, .int .i64 uk] : List Value)) _ (fun wv hS => tm_range ((hS.out.cell (p := ⟨bb, off + k2 * 2, none⟩) HB0.out).trans U0.out) ((hS.out.cell (p := ⟨bb, off + k2 * 2 + 1, none⟩) HB0.out).trans U1.out)) Try.underlying24 (by rfl) (by kernel_rfl)) hS ?_
        try simp only [Act.put, List.setIfInBounds_toArray, List.set_cons_zero, List.set_cons_succ]
        refine wpAnyH_take (i := 4) (oi := ⟨some 26, .move (.tmp 0), 44, "heap.go:62", #[], none⟩) (v := ?_) rfl (by kernel_rfl) (by kernel_rfl) (by kernel_rfl) (fun _ _ _ h => h) (Or.inl ⟨by rfl, ?_⟩) hS ?_
        rotate_left
        · intro wv _; go_simp; try with_reducible rfl
        try simp only [Act.put, List.setIfInBounds_toArray, List.set_cons_zero, List.set_cons_succ]
        refine wpAnyH_take (i := 5) (oi := ⟨some 27, .move (.tmp 5), 3, "heap.go:62", #[], none⟩) (v := ?_) rfl (by kernel_rfl) (by kernel_rfl) (by kernel_rfl) (fun _ _ _ h => h) (Or.inl ⟨by rfl, ?_⟩) hS ?_
        rotate_left
        · intro wv _; go_simp; try with_reducible rfl
        try simp only [Act.put, List.setIfInBounds_toArray, List.set_cons_zero, List.set_cons_succ]
        refine wpAnyH_take (i := 6) (oi := ⟨some 28, .indexAddr 44 (.tmp 26) (.tmp 27), 0, "heap.go:62", #[⟨4, .data⟩, ⟨5, .data⟩], none⟩) (v := ?_) rfl (by kernel_rfl) (by kernel_rfl) (by kernel_rfl) (fun _ _ _ h => h) (Or.inl ⟨by rfl, ?_⟩) hS ?_
        rotate_left
        · intro wv _; go_simp; try with_reducible rfl
        try simp only [Act.put, List.setIfInBounds_toArray, List.set_cons_zero, List.set_cons_succ]
        refine wpAnyH_take (i := 7) (oi := ⟨some 29, .load 24 (.tmp 28), 24, "heap.go:62", #[⟨6, .data⟩], none⟩) (v := .agg (([.int .i64 vw, .int .i64 vk] : List Value)).toArray) rfl (by kernel_rfl) (by kernel_rfl) (by kernel_rfl) (fun _ _ _ h => h) (yieldsIf_load_mid (by rfl) _ _ (by rfl) (bb) (off + b * 2) (by rfl) (([.int .i64 vw, .int .i64 vk] : List Value)) _ (fun wv hS => tm_range ((hS.out.cell (p := ⟨bb, off + b * 2, none⟩) HB0.out).trans V0.out) ((hS.out.cell (p := ⟨bb, off + b * 2 + 1, none⟩) HB0.out).trans V1.out)) Try.underlying24 (by rfl) (by kernel_rfl)) hS ?_
        try simp only [Act.put, List.setIfInBounds_toArray, List.set_cons_zero, List.set_cons_succ]
        refine wpAnyH_ready (rs := [8]) (by kernel_rfl) (by simp) (AllReadyH.cons (o := ⟨some 30, .call { callee := .value (.func 42), args := #[.tmp 25, .tmp 29], argTypes := #[24, 24] }, 4, "heap.go:62", #[⟨3, .data⟩, ⟨7, .data⟩], none⟩) rfl (fun K hK => ?_) AllReadyH.nil)
        go_simp
        refine (BF.out _).mono ?_; rintro e wa ⟨rfl, hbb⟩
        replace hS := Lib.hid (hS.out.trans (hbb.mono hS.out.size))
        clear hbb
        go_wp2_with fail
        refine Shut.out hK _ _ hS (fun _ => ?_)
        clear hK K
        try simp only [Act.put, List.setIfInBounds_toArray, List.set_cons_zero, List.set_cons_succ]
        refine wpAnyH_done (by kernel_rfl) ?_ _
        refine NoPanic.normal ?_
        replace HB := Lib.hid (HB.out.trans (hS.out.mono HB.out.size))
        clear hS
        go_wp2
        go_roundw
        case rel => exact ⟨b, k2 + 1, rfl, by go_num, by have := HN2.out; omega, by omega, by have := HLT.out; omega, HM2, HB⟩
        case measure => have := HLT.out; simp [intOf]; omega
    · have c1 : decide ((k2 : Int) < (lim : Int)) = false := by simp; omega
      have c1n : decide (k2 < lim) = false := by simp; omega
      have HE := Lib.hid (show b = R from by
        obtain ⟨m, m1, m2, m3⟩ := HM.out
        have h2 := HLIM.out; have h3 := HK4.out; have h4 := HJ.out; have h5 := HL.out
        rw [← HR.out, ← m3]
        rcases Nat.lt_or_ge m 4 with h6 | h6
        · have h7 := frC_end (h := h) (i := i) (m := m) (by omega) (4 - m)
          rw [show m + (4 - m) = 4 by omega] at h7
          exact h7.symm
        · have : m = 4 := by omega
          rw [this])
      clear h1 HM
      go_wp2
      go_ret
      rw [HE.out]
      exact ⟨rfl, HB.out⟩
set_option maxRecDepth 100000 in
set_option maxHeartbeats 4000000 in
theorem down12_any (base g n d f i : Nat) (h : List Tm) (w : World) (ho : w.ownsRow base 24 2 (.slice (some ⟨g, 0, none⟩) n d) n (tmC h)) (hn : n ≤ 16384) (hi : i < n) (hf : n ≤ f + i) :
    Calls Try.prog 40 #[.slice (some ⟨g, 0, none⟩) n d, .int .i64 (i : Int)] w (TWp w base g n d (downT f h i)) := by
  have HT := Lib.hid (TW.mk0 ho)
  have FI := Lib.hid (fun (k : Nat) (h : List Tm) (W : World) (hw : Tms W (some ⟨g, 0, none⟩) n d h) (hk : k < n) => first12_any (some ⟨g, 0, none⟩) n d k h W hw hn hk)
  obtain ⟨R, hR⟩ : ∃ R, downT f h i = R := ⟨_, rfl⟩
  rw [hR]
  have HR := Lib.hid hR
  have HF0 := Lib.hid hf
  clear hR hf ho
  go_enter Try.func40, Try.ntmps40
  go_wp2
  go_loopw [1] (fun iv wr => ∃ (k : Nat), iv = .int .i64 (k : Int) ∧ k < n ∧ Hid (∃ (f2 : Nat) (h2 : List Tm), n ≤ f2 + k ∧ downT f2 h2 k = R ∧ TW base w wr g n d h2)) (fun iv _ => n - (intOf iv).toNat)
  case atStart => exact ⟨i, rfl, hi, f, h, HF0.out, HR.out, HT.out⟩
  case round =>
    clear HT HR HF0 hi
    obtain ⟨k, rfl, hk, HX⟩ := hrel
    obtain ⟨f2, h2, hf2, hR, hT⟩ := HX.out
    clear HX
    obtain ⟨f3, rfl⟩ : ∃ f3, f2 = f3 + 1 := ⟨f2 - 1, by omega⟩
    have hkl : k < h2.length := by rw [hT.len]; exact hk
    rw [down_fr hkl] at hR
    obtain ⟨p, hp⟩ : ∃ p, frC h2 k 4 = p := ⟨_, rfl⟩
    have hpn : p < n := by have := frC_lt hkl 4; rw [hp, hT.len] at this; exact this
    have hpk : p ≠ k → k < p := by
      intro hne
      rw [← hp]
      rcases Nat.lt_or_ge (4 * k + 1) h2.length with h5 | h5
      · have h6 := frC_best h5 3
        rw [show 3 + 1 = 4 from rfl] at h6
        split at h6
        · rw [h6]; have := bestC_ge h2 (4 * k + 1) 3; omega
        · rw [hp] at h6; exact absurd h6 hne
      · have h6 := frC_end (h := h2) (i := k) (m := 0) (by omega) 4
        rw [Nat.zero_add, hp] at h6
        exact absurd h6 hne
    have FQ := FI.out k h2 wr hT.tms hk
    rw [hp] at hR FQ
    replace FQ := Lib.hid FQ
    have HT := Lib.hid hT
    have HK := Lib.hid hk
    clear hT hp hkl
    by_cases h0 : p = k
    · rw [if_pos h0] at hR
      subst hR
      have c0 : ((p : Int) == (k : Int)) = true := by simp; omega
      clear h0 hpk
      go_wp2_with fail
      refine FQ.out.mono ?_
      rintro e w2 ⟨rfl, hb⟩
      replace HT := Lib.hid (HT.out.step hb)
      clear hb FQ
      go_wp2
      refine bodyPost_end (results_none rfl _ _ _) rfl ?_
      exact ⟨rfl, HT.out⟩
    · rw [if_neg h0] at hR
      have HR := Lib.hid hR
      have c0 : ((p : Int) == (k : Int)) = false := by simp; omega
      have HKP := Lib.hid (hpk h0)
      have k0 : (0 : Int) ≤ (k : Int) := by omega
      have k1 : (k : Int) < (n : Int) := by omega
      have p0 : (0 : Int) ≤ (p : Int) := by omega
      have p1 : (p : Int) < (n : Int) := by omega
      have HP := Lib.hid hpn
      obtain ⟨⟨tw, tk⟩, ht⟩ : ∃ x, tmAt h2 k = x := ⟨_, rfl⟩
      obtain ⟨⟨pw, pk⟩, hpt⟩ : ∃ x, tmAt h2 p = x := ⟨_, rfl⟩
      have AT := Lib.hid ht; have PT := Lib.hid hpt
      clear ht hpt hR hpk
      go_wp2_with fail
      refine FQ.out.mono ?_
      rintro e w2 ⟨rfl, hb⟩
      replace HT := Lib.hid (HT.out.step hb)
      clear hb FQ
      obtain ⟨a0, a1⟩ := HT.out.at k HK.out
      obtain ⟨b0, b1⟩ := HT.out.at p HP.out
      rw [AT.out] at a0 a1; rw [PT.out] at b0 b1
      simp only at a0 a1 b0 b1
      have ff0 := HT.out.own.frozenAt (k * 2)
      have ff1 := HT.out.own.frozenAt (k * 2 + 1)
      have ff2 := HT.out.own.frozenAt (p * 2)
      have ff3 := HT.out.own.frozenAt (p * 2 + 1)
      go_wp2
      go_region
      go_wp2
      have hkp := HKP.out
      go_roundw
      case rel => exact ⟨p, rfl, HP.out, f3, swapT h2 k p, by omega, HR.out, by unfold swapT; rw [AT.out, PT.out]; exact (HT.out.drew.set k HK.out pw pk).set p HP.out tw tk⟩
      case measure => simp [intOf]; omega
end Go.Proofs.Ytehpfpphpffniaa
