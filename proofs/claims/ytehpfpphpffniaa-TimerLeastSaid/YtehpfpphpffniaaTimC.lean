/- Rows of timers of a call's own that are stored into; what the document's own Up of layer 12 answers; for lists of up to 16384. -/
import Derived.Test.YtehpfpphpffniaaTimB
import Derived.Deep.Cut
import Derived.Deep.CutRange
namespace Go.Proofs.Ytehpfpphpffniaa
set_option linter.unusedVariables false
set_option linter.unusedSimpArgs false
open Go.RowKit
/-- timers of a call's own. -/
structure TB (w0 w : World) (g n d : Nat) (h : List Tm) : Prop where
  own : w.ownsRow w0.heap.size 24 2 (.slice (some ⟨g, 0, none⟩) n d) n (tmC h)
  bel : Below w0.heap.size w0 w
section
variable {w0 w w' : World} {g n d : Nat} {h : List Tm}
theorem TB.len (H : TB w0 w g n d h) : h.length = n := (tms_own H.own).len
theorem TB.at (H : TB w0 w g n d h) (i : Nat) (hi : i < n) : w.cell? ⟨g, i * 2, none⟩ = some (.int .i64 (tmAt h i).1) ∧ w.cell? ⟨g, i * 2 + 1, none⟩ = some (.int .i64 (tmAt h i).2) := by
  obtain ⟨e0, e1⟩ := tmC_at h i (by rw [H.len]; exact hi)
  exact ⟨(H.own.cellAt (i * 2) (by omega)).trans e0, (H.own.cellAt (i * 2 + 1) (by omega)).trans e1⟩
theorem tm_range {w : World} {b o : Nat} {v0 v1 : Value} (h0 : w.cell? ⟨b, o, none⟩ = some v0) (h1 : w.cell? ⟨b, o + 1, none⟩ = some v1) : w.rangeAt b o [v0, v1] := by
  intro j v hv
  rcases (by have := (List.getElem?_eq_some_iff.1 hv).1; simp at this; omega : j = 0 ∨ j = 1) with rfl | rfl
  · simp at hv; subst hv; exact h0
  · simp at hv; subst hv; exact h1
theorem TB.rng (H : TB w0 w g n d h) (i : Nat) (hi : i < n) {x y : Int} (e : tmAt h i = (x, y)) : w.rangeAt g (i * 2) [.int .i64 x, .int .i64 y] := by
  obtain ⟨h0, h1⟩ := H.at i hi
  rw [e] at h0 h1
  exact tm_range h0 h1
theorem TB.there (H : TB w0 w g n d h) (i : Nat) (hi : i < n) : w.there g (i * 2) 2 := by
  intro j hj
  refine ⟨?_, H.own.frozenAt _⟩
  obtain ⟨h0, h1⟩ := H.at i hi
  rcases (by omega : j = 0 ∨ j = 1) with rfl | rfl
  · rw [Nat.add_zero, h0]; rfl
  · rw [h1]; rfl
theorem TB.step (H : TB w0 w g n d h) (hb : Below w.heap.size w w') : TB w0 w' g n d h := ⟨own_below H.own hb, H.bel.trans (hb.mono H.bel.size)⟩
theorem TB.drew (H : TB w0 w g n d h) : TB w0 w.drew g n d h := ⟨own_below H.own (Below.refl _ w).drew, H.bel.drew⟩
theorem TB.ge (H : TB w0 w g n d h) : w0.heap.size ≤ g := by
  rcases H.own.2 with ⟨h1, _⟩ | ⟨g', cap, cur, h1, h2, _⟩
  · cases h1
  · injection h1 with h1; injection h1 with h1; injection h1 with h1; rw [h1]; exact h2
theorem TB.set (H : TB w0 w g n d h) (i : Nat) (hi : i < n) (x y : Int) : TB w0 (w.setCells g (i * 2) [.int .i64 x, .int .i64 y]) g n d (h.set i (x, y)) := by
  refine ⟨?_, ?_⟩
  · have := ((H.own.stored (i * 2) (.int .i64 x)).1.stored (i * 2 + 1) (.int .i64 y)).1
    rw [tmC_set h i (x, y) (by rw [H.len]; exact hi)] at this
    exact this
  · exact (H.bel.setCell (p := ⟨g, i * 2, none⟩) H.ge _).setCell (p := ⟨g, i * 2 + 1, none⟩) H.ge _
theorem TB.out (H : TB w0 w g n d h) : OwnT w0 h (.returned (.slice (some ⟨g, 0, none⟩) n d)) w := ⟨_, _, _, rfl, H.own, H.bel⟩
end
theorem two12 (x y : Int) : (#[.int .i64 x, .int .i64 y] : Array Value).all (·.oneCell') = true := by simp [Value.oneCell']
theorem op_store12 {P : Program} {w w2 : World} {o : Oper} {a : Act} {K : Act → World → Prop} {Q : Exit → Act → World → Prop} {c : Prop} [Decidable c] (hc : c) {ty : TypeId} {x y : Operand} (ho : o.op = .store ty x y)
    {b k : Nat} {cells : Array Value} (hx : a.eval x = .pointer (some ⟨b, k, none⟩)) (hy : a.eval y = .agg cells) (ht : w.there b k cells.size) (hi : (P.info? ty).map (·.size) = some cells.size) (h1 : cells.all (·.oneCell') = true)
    (he : w.setCells b k cells.toList = w2) (h : K (a.put o.dst undef) w2) : if c then Oper.wp P o a w K Q else K (a.put o.dst undef) w := by
  rw [if_pos hc]
  exact wp_store_mid ty x y ho b k cells hx hy ht hi h1 (by rw [he]; exact h)
theorem own_some12 {w : World} {base n d : Nat} {B : Option Addr} {h : List Tm} (hx : w.ownsRow base 24 2 (.slice B n d) n (tmC h)) (hn : 0 < n) : ∃ g, B = some ⟨g, 0, none⟩ := by
  rcases hx.2 with ⟨h1, h2⟩ | ⟨g', cap, cur, h1, h2, _⟩
  · omega
  · injection h1 with h1; exact ⟨g', h1⟩
theorem own_n12 {w : World} {base n m d : Nat} {B : Option Addr} {h : List Tm} (hx : w.ownsRow base 24 2 (.slice B n d) m (tmC h)) : n = m ∧ m = h.length := by
  have h0 := hx.1
  rw [tmC_len] at h0
  rcases hx.2 with ⟨h1, h2⟩ | ⟨g', cap, cur, h1, h2, _⟩
  · injection h1 with h1 h3; omega
  · injection h1 with h1 h3; omega
set_option maxRecDepth 100000 in
set_option maxHeartbeats 4000000 in
theorem refUp_any (A : Option Addr) (n c f i : Nat) (h : List Tm) (w : World) (hx : Tms w A n c h) (hn : n ≤ 16384) (hi : i < n) (hf : i < f) :
    Calls Try.prog 30 #[.slice A n c, .int .i64 (i : Int)] w (OwnT w (upT f h i)) := by
  have hlen : h.length = n := hx.len
  have hcp := refCopy12_any A n c h w hx hn
  have HF := Lib.hid (fun (a1 a2 b1 b2 : Int) (W : World) => refBefore_any a1 a2 b1 b2 W)
  obtain ⟨R, hR⟩ : ∃ R, upT f h i = R := ⟨_, rfl⟩
  rw [hR]
  have HR := Lib.hid hR
  have HF0 := Lib.hid hf
  have HL := Lib.hid hlen
  clear hR hx hf hlen
  go_enter Try.func30, Try.ntmps30
  go_wp2_with fail
  refine hcp.mono ?_
  rintro e w1 ⟨B, n1, d, rfl, hown, hb⟩
  obtain ⟨hn1, hn2⟩ := own_n12 hown
  rw [HL.out] at hn2; subst hn2
  obtain ⟨g, rfl⟩ := own_some12 hown (by omega)
  have HT := Lib.hid (TB.mk hown hb)
  clear hown hb hcp hn1
  go_wp2
  go_loopw [1, 6] (fun iv pv wr => ∃ (k : Nat), iv = .int .i64 (k : Int) ∧ k < n1 ∧ Hid (∃ (f2 : Nat) (h2 : List Tm), k < f2 ∧ upT f2 h2 k = R ∧ TB w wr g n1 d h2)) (fun iv _ _ => (intOf iv).toNat)
  case atStart => exact ⟨i, rfl, hi, f, h, HF0.out, HR.out, HT.out⟩
  case round =>
    clear HT HR HF0 hi
    obtain ⟨k, rfl, hk, HX⟩ := hrel
    obtain ⟨f2, h2, hf2, hR, hT⟩ := HX.out
    clear HX
    obtain ⟨f3, rfl⟩ : ∃ f3, f2 = f3 + 1 := ⟨f2 - 1, by omega⟩
    unfold upT at hR
    have HT := Lib.hid hT
    clear hT
    by_cases h0 : 0 < k
    · have c0 : decide ((0 : Int) < (k : Int)) = true := by simpa using h0
      have c0n : decide (0 < k) = true := by simpa using h0
      obtain ⟨p, hp⟩ : ∃ p, (k - 1) / 4 = p := ⟨_, rfl⟩
      rw [hp] at hR
      have hpk : p < k := by omega
      have hs1 : IntKind.i64.wrap ((k : Int) - 1) = (k : Int) - 1 := by rw [IntKind.wrap_i64]; omega
      have hq1 : ((k : Int) - 1).tdiv 4 = (p : Int) := by rw [Int.tdiv_eq_ediv_of_nonneg (by omega)]; omega
      have hq2 : IntKind.i64.wrap (p : Int) = (p : Int) := by rw [IntKind.wrap_i64]; omega
      have k0 : (0 : Int) ≤ (k : Int) := by omega
      have k1 : (k : Int) < (n1 : Int) := by omega
      have p0 : (0 : Int) ≤ (p : Int) := by omega
      have p1 : (p : Int) < (n1 : Int) := by omega
      have HP := Lib.hid (show p < n1 by omega)
      have HK := Lib.hid hk
      obtain ⟨⟨tw, tk⟩, ht⟩ : ∃ x, tmAt h2 k = x := ⟨_, rfl⟩
      obtain ⟨⟨pw, pk⟩, hpt⟩ : ∃ x, tmAt h2 p = x := ⟨_, rfl⟩
      rw [ht, hpt] at hR
      have AT := Lib.hid ht; have PT := Lib.hid hpt
      have BF := Lib.hid (fun W => HF.out tw tk pw pk W)
      clear ht hpt
      by_cases hb : befT (tw, tk) (pw, pk)
      · rw [if_pos ⟨h0, hb⟩] at hR
        have HR := Lib.hid hR
        rw [decide_eq_true hb] at BF
        replace BF := Lib.hid BF.out
        clear hR hb hp
        go_upto_region 2 with fail
        refine wp_region_noPanic ?_
        refine wp_region_held_drew (S := (fun wv => Hid (TB w wv g n1 d h2))) (by kernel_rfl) (Lib.hid HT.out.drew) (fun hS => ?_)
        refine wpAnyH_take (i := 0) (oi := ⟨some 9, .move (.tmp 1), 3, "ref.go:45", #[], none⟩) (v := ?_) rfl (by kernel_rfl) (by kernel_rfl) (by kernel_rfl) (fun _ _ _ h => h) (Or.inl ⟨by rfl, ?_⟩) hS ?_
        rotate_left
        · intro wv _; go_simp; try with_reducible rfl
        try simp only [Act.put, List.setIfInBounds_toArray, List.set_cons_zero, List.set_cons_succ]
        refine wpAnyH_take (i := 1) (oi := ⟨some 10, .binOp .gtr 3 (.tmp 9) (.const (Value.int IntKind.i64 0)) 3, 4, "ref.go:45", #[⟨0, .data⟩], none⟩) (v := ?_) rfl (by kernel_rfl) (by kernel_rfl) (by kernel_rfl) (fun _ _ _ h => h) (Or.inl ⟨by rfl, ?_⟩) hS ?_
        rotate_left
        · intro wv _; go_simp; try with_reducible rfl
        try simp only [Act.put, List.setIfInBounds_toArray, List.set_cons_zero, List.set_cons_succ]
        refine wpAnyH_take (i := 2) (oi := ⟨some 11, .move (.tmp 10), 4, "ref.go:45", #[⟨1, .data⟩], none⟩) (v := ?_) rfl (by kernel_rfl) (by kernel_rfl) (by kernel_rfl) (fun _ _ _ h => h) (Or.inl ⟨by rfl, ?_⟩) hS ?_
        rotate_left
        · intro wv _; go_simp; try with_reducible rfl
        try simp only [Act.put, List.setIfInBounds_toArray, List.set_cons_zero, List.set_cons_succ]
        refine wpAnyH_take (i := 3) (oi := ⟨some 12, .move (.tmp 5), 22, "ref.go:45", #[⟨2, .guard⟩], some (2, true)⟩) (v := ?_) rfl (by kernel_rfl) (by kernel_rfl) (by kernel_rfl) (fun _ _ _ h => h) (Or.inl ⟨by rfl, ?_⟩) hS ?_
        rotate_left
        · intro wv _; go_simp; try with_reducible rfl
        try simp only [Act.put, List.setIfInBounds_toArray, List.set_cons_zero, List.set_cons_succ]
        refine wpAnyH_take (i := 4) (oi := ⟨some 13, .move (.tmp 1), 3, "ref.go:45", #[⟨2, .guard⟩], some (2, true)⟩) (v := ?_) rfl (by kernel_rfl) (by kernel_rfl) (by kernel_rfl) (fun _ _ _ h => h) (Or.inl ⟨by rfl, ?_⟩) hS ?_
        rotate_left
        · intro wv _; go_simp; try with_reducible rfl
        try simp only [Act.put, List.setIfInBounds_toArray, List.set_cons_zero, List.set_cons_succ]
        refine wpAnyH_take (i := 5) (oi := ⟨some 14, .indexAddr 22 (.tmp 12) (.tmp 13), 0, "ref.go:45", #[⟨3, .data⟩, ⟨4, .data⟩, ⟨2, .guard⟩], some (2, true)⟩) (v := ?_) rfl (by kernel_rfl) (by kernel_rfl) (by kernel_rfl) (fun _ _ _ h => h) (Or.inl ⟨by rfl, ?_⟩) hS ?_
        rotate_left
        · intro wv _; go_simp; try with_reducible rfl
        try simp only [Act.put, List.setIfInBounds_toArray, List.set_cons_zero, List.set_cons_succ]
        refine wpAnyH_take (i := 6) (oi := ⟨some 15, .load 24 (.tmp 14), 24, "ref.go:45", #[⟨5, .data⟩, ⟨2, .guard⟩], some (2, true)⟩) (v := .agg (([.int .i64 tw, .int .i64 tk] : List Value)).toArray) rfl (by kernel_rfl) (by kernel_rfl) (by kernel_rfl) (fun _ _ _ h => h) (yieldsIf_load_mid (by rfl) _ _ (by rfl) (g) (k * 2) (by rfl) (([.int .i64 tw, .int .i64 tk] : List Value)) _ (fun wv hS => hS.out.rng k HK.out AT.out) Try.underlying24 (by rfl) (by kernel_rfl)) hS ?_
        try simp only [Act.put, List.setIfInBounds_toArray, List.set_cons_zero, List.set_cons_succ]
        refine wpAnyH_take (i := 7) (oi := ⟨some 16, .move (.tmp 5), 22, "ref.go:45", #[⟨2, .guard⟩], some (2, true)⟩) (v := ?_) rfl (by kernel_rfl) (by kernel_rfl) (by kernel_rfl) (fun _ _ _ h => h) (Or.inl ⟨by rfl, ?_⟩) hS ?_
        rotate_left
        · intro wv _; go_simp; try with_reducible rfl
        try simp only [Act.put, List.setIfInBounds_toArray, List.set_cons_zero, List.set_cons_succ]
        refine wpAnyH_take (i := 8) (oi := ⟨some 17, .move (.tmp 1), 3, "ref.go:45", #[⟨2, .guard⟩], some (2, true)⟩) (v := ?_) rfl (by kernel_rfl) (by kernel_rfl) (by kernel_rfl) (fun _ _ _ h => h) (Or.inl ⟨by rfl, ?_⟩) hS ?_
        rotate_left
        · intro wv _; go_simp; try with_reducible rfl
        try simp only [Act.put, List.setIfInBounds_toArray, List.set_cons_zero, List.set_cons_succ]
        refine wpAnyH_take (i := 9) (oi := ⟨some 18, .binOp .sub 3 (.tmp 17) (.const (Value.int IntKind.i64 1)) 3, 3, "ref.go:45", #[⟨8, .data⟩, ⟨2, .guard⟩], some (2, true)⟩) (v := ?_) rfl (by kernel_rfl) (by kernel_rfl) (by kernel_rfl) (fun _ _ _ h => h) (Or.inl ⟨by rfl, ?_⟩) hS ?_
        rotate_left
        · intro wv _; go_simp; try with_reducible rfl
        try simp only [Act.put, List.setIfInBounds_toArray, List.set_cons_zero, List.set_cons_succ]
        refine wpAnyH_take (i := 10) (oi := ⟨some 19, .binOp .quo 3 (.tmp 18) (.const (Value.int IntKind.i64 4)) 3, 3, "ref.go:45", #[⟨9, .data⟩, ⟨2, .guard⟩], some (2, true)⟩) (v := ?_) rfl (by kernel_rfl) (by kernel_rfl) (by kernel_rfl) (fun _ _ _ h => h) (Or.inl ⟨by rfl, ?_⟩) hS ?_
        rotate_left
        · intro wv _; go_simp; try with_reducible rfl
        try simp only [Act.put, List.setIfInBounds_toArray, List.set_cons_zero, List.set_cons_succ]
        refine wpAnyH_take (i := 11) (oi := ⟨some 20, .indexAddr 22 (.tmp 16) (.tmp 19), 0, "ref.go:45", #[⟨7, .data⟩, ⟨10, .data⟩, ⟨2, .guard⟩], some (2, true)⟩) (v := ?_) rfl (by kernel_rfl) (by kernel_rfl) (by kernel_rfl) (fun _ _ _ h => h) (Or.inl ⟨by rfl, ?_⟩) hS ?_
        rotate_left
        · intro wv _; go_simp; try with_reducible rfl
        try simp only [Act.put, List.setIfInBounds_toArray, List.set_cons_zero, List.set_cons_succ]
        refine wpAnyH_take (i := 12) (oi := ⟨some 21, .load 24 (.tmp 20), 24, "ref.go:45", #[⟨11, .data⟩, ⟨2, .guard⟩], some (2, true)⟩) (v := .agg (([.int .i64 pw, .int .i64 pk] : List Value)).toArray) rfl (by kernel_rfl) (by kernel_rfl) (by kernel_rfl) (fun _ _ _ h => h) (yieldsIf_load_mid (by rfl) _ _ (by rfl) (g) (p * 2) (by rfl) (([.int .i64 pw, .int .i64 pk] : List Value)) _ (fun wv hS => hS.out.rng p HP.out PT.out) Try.underlying24 (by rfl) (by kernel_rfl)) hS ?_
        try simp only [Act.put, List.setIfInBounds_toArray, List.set_cons_zero, List.set_cons_succ]
        refine wpAnyH_ready (rs := [13]) (by kernel_rfl) (by simp) (AllReadyH.cons (o := ⟨some 22, .call { callee := .value (.func 23), args := #[.tmp 15, .tmp 21], argTypes := #[24, 24] }, 4, "ref.go:45", #[⟨6, .data⟩, ⟨12, .data⟩, ⟨2, .chain⟩, ⟨2, .guard⟩], some (2, true)⟩) rfl (fun K hK => ?_) AllReadyH.nil)
        go_simp
        refine (BF.out _).mono ?_; rintro e wa ⟨rfl, hbb⟩
        replace hS := Lib.hid (hS.out.step hbb)
        clear hbb
        go_wp2_with fail
        refine Shut.out hK _ _ hS (fun _ => ?_)
        clear hK K
        try simp only [Act.put, List.setIfInBounds_toArray, List.set_cons_zero, List.set_cons_succ]
        refine wpAnyH_take (i := 14) (oi := ⟨some 23, .pick (.tmp 11) (.tmp 22) (.const (Value.bool false)), 4, "ref.go:45", #[⟨2, .data⟩, ⟨13, .data⟩], none⟩) (v := ?_) rfl (by kernel_rfl) (by kernel_rfl) (by kernel_rfl) (fun _ _ _ h => h) (Or.inl ⟨by rfl, ?_⟩) hS ?_
        rotate_left
        · intro wv _; go_simp; try with_reducible rfl
        try simp only [Act.put, List.setIfInBounds_toArray, List.set_cons_zero, List.set_cons_succ]
        refine wpAnyH_done (by kernel_rfl) ?_ _
        refine NoPanic.normal ?_
        clear HT
        have HT := Lib.hid hS.out
        clear hS
        go_upto_region 4 with fail
        obtain ⟨a0, a1⟩ := HT.out.at k HK.out
        obtain ⟨b0, b1⟩ := HT.out.at p HP.out
        rw [AT.out] at a0 a1; rw [PT.out] at b0 b1
        simp only at a0 a1 b0 b1
        have ff0 := HT.out.own.frozenAt (k * 2)
        have ff1 := HT.out.own.frozenAt (k * 2 + 1)
        have ff2 := HT.out.own.frozenAt (p * 2)
        have ff3 := HT.out.own.frozenAt (p * 2 + 1)
        have hnz := Lib.hid hpk
        go_region
        go_wp2
        go_roundw
        case rel => exact ⟨p, rfl, HP.out, f3, swapT h2 k p, by omega, HR.out, by unfold swapT; rw [AT.out, PT.out]; exact (HT.out.drew.set k HK.out pw pk).set p HP.out tw tk⟩
        case measure => simp [intOf]; omega
      · rw [if_neg (fun h9 => hb h9.2)] at hR
        subst hR
        rw [decide_eq_false hb] at BF
        replace BF := Lib.hid BF.out
        clear hb hp
        go_upto_region 2 with fail
        refine wp_region_noPanic ?_
        refine wp_region_held_drew (S := (fun wv => Hid (TB w wv g n1 d h2))) (by kernel_rfl) (Lib.hid HT.out.drew) (fun hS => ?_)
        refine wpAnyH_take (i := 0) (oi := ⟨some 9, .move (.tmp 1), 3, "ref.go:45", #[], none⟩) (v := ?_) rfl (by kernel_rfl) (by kernel_rfl) (by kernel_rfl) (fun _ _ _ h => h) (Or.inl ⟨by rfl, ?_⟩) hS ?_
        rotate_left
        · intro wv _; go_simp; try with_reducible rfl
        try simp only [Act.put, List.setIfInBounds_toArray, List.set_cons_zero, List.set_cons_succ]
        refine wpAnyH_take (i := 1) (oi := ⟨some 10, .binOp .gtr 3 (.tmp 9) (.const (Value.int IntKind.i64 0)) 3, 4, "ref.go:45", #[⟨0, .data⟩], none⟩) (v := ?_) rfl (by kernel_rfl) (by kernel_rfl) (by kernel_rfl) (fun _ _ _ h => h) (Or.inl ⟨by rfl, ?_⟩) hS ?_
        rotate_left
        · intro wv _; go_simp; try with_reducible rfl
        try simp only [Act.put, List.setIfInBounds_toArray, List.set_cons_zero, List.set_cons_succ]
        refine wpAnyH_take (i := 2) (oi := ⟨some 11, .move (.tmp 10), 4, "ref.go:45", #[⟨1, .data⟩], none⟩) (v := ?_) rfl (by kernel_rfl) (by kernel_rfl) (by kernel_rfl) (fun _ _ _ h => h) (Or.inl ⟨by rfl, ?_⟩) hS ?_
        rotate_left
        · intro wv _; go_simp; try with_reducible rfl
        try simp only [Act.put, List.setIfInBounds_toArray, List.set_cons_zero, List.set_cons_succ]
        refine wpAnyH_take (i := 3) (oi := ⟨some 12, .move (.tmp 5), 22, "ref.go:45", #[⟨2, .guard⟩], some (2, true)⟩) (v := ?_) rfl (by kernel_rfl) (by kernel_rfl) (by kernel_rfl) (fun _ _ _ h => h) (Or.inl ⟨by rfl, ?_⟩) hS ?_
        rotate_left
        · intro wv _; go_simp; try with_reducible rfl
        try simp only [Act.put, List.setIfInBounds_toArray, List.set_cons_zero, List.set_cons_succ]
        refine wpAnyH_take (i := 4) (oi := ⟨some 13, .move (.tmp 1), 3, "ref.go:45", #[⟨2, .guard⟩], some (2, true)⟩) (v := ?_) rfl (by kernel_rfl) (by kernel_rfl) (by kernel_rfl) (fun _ _ _ h => h) (Or.inl ⟨by rfl, ?_⟩) hS ?_
        rotate_left
        · intro wv _; go_simp; try with_reducible rfl
        try simp only [Act.put, List.setIfInBounds_toArray, List.set_cons_zero, List.set_cons_succ]
        refine wpAnyH_take (i := 5) (oi := ⟨some 14, .indexAddr 22 (.tmp 12) (.tmp 13), 0, "ref.go:45", #[⟨3, .data⟩, ⟨4, .data⟩, ⟨2, .guard⟩], some (2, true)⟩) (v := ?_) rfl (by kernel_rfl) (by kernel_rfl) (by kernel_rfl) (fun _ _ _ h => h) (Or.inl ⟨by rfl, ?_⟩) hS ?_
        rotate_left
        · intro wv _; go_simp; try with_reducible rfl
        try simp only [Act.put, List.setIfInBounds_toArray, List.set_cons_zero, List.set_cons_succ]
        refine wpAnyH_take (i := 6) (oi := ⟨some 15, .load 24 (.tmp 14), 24, "ref.go:45", #[⟨5, .data⟩, ⟨2, .guard⟩], some (2, true)⟩) (v := .agg (([.int .i64 tw, .int .i64 tk] : List Value)).toArray) rfl (by kernel_rfl) (by kernel_rfl) (by kernel_rfl) (fun _ _ _ h => h) (yieldsIf_load_mid (by rfl) _ _ (by rfl) (g) (k * 2) (by rfl) (([.int .i64 tw, .int .i64 tk] : List Value)) _ (fun wv hS => hS.out.rng k HK.out AT.out) Try.underlying24 (by rfl) (by kernel_rfl)) hS ?_
        try simp only [Act.put, List.setIfInBounds_toArray, List.set_cons_zero, List.set_cons_succ]
        refine wpAnyH_take (i := 7) (oi := ⟨some 16, .move (.tmp 5), 22, "ref.go:45", #[⟨2, .guard⟩], some (2, true)⟩) (v := ?_) rfl (by kernel_rfl) (by kernel_rfl) (by kernel_rfl) (fun _ _ _ h => h) (Or.inl ⟨by rfl, ?_⟩) hS ?_
        rotate_left
        · intro wv _; go_simp; try with_reducible rfl
        try simp only [Act.put, List.setIfInBounds_toArray, List.set_cons_zero, List.set_cons_succ]
        refine wpAnyH_take (i := 8) (oi := ⟨some 17, .move (.tmp 1), 3, "ref.go:45", #[⟨2, .guard⟩], some (2, true)⟩) (v := ?_) rfl (by kernel_rfl) (by kernel_rfl) (by kernel_rfl) (fun _ _ _ h => h) (Or.inl ⟨by rfl, ?_⟩) hS ?_
        rotate_left
        · intro wv _; go_simp; try with_reducible rfl
        try simp only [Act.put, List.setIfInBounds_toArray, List.set_cons_zero, List.set_cons_succ]
        refine wpAnyH_take (i := 9) (oi := ⟨some 18, .binOp .sub 3 (.tmp 17) (.const (Value.int IntKind.i64 1)) 3, 3, "ref.go:45", #[⟨8, .data⟩, ⟨2, .guard⟩], some (2, true)⟩) (v := ?_) rfl (by kernel_rfl) (by kernel_rfl) (by kernel_rfl) (fun _ _ _ h => h) (Or.inl ⟨by rfl, ?_⟩) hS ?_
        rotate_left
        · intro wv _; go_simp; try with_reducible rfl
        try simp only [Act.put, List.setIfInBounds_toArray, List.set_cons_zero, List.set_cons_succ]
        refine wpAnyH_take (i := 10) (oi := ⟨some 19, .binOp .quo 3 (.tmp 18) (.const (Value.int IntKind.i64 4)) 3, 3, "ref.go:45", #[⟨9, .data⟩, ⟨2, .guard⟩], some (2, true)⟩) (v := ?_) rfl (by kernel_rfl) (by kernel_rfl) (by kernel_rfl) (fun _ _ _ h => h) (Or.inl ⟨by rfl, ?_⟩) hS ?_
        rotate_left
        · intro wv _; go_simp; try with_reducible rfl
        try simp only [Act.put, List.setIfInBounds_toArray, List.set_cons_zero, List.set_cons_succ]
        refine wpAnyH_take (i := 11) (oi := ⟨some 20, .indexAddr 22 (.tmp 16) (.tmp 19), 0, "ref.go:45", #[⟨7, .data⟩, ⟨10, .data⟩, ⟨2, .guard⟩], some (2, true)⟩) (v := ?_) rfl (by kernel_rfl) (by kernel_rfl) (by kernel_rfl) (fun _ _ _ h => h) (Or.inl ⟨by rfl, ?_⟩) hS ?_
        rotate_left
        · intro wv _; go_simp; try with_reducible rfl
        try simp only [Act.put, List.setIfInBounds_toArray, List.set_cons_zero, List.set_cons_succ]
        refine wpAnyH_take (i := 12) (oi := ⟨some 21, .load 24 (.tmp 20), 24, "ref.go:45", #[⟨11, .data⟩, ⟨2, .guard⟩], some (2, true)⟩) (v := .agg (([.int .i64 pw, .int .i64 pk] : List Value)).toArray) rfl (by kernel_rfl) (by kernel_rfl) (by kernel_rfl) (fun _ _ _ h => h) (yieldsIf_load_mid (by rfl) _ _ (by rfl) (g) (p * 2) (by rfl) (([.int .i64 pw, .int .i64 pk] : List Value)) _ (fun wv hS => hS.out.rng p HP.out PT.out) Try.underlying24 (by rfl) (by kernel_rfl)) hS ?_
        try simp only [Act.put, List.setIfInBounds_toArray, List.set_cons_zero, List.set_cons_succ]
        refine wpAnyH_ready (rs := [13]) (by kernel_rfl) (by simp) (AllReadyH.cons (o := ⟨some 22, .call { callee := .value (.func 23), args := #[.tmp 15, .tmp 21], argTypes := #[24, 24] }, 4, "ref.go:45", #[⟨6, .data⟩, ⟨12, .data⟩, ⟨2, .chain⟩, ⟨2, .guard⟩], some (2, true)⟩) rfl (fun K hK => ?_) AllReadyH.nil)
        go_simp
        refine (BF.out _).mono ?_; rintro e wa ⟨rfl, hbb⟩
        replace hS := Lib.hid (hS.out.step hbb)
        clear hbb
        go_wp2_with fail
        refine Shut.out hK _ _ hS (fun _ => ?_)
        clear hK K
        try simp only [Act.put, List.setIfInBounds_toArray, List.set_cons_zero, List.set_cons_succ]
        refine wpAnyH_take (i := 14) (oi := ⟨some 23, .pick (.tmp 11) (.tmp 22) (.const (Value.bool false)), 4, "ref.go:45", #[⟨2, .data⟩, ⟨13, .data⟩], none⟩) (v := ?_) rfl (by kernel_rfl) (by kernel_rfl) (by kernel_rfl) (fun _ _ _ h => h) (Or.inl ⟨by rfl, ?_⟩) hS ?_
        rotate_left
        · intro wv _; go_simp; try with_reducible rfl
        try simp only [Act.put, List.setIfInBounds_toArray, List.set_cons_zero, List.set_cons_succ]
        refine wpAnyH_done (by kernel_rfl) ?_ _
        refine NoPanic.normal ?_
        clear HT
        have HT := Lib.hid hS.out
        clear hS
        go_wp2
        go_ret
        exact HT.out.out
    · have c0 : decide ((0 : Int) < (k : Int)) = false := by simpa using h0
      have c0n : decide (0 < k) = false := by simpa using h0
      rw [if_neg (fun h9 => h0 h9.1)] at hR
      subst hR
      go_upto_region 2 with fail
      refine wp_region_noPanic ?_
      refine wp_region_held_drew (S := (fun wv => Hid (TB w wv g n1 d h2))) (by kernel_rfl) (Lib.hid HT.out.drew) (fun hS => ?_)
      refine wpAnyH_take (i := 0) (oi := ⟨some 9, .move (.tmp 1), 3, "ref.go:45", #[], none⟩) (v := ?_) rfl (by kernel_rfl) (by kernel_rfl) (by kernel_rfl) (fun _ _ _ h => h) (Or.inl ⟨by rfl, ?_⟩) hS ?_
      rotate_left
      · intro wv _; go_simp; try with_reducible rfl
      try simp only [Act.put, List.setIfInBounds_toArray, List.set_cons_zero, List.set_cons_succ]
      refine wpAnyH_take (i := 1) (oi := ⟨some 10, .binOp .gtr 3 (.tmp 9) (.const (Value.int IntKind.i64 0)) 3, 4, "ref.go:45", #[⟨0, .data⟩], none⟩) (v := ?_) rfl (by kernel_rfl) (by kernel_rfl) (by kernel_rfl) (fun _ _ _ h => h) (Or.inl ⟨by rfl, ?_⟩) hS ?_
      rotate_left
      · intro wv _; go_simp; try with_reducible rfl
      try simp only [Act.put, List.setIfInBounds_toArray, List.set_cons_zero, List.set_cons_succ]
      refine wpAnyH_take (i := 2) (oi := ⟨some 11, .move (.tmp 10), 4, "ref.go:45", #[⟨1, .data⟩], none⟩) (v := ?_) rfl (by kernel_rfl) (by kernel_rfl) (by kernel_rfl) (fun _ _ _ h => h) (Or.inl ⟨by rfl, ?_⟩) hS ?_
      rotate_left
      · intro wv _; go_simp; try with_reducible rfl
      try simp only [Act.put, List.setIfInBounds_toArray, List.set_cons_zero, List.set_cons_succ]
      refine wpAnyH_take (i := 3) (oi := ⟨some 12, .move (.tmp 5), 22, "ref.go:45", #[⟨2, .guard⟩], some (2, true)⟩) (v := undef) rfl (by kernel_rfl) (by kernel_rfl) (by kernel_rfl) (fun _ _ _ h => h) (Or.inr ⟨by rfl, rfl⟩) hS ?_
      try simp only [Act.put, List.setIfInBounds_toArray, List.set_cons_zero, List.set_cons_succ]
      refine wpAnyH_take (i := 4) (oi := ⟨some 13, .move (.tmp 1), 3, "ref.go:45", #[⟨2, .guard⟩], some (2, true)⟩) (v := undef) rfl (by kernel_rfl) (by kernel_rfl) (by kernel_rfl) (fun _ _ _ h => h) (Or.inr ⟨by rfl, rfl⟩) hS ?_
      try simp only [Act.put, List.setIfInBounds_toArray, List.set_cons_zero, List.set_cons_succ]
      refine wpAnyH_take (i := 5) (oi := ⟨some 14, .indexAddr 22 (.tmp 12) (.tmp 13), 0, "ref.go:45", #[⟨3, .data⟩, ⟨4, .data⟩, ⟨2, .guard⟩], some (2, true)⟩) (v := undef) rfl (by kernel_rfl) (by kernel_rfl) (by kernel_rfl) (fun _ _ _ h => h) (Or.inr ⟨by rfl, rfl⟩) hS ?_
      try simp only [Act.put, List.setIfInBounds_toArray, List.set_cons_zero, List.set_cons_succ]
      refine wpAnyH_take (i := 6) (oi := ⟨some 15, .load 24 (.tmp 14), 24, "ref.go:45", #[⟨5, .data⟩, ⟨2, .guard⟩], some (2, true)⟩) (v := undef) rfl (by kernel_rfl) (by kernel_rfl) (by kernel_rfl) (fun _ _ _ h => h) (Or.inr ⟨by rfl, rfl⟩) hS ?_
      try simp only [Act.put, List.setIfInBounds_toArray, List.set_cons_zero, List.set_cons_succ]
      refine wpAnyH_take (i := 7) (oi := ⟨some 16, .move (.tmp 5), 22, "ref.go:45", #[⟨2, .guard⟩], some (2, true)⟩) (v := undef) rfl (by kernel_rfl) (by kernel_rfl) (by kernel_rfl) (fun _ _ _ h => h) (Or.inr ⟨by rfl, rfl⟩) hS ?_
      try simp only [Act.put, List.setIfInBounds_toArray, List.set_cons_zero, List.set_cons_succ]
      refine wpAnyH_take (i := 8) (oi := ⟨some 17, .move (.tmp 1), 3, "ref.go:45", #[⟨2, .guard⟩], some (2, true)⟩) (v := undef) rfl (by kernel_rfl) (by kernel_rfl) (by kernel_rfl) (fun _ _ _ h => h) (Or.inr ⟨by rfl, rfl⟩) hS ?_
      try simp only [Act.put, List.setIfInBounds_toArray, List.set_cons_zero, List.set_cons_succ]
      refine wpAnyH_take (i := 9) (oi := ⟨some 18, .binOp .sub 3 (.tmp 17) (.const (Value.int IntKind.i64 1)) 3, 3, "ref.go:45", #[⟨8, .data⟩, ⟨2, .guard⟩], some (2, true)⟩) (v := undef) rfl (by kernel_rfl) (by kernel_rfl) (by kernel_rfl) (fun _ _ _ h => h) (Or.inr ⟨by rfl, rfl⟩) hS ?_
      try simp only [Act.put, List.setIfInBounds_toArray, List.set_cons_zero, List.set_cons_succ]
      refine wpAnyH_take (i := 10) (oi := ⟨some 19, .binOp .quo 3 (.tmp 18) (.const (Value.int IntKind.i64 4)) 3, 3, "ref.go:45", #[⟨9, .data⟩, ⟨2, .guard⟩], some (2, true)⟩) (v := undef) rfl (by kernel_rfl) (by kernel_rfl) (by kernel_rfl) (fun _ _ _ h => h) (Or.inr ⟨by rfl, rfl⟩) hS ?_
      try simp only [Act.put, List.setIfInBounds_toArray, List.set_cons_zero, List.set_cons_succ]
      refine wpAnyH_take (i := 11) (oi := ⟨some 20, .indexAddr 22 (.tmp 16) (.tmp 19), 0, "ref.go:45", #[⟨7, .data⟩, ⟨10, .data⟩, ⟨2, .guard⟩], some (2, true)⟩) (v := undef) rfl (by kernel_rfl) (by kernel_rfl) (by kernel_rfl) (fun _ _ _ h => h) (Or.inr ⟨by rfl, rfl⟩) hS ?_
      try simp only [Act.put, List.setIfInBounds_toArray, List.set_cons_zero, List.set_cons_succ]
      refine wpAnyH_take (i := 12) (oi := ⟨some 21, .load 24 (.tmp 20), 24, "ref.go:45", #[⟨11, .data⟩, ⟨2, .guard⟩], some (2, true)⟩) (v := undef) rfl (by kernel_rfl) (by kernel_rfl) (by kernel_rfl) (fun _ _ _ h => h) (Or.inr ⟨by rfl, rfl⟩) hS ?_
      try simp only [Act.put, List.setIfInBounds_toArray, List.set_cons_zero, List.set_cons_succ]
      refine wpAnyH_take (i := 13) (oi := ⟨some 22, .call { callee := .value (.func 23), args := #[.tmp 15, .tmp 21], argTypes := #[24, 24] }, 4, "ref.go:45", #[⟨6, .data⟩, ⟨12, .data⟩, ⟨2, .chain⟩, ⟨2, .guard⟩], some (2, true)⟩) (v := undef) rfl (by kernel_rfl) (by kernel_rfl) (by kernel_rfl) (fun _ _ _ h => h) (Or.inr ⟨by rfl, rfl⟩) hS ?_
      try simp only [Act.put, List.setIfInBounds_toArray, List.set_cons_zero, List.set_cons_succ]
      refine wpAnyH_take (i := 14) (oi := ⟨some 23, .pick (.tmp 11) (.tmp 22) (.const (Value.bool false)), 4, "ref.go:45", #[⟨2, .data⟩, ⟨13, .data⟩], none⟩) (v := ?_) rfl (by kernel_rfl) (by kernel_rfl) (by kernel_rfl) (fun _ _ _ h => h) (Or.inl ⟨by rfl, ?_⟩) hS ?_
      rotate_left
      · intro wv _; go_simp; try with_reducible rfl
      try simp only [Act.put, List.setIfInBounds_toArray, List.set_cons_zero, List.set_cons_succ]
      refine wpAnyH_done (by kernel_rfl) ?_ _
      refine NoPanic.normal ?_
      go_wp2
      go_ret
      exact hS.out.out
end Go.Proofs.Ytehpfpphpffniaa
