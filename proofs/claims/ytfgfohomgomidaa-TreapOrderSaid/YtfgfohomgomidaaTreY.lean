/- Whether two trees are alike, as torporlaw09 asks it (alike); for slices of up to 16384 nodes. -/
import Derived.Test.YtfgfohomgomidaaTreE
import Derived.Deep.Cut
namespace Go.Proofs.Ytfgfohomgomidaa
set_option linter.unusedVariables false
set_option linter.unusedSimpArgs false
open Go.RowKit
theorem alike_end {ns ns2 : List Nd} {d : Nat} {i j : Int} (h : i = -1 ∨ j = -1) : alikeS ns ns2 d i j = (i == j) := by
  have e : (i == j) = decide (i = j) := by by_cases h : i = j <;> simp [h]
  rw [e]; cases d <;> simp [alikeS, h]
theorem alike_zero {ns ns2 : List Nd} {i j : Int} (h : ¬ (i = -1 ∨ j = -1)) : alikeS ns ns2 0 i j = false := by simp [alikeS, h]
theorem alike_out {ns ns2 : List Nd} {d : Nat} {i j : Int} (h : ¬ (i = -1 ∨ j = -1)) (h2 : i < 0 ∨ (ns.length : Int) ≤ i ∨ j < 0 ∨ (ns2.length : Int) ≤ j) : alikeS ns ns2 (d + 1) i j = false := by
  unfold alikeS; rw [if_neg h, if_pos h2]
theorem alike_in {ns ns2 : List Nd} {d : Nat} {i j : Int} (h : ¬ (i = -1 ∨ j = -1)) (h2 : ¬ (i < 0 ∨ (ns.length : Int) ≤ i ∨ j < 0 ∨ (ns2.length : Int) ≤ j)) : alikeS ns ns2 (d + 1) i j =
    (decide ((ndAt ns i).k = (ndAt ns2 j).k) && decide ((ndAt ns i).p = (ndAt ns2 j).p) && alikeS ns ns2 d (ndAt ns i).l (ndAt ns2 j).l && alikeS ns ns2 d (ndAt ns i).r (ndAt ns2 j).r) := by
  conv => lhs; unfold alikeS
  rw [if_neg h, if_neg h2]
set_option maxRecDepth 100000 in
set_option maxHeartbeats 8000000 in
theorem alike_any (A : Option Addr) (n c : Nat) (ns : List Nd) (rt fr : Int) (B : Option Addr) (m e : Nat) (ns2 : List Nd) (rt2 fr2 : Int) (hn : n ≤ 16384) (hm : m ≤ 16384) : ∀ (d : Nat) (D i j : Int) (w : World), Ns w A n c ns → Ns w B m e ns2 → D = (d : Int) → d ≤ 1000 →
    Calls Try.prog 25 #[.agg #[.slice A n c, .int .i64 rt, .int .i64 fr], .int .i64 i, .agg #[.slice B m e, .int .i64 rt2, .int .i64 fr2], .int .i64 j, .int .i64 D] w (Yes9 w (alikeS ns ns2 d i j)) := by
  intro d
  induction d with
  | zero =>
    intro D i j w hx hy hD hd
    have hlx := hx.len; have hly := hy.len
    have RX := Lib.hid hx; have RY := Lib.hid hy
    obtain ⟨R, hR⟩ : ∃ R, alikeS ns ns2 0 i j = R := ⟨_, rfl⟩
    rw [hR]
    clear hx hy
    have d0 : (D == 0) = true := by simp [hD]
    clear hD hd
    obtain ⟨v1, hv1⟩ : ∃ W, w.alloc (.cells #[.slice A n c, .int .i64 rt, .int .i64 fr] 24) = W := ⟨_, rfl⟩
    have fr1 : Fr w v1 w.heap.size [.cells #[.slice A n c, .int .i64 rt, .int .i64 fr] 24] := hv1 ▸ Fr.first w _
    have z1 : v1.heap.size = w.heap.size + 1 := by rw [← hv1, Fr.size1]
    obtain ⟨v2, hv2⟩ : ∃ W, v1.alloc (.cells #[.slice B m e, .int .i64 rt2, .int .i64 fr2] 24) = W := ⟨_, rfl⟩
    have fr2 : Fr w v2 w.heap.size [.cells #[.slice A n c, .int .i64 rt, .int .i64 fr] 24, .cells #[.slice B m e, .int .i64 rt2, .int .i64 fr2] 24] := hv2 ▸ fr1.more z1 _
    have z2 : v2.heap.size = w.heap.size + 2 := by rw [← hv2, Fr.size1, z1]
    generalize hq : w.heap.size = q at *
    have FR := Lib.hid fr2
    clear fr1 fr2
    by_cases h1 : i = -1
    · have b1 : (i == -1) = true := by simp [h1]
      have HE := Lib.hid (show R = (i == j) by rw [← hR]; exact alike_end (Or.inl h1))
      clear h1 hR hlx hly
      have c00 : v2.cell? ⟨q, 0, none⟩ = some (.slice A n c) := FR.out.cell 0 0 rfl rfl rfl
      have c01 : v2.cell? ⟨q, 1, none⟩ = some (.int .i64 rt) := FR.out.cell 0 1 rfl rfl rfl
      have c02 : v2.cell? ⟨q, 2, none⟩ = some (.int .i64 fr) := FR.out.cell 0 2 rfl rfl rfl
      have c10 : v2.cell? ⟨q + 1, 0, none⟩ = some (.slice B m e) := FR.out.cell 1 0 rfl rfl rfl
      have c11 : v2.cell? ⟨q + 1, 1, none⟩ = some (.int .i64 rt2) := FR.out.cell 1 1 rfl rfl rfl
      have c12 : v2.cell? ⟨q + 1, 2, none⟩ = some (.int .i64 fr2) := FR.out.cell 1 2 rfl rfl rfl
      go_enter Try.func25, Try.ntmps25
      go_wp2
      go_ret
      rw [HE.out]
      exact ⟨rfl, FR.out.out⟩
    · have b1 : (i == -1) = false := by simp [h1]
      by_cases h2 : j = -1
      · have b2 : (j == -1) = true := by simp [h2]
        have HE := Lib.hid (show R = (i == j) by rw [← hR]; exact alike_end (Or.inr h2))
        clear h1 h2 hR hlx hly
        have c00 : v2.cell? ⟨q, 0, none⟩ = some (.slice A n c) := FR.out.cell 0 0 rfl rfl rfl
        have c01 : v2.cell? ⟨q, 1, none⟩ = some (.int .i64 rt) := FR.out.cell 0 1 rfl rfl rfl
        have c02 : v2.cell? ⟨q, 2, none⟩ = some (.int .i64 fr) := FR.out.cell 0 2 rfl rfl rfl
        have c10 : v2.cell? ⟨q + 1, 0, none⟩ = some (.slice B m e) := FR.out.cell 1 0 rfl rfl rfl
        have c11 : v2.cell? ⟨q + 1, 1, none⟩ = some (.int .i64 rt2) := FR.out.cell 1 1 rfl rfl rfl
        have c12 : v2.cell? ⟨q + 1, 2, none⟩ = some (.int .i64 fr2) := FR.out.cell 1 2 rfl rfl rfl
        go_enter Try.func25, Try.ntmps25
        go_wp2
        go_ret
        rw [HE.out]
        exact ⟨rfl, FR.out.out⟩
      · have b2 : (j == -1) = false := by simp [h2]
        have h12 : ¬ (i = -1 ∨ j = -1) := by omega
        have HE := Lib.hid (show R = false by rw [← hR]; exact alike_zero h12)
        clear h1 h2 h12 hR hlx hly
        have c00 : v2.cell? ⟨q, 0, none⟩ = some (.slice A n c) := FR.out.cell 0 0 rfl rfl rfl
        have c01 : v2.cell? ⟨q, 1, none⟩ = some (.int .i64 rt) := FR.out.cell 0 1 rfl rfl rfl
        have c02 : v2.cell? ⟨q, 2, none⟩ = some (.int .i64 fr) := FR.out.cell 0 2 rfl rfl rfl
        have c10 : v2.cell? ⟨q + 1, 0, none⟩ = some (.slice B m e) := FR.out.cell 1 0 rfl rfl rfl
        have c11 : v2.cell? ⟨q + 1, 1, none⟩ = some (.int .i64 rt2) := FR.out.cell 1 1 rfl rfl rfl
        have c12 : v2.cell? ⟨q + 1, 2, none⟩ = some (.int .i64 fr2) := FR.out.cell 1 2 rfl rfl rfl
        go_enter Try.func25, Try.ntmps25
        go_wp2
        go_ret
        rw [HE.out]
        exact ⟨rfl, FR.out.out⟩
  | succ d ih =>
    intro D i j w hx hy hD hd
    have hlx := hx.len; have hly := hy.len
    have RX := Lib.hid hx; have RY := Lib.hid hy
    obtain ⟨R, hR⟩ : ∃ R, alikeS ns ns2 (d + 1) i j = R := ⟨_, rfl⟩
    rw [hR]
    clear hx hy
    have d0 : (D == 0) = false := by simp; omega
    have hw1 : IntKind.i64.wrap (D - 1) = (d : Int) := by rw [IntKind.wrap_i64]; omega
    have IH := Lib.hid ih
    have HDL := Lib.hid hd
    clear hD hd ih
    obtain ⟨v1, hv1⟩ : ∃ W, w.alloc (.cells #[.slice A n c, .int .i64 rt, .int .i64 fr] 24) = W := ⟨_, rfl⟩
    have fr1 : Fr w v1 w.heap.size [.cells #[.slice A n c, .int .i64 rt, .int .i64 fr] 24] := hv1 ▸ Fr.first w _
    have z1 : v1.heap.size = w.heap.size + 1 := by rw [← hv1, Fr.size1]
    obtain ⟨v2, hv2⟩ : ∃ W, v1.alloc (.cells #[.slice B m e, .int .i64 rt2, .int .i64 fr2] 24) = W := ⟨_, rfl⟩
    have fr2 : Fr w v2 w.heap.size [.cells #[.slice A n c, .int .i64 rt, .int .i64 fr] 24, .cells #[.slice B m e, .int .i64 rt2, .int .i64 fr2] 24] := hv2 ▸ fr1.more z1 _
    have z2 : v2.heap.size = w.heap.size + 2 := by rw [← hv2, Fr.size1, z1]
    generalize hq : w.heap.size = q at *
    have FR := Lib.hid fr2
    clear fr1 fr2
    by_cases h1 : i = -1
    · have b1 : (i == -1) = true := by simp [h1]
      have HE := Lib.hid (show R = (i == j) by rw [← hR]; exact alike_end (Or.inl h1))
      clear h1 hR hlx hly
      have c00 : v2.cell? ⟨q, 0, none⟩ = some (.slice A n c) := FR.out.cell 0 0 rfl rfl rfl
      have c01 : v2.cell? ⟨q, 1, none⟩ = some (.int .i64 rt) := FR.out.cell 0 1 rfl rfl rfl
      have c02 : v2.cell? ⟨q, 2, none⟩ = some (.int .i64 fr) := FR.out.cell 0 2 rfl rfl rfl
      have c10 : v2.cell? ⟨q + 1, 0, none⟩ = some (.slice B m e) := FR.out.cell 1 0 rfl rfl rfl
      have c11 : v2.cell? ⟨q + 1, 1, none⟩ = some (.int .i64 rt2) := FR.out.cell 1 1 rfl rfl rfl
      have c12 : v2.cell? ⟨q + 1, 2, none⟩ = some (.int .i64 fr2) := FR.out.cell 1 2 rfl rfl rfl
      go_enter Try.func25, Try.ntmps25
      go_wp2
      go_ret
      rw [HE.out]
      exact ⟨rfl, FR.out.out⟩
    · have b1 : (i == -1) = false := by simp [h1]
      by_cases h2 : j = -1
      · have b2 : (j == -1) = true := by simp [h2]
        have HE := Lib.hid (show R = (i == j) by rw [← hR]; exact alike_end (Or.inr h2))
        clear h1 h2 hR hlx hly
        have c00 : v2.cell? ⟨q, 0, none⟩ = some (.slice A n c) := FR.out.cell 0 0 rfl rfl rfl
        have c01 : v2.cell? ⟨q, 1, none⟩ = some (.int .i64 rt) := FR.out.cell 0 1 rfl rfl rfl
        have c02 : v2.cell? ⟨q, 2, none⟩ = some (.int .i64 fr) := FR.out.cell 0 2 rfl rfl rfl
        have c10 : v2.cell? ⟨q + 1, 0, none⟩ = some (.slice B m e) := FR.out.cell 1 0 rfl rfl rfl
        have c11 : v2.cell? ⟨q + 1, 1, none⟩ = some (.int .i64 rt2) := FR.out.cell 1 1 rfl rfl rfl
        have c12 : v2.cell? ⟨q + 1, 2, none⟩ = some (.int .i64 fr2) := FR.out.cell 1 2 rfl rfl rfl
        go_enter Try.func25, Try.ntmps25
        go_wp2
        go_ret
        rw [HE.out]
        exact ⟨rfl, FR.out.out⟩
      · have b2 : (j == -1) = false := by simp [h2]
        have h12 : ¬ (i = -1 ∨ j = -1) := by omega
        clear h1 h2
        by_cases h3 : i < 0
        · have a0 : decide (i < 0) = true := decide_eq_true h3
          have HE := Lib.hid (show R = false by rw [← hR]; exact alike_out h12 (Or.inl h3))
          clear h3 h12 hR hlx hly
          have c00 : v2.cell? ⟨q, 0, none⟩ = some (.slice A n c) := FR.out.cell 0 0 rfl rfl rfl
          have c01 : v2.cell? ⟨q, 1, none⟩ = some (.int .i64 rt) := FR.out.cell 0 1 rfl rfl rfl
          have c02 : v2.cell? ⟨q, 2, none⟩ = some (.int .i64 fr) := FR.out.cell 0 2 rfl rfl rfl
          have c10 : v2.cell? ⟨q + 1, 0, none⟩ = some (.slice B m e) := FR.out.cell 1 0 rfl rfl rfl
          have c11 : v2.cell? ⟨q + 1, 1, none⟩ = some (.int .i64 rt2) := FR.out.cell 1 1 rfl rfl rfl
          have c12 : v2.cell? ⟨q + 1, 2, none⟩ = some (.int .i64 fr2) := FR.out.cell 1 2 rfl rfl rfl
          go_enter Try.func25, Try.ntmps25
          go_wp2
          go_ret
          rw [HE.out]
          exact ⟨rfl, FR.out.out⟩
        · have a0 : decide (i < 0) = false := decide_eq_false h3
          have g0 := h3
          clear h3
          by_cases h3 : (n : Int) ≤ i
          · have a1 : decide ((n : Int) ≤ i) = true := decide_eq_true h3
            have HE := Lib.hid (show R = false by rw [← hR]; exact alike_out h12 (Or.inr (Or.inl (by rw [hlx]; exact h3))))
            clear h3 h12 hR hlx hly g0
            have c00 : v2.cell? ⟨q, 0, none⟩ = some (.slice A n c) := FR.out.cell 0 0 rfl rfl rfl
            have c01 : v2.cell? ⟨q, 1, none⟩ = some (.int .i64 rt) := FR.out.cell 0 1 rfl rfl rfl
            have c02 : v2.cell? ⟨q, 2, none⟩ = some (.int .i64 fr) := FR.out.cell 0 2 rfl rfl rfl
            have c10 : v2.cell? ⟨q + 1, 0, none⟩ = some (.slice B m e) := FR.out.cell 1 0 rfl rfl rfl
            have c11 : v2.cell? ⟨q + 1, 1, none⟩ = some (.int .i64 rt2) := FR.out.cell 1 1 rfl rfl rfl
            have c12 : v2.cell? ⟨q + 1, 2, none⟩ = some (.int .i64 fr2) := FR.out.cell 1 2 rfl rfl rfl
            go_enter Try.func25, Try.ntmps25
            go_wp2
            go_ret
            rw [HE.out]
            exact ⟨rfl, FR.out.out⟩
          · have a1 : decide ((n : Int) ≤ i) = false := decide_eq_false h3
            have g1 := h3
            clear h3
            by_cases h3 : j < 0
            · have a2 : decide (j < 0) = true := decide_eq_true h3
              have HE := Lib.hid (show R = false by rw [← hR]; exact alike_out h12 (Or.inr (Or.inr (Or.inl h3))))
              clear h3 h12 hR hlx hly g0 g1
              have c00 : v2.cell? ⟨q, 0, none⟩ = some (.slice A n c) := FR.out.cell 0 0 rfl rfl rfl
              have c01 : v2.cell? ⟨q, 1, none⟩ = some (.int .i64 rt) := FR.out.cell 0 1 rfl rfl rfl
              have c02 : v2.cell? ⟨q, 2, none⟩ = some (.int .i64 fr) := FR.out.cell 0 2 rfl rfl rfl
              have c10 : v2.cell? ⟨q + 1, 0, none⟩ = some (.slice B m e) := FR.out.cell 1 0 rfl rfl rfl
              have c11 : v2.cell? ⟨q + 1, 1, none⟩ = some (.int .i64 rt2) := FR.out.cell 1 1 rfl rfl rfl
              have c12 : v2.cell? ⟨q + 1, 2, none⟩ = some (.int .i64 fr2) := FR.out.cell 1 2 rfl rfl rfl
              go_enter Try.func25, Try.ntmps25
              go_wp2
              go_ret
              rw [HE.out]
              exact ⟨rfl, FR.out.out⟩
            · have a2 : decide (j < 0) = false := decide_eq_false h3
              have g2 := h3
              clear h3
              by_cases h3 : (m : Int) ≤ j
              · have a3 : decide ((m : Int) ≤ j) = true := decide_eq_true h3
                have HE := Lib.hid (show R = false by rw [← hR]; exact alike_out h12 (Or.inr (Or.inr (Or.inr (by rw [hly]; exact h3)))))
                clear h3 h12 hR hlx hly g0 g1 g2
                have c00 : v2.cell? ⟨q, 0, none⟩ = some (.slice A n c) := FR.out.cell 0 0 rfl rfl rfl
                have c01 : v2.cell? ⟨q, 1, none⟩ = some (.int .i64 rt) := FR.out.cell 0 1 rfl rfl rfl
                have c02 : v2.cell? ⟨q, 2, none⟩ = some (.int .i64 fr) := FR.out.cell 0 2 rfl rfl rfl
                have c10 : v2.cell? ⟨q + 1, 0, none⟩ = some (.slice B m e) := FR.out.cell 1 0 rfl rfl rfl
                have c11 : v2.cell? ⟨q + 1, 1, none⟩ = some (.int .i64 rt2) := FR.out.cell 1 1 rfl rfl rfl
                have c12 : v2.cell? ⟨q + 1, 2, none⟩ = some (.int .i64 fr2) := FR.out.cell 1 2 rfl rfl rfl
                go_enter Try.func25, Try.ntmps25
                go_wp2
                go_ret
                rw [HE.out]
                exact ⟨rfl, FR.out.out⟩
              · have a3 : decide ((m : Int) ≤ j) = false := decide_eq_false h3
                have g3 := h3
                clear h3
                obtain ⟨i, rfl⟩ : ∃ k : Nat, i = k := ⟨i.toNat, by omega⟩
                obtain ⟨j, rfl⟩ : ∃ k : Nat, j = k := ⟨j.toNat, by omega⟩
                have i0 : (0 : Int) ≤ (i : Int) := by omega
                have i1 : (i : Int) < (n : Int) := by omega
                have j0 : (0 : Int) ≤ (j : Int) := by omega
                have j1 : (j : Int) < (m : Int) := by omega
                have hal := alike_in (ns := ns) (ns2 := ns2) (d := d) h12 (by rw [hlx, hly]; omega)
                rw [hR] at hal
                obtain ⟨b, off, rfl, hb0, k0, k1, k2, k3, k4, k5⟩ := Ns.look (ns := ns) (FR.out.es RX.out) i (by omega)
                obtain ⟨b2, off2, rfl, hb2, l0, l1, l2, l3, l4, l5⟩ := Ns.look (ns := ns2) (FR.out.es RY.out) j (by omega)
                clear g0 g1 g2 g3 h12 hR hlx hly
                generalize ndAt ns (i : Int) = r at *
                generalize ndAt ns2 (j : Int) = u at *
                obtain ⟨X1, hX1⟩ : ∃ X, alikeS ns ns2 d r.l u.l = X := ⟨_, rfl⟩
                obtain ⟨X2, hX2⟩ : ∃ X, alikeS ns ns2 d r.r u.r = X := ⟨_, rfl⟩
                rw [hX1, hX2] at hal
                have c1 := Lib.hid (show ∀ W, Ns W (some ⟨b, off, none⟩) n c ns → Ns W (some ⟨b2, off2, none⟩) m e ns2 → Calls Try.prog 25 #[.agg #[.slice (some ⟨b, off, none⟩) n c, .int .i64 rt, .int .i64 fr], .int .i64 r.l, .agg #[.slice (some ⟨b2, off2, none⟩) m e, .int .i64 rt2, .int .i64 fr2], .int .i64 u.l, .int .i64 (d : Int)] W (Yes9 W X1) from fun W h1 h2 => hX1 ▸ IH.out _ _ _ W h1 h2 rfl (by have := HDL.out; omega))
                have c2 := Lib.hid (show ∀ W, Ns W (some ⟨b, off, none⟩) n c ns → Ns W (some ⟨b2, off2, none⟩) m e ns2 → Calls Try.prog 25 #[.agg #[.slice (some ⟨b, off, none⟩) n c, .int .i64 rt, .int .i64 fr], .int .i64 r.r, .agg #[.slice (some ⟨b2, off2, none⟩) m e, .int .i64 rt2, .int .i64 fr2], .int .i64 u.r, .int .i64 (d : Int)] W (Yes9 W X2) from fun W h1 h2 => hX2 ▸ IH.out _ _ _ W h1 h2 rfl (by have := HDL.out; omega))
                have HAL := Lib.hid hal
                clear hal hX1 hX2 IH HDL
                go_enter Try.func25, Try.ntmps25
                have c00 : v2.cell? ⟨q, 0, none⟩ = some (.slice (some ⟨b, off, none⟩) n c) := FR.out.cell 0 0 rfl rfl rfl
                have c01 : v2.cell? ⟨q, 1, none⟩ = some (.int .i64 rt) := FR.out.cell 0 1 rfl rfl rfl
                have c02 : v2.cell? ⟨q, 2, none⟩ = some (.int .i64 fr) := FR.out.cell 0 2 rfl rfl rfl
                have c10 : v2.cell? ⟨q + 1, 0, none⟩ = some (.slice (some ⟨b2, off2, none⟩) m e) := FR.out.cell 1 0 rfl rfl rfl
                have c11 : v2.cell? ⟨q + 1, 1, none⟩ = some (.int .i64 rt2) := FR.out.cell 1 1 rfl rfl rfl
                have c12 : v2.cell? ⟨q + 1, 2, none⟩ = some (.int .i64 fr2) := FR.out.cell 1 2 rfl rfl rfl
                go_wp2_with fail
                go_upto_region 5 with fail
                have hqz : q < v2.heap.size := by have := FR.out.sz; simp only [List.length_cons, List.length_nil] at this; omega
                have hqz2 : q + 1 < v2.heap.size := by have := FR.out.sz; simp only [List.length_cons, List.length_nil] at this; omega
                clear hv1 hv2 z1 z2
                generalize hz : v2.heap.size = z at *
                have HZ := Lib.hid (show ∀ wv, Below z v2 wv → z ≤ wv.heap.size from fun wv h => by have := h.size; rwa [hz] at this)
                have BZ := Lib.hid (show ∀ wv, Below z v2 wv → Below v2.heap.size v2 wv from fun wv h => by rw [hz]; exact h)
                have HS : Below z v2 v2 := by have h := Below.refl v2.heap.size v2; rwa [hz] at h
                go_cut [11, 12] from 13 (fun s11 s12 wx => ∃ (sx sy : Nat), s11 = .pointer (some ⟨sx, 0, none⟩) ∧ s12 = .pointer (some ⟨sy, 0, none⟩) ∧ Hid (wx.heap[sx]? = some (.cells #[.int .i64 r.k, .int .u32 r.p, .int .i64 r.l, .int .i64 r.r, .int .i64 r.h, .int .i64 r.t] 52)) ∧ Hid (wx.heap[sy]? = some (.cells #[.int .i64 u.k, .int .u32 u.p, .int .i64 u.l, .int .i64 u.r, .int .i64 u.h, .int .i64 u.t] 52)) ∧ Hid (Below z v2 wx) ∧ sx ≠ sy)
                case first =>
                  refine wp_region_noPanic ?_
                  refine wp_region_held_drew (S := (fun wv => Below z v2 wv)) (by kernel_rfl) (HS.drew) (fun hS => ?_)
                  refine wpAnyH_take (i := 0) (oi := ⟨some 46, .fieldAddr 24 (.tmp 5) 0, 0, "law.go:125", #[], none⟩) (v := ?_) rfl (by kernel_rfl) (by kernel_rfl) (by kernel_rfl) (fun _ _ _ h => h) (Or.inl ⟨by rfl, ?_⟩) hS ?_
                  rotate_left
                  · intro wv _; go_simp; try with_reducible rfl
                  try simp only [Act.put, List.setIfInBounds_toArray, List.set_cons_zero, List.set_cons_succ]
                  refine wpAnyH_take (i := 1) (oi := ⟨some 47, .load 22 (.tmp 46), 22, "law.go:125", #[⟨0, .data⟩], none⟩) (v := ?_) rfl (by kernel_rfl) (by kernel_rfl) (by kernel_rfl) (fun _ _ _ h => h) (Or.inl ⟨by rfl, ?_⟩) hS ?_
                  rotate_left
                  · intro wv hS; have hrun := (hS.cell (p := ⟨q, 0, none⟩) hqz).trans c00; go_simp; try with_reducible rfl
                  try simp only [Act.put, List.setIfInBounds_toArray, List.set_cons_zero, List.set_cons_succ]
                  refine wpAnyH_take (i := 2) (oi := ⟨some 48, .move (.tmp 1), 3, "law.go:125", #[], none⟩) (v := ?_) rfl (by kernel_rfl) (by kernel_rfl) (by kernel_rfl) (fun _ _ _ h => h) (Or.inl ⟨by rfl, ?_⟩) hS ?_
                  rotate_left
                  · intro wv _; go_simp; try with_reducible rfl
                  try simp only [Act.put, List.setIfInBounds_toArray, List.set_cons_zero, List.set_cons_succ]
                  refine wpAnyH_take (i := 3) (oi := ⟨some 49, .indexAddr 22 (.tmp 47) (.tmp 48), 0, "law.go:125", #[⟨1, .data⟩, ⟨2, .data⟩], none⟩) (v := ?_) rfl (by kernel_rfl) (by kernel_rfl) (by kernel_rfl) (fun _ _ _ h => h) (Or.inl ⟨by rfl, ?_⟩) hS ?_
                  rotate_left
                  · intro wv _; go_simp; try with_reducible rfl
                  try simp only [Act.put, List.setIfInBounds_toArray, List.set_cons_zero, List.set_cons_succ]
                  refine wpAnyH_take (i := 4) (oi := ⟨some 50, .load 52 (.tmp 49), 52, "law.go:125", #[⟨3, .data⟩], none⟩) (v := .agg (([.int .i64 r.k, .int .u32 r.p, .int .i64 r.l, .int .i64 r.r, .int .i64 r.h, .int .i64 r.t] : List Value)).toArray) rfl (by kernel_rfl) (by kernel_rfl) (by kernel_rfl) (fun _ _ _ h => h) (yieldsIf_load_mid (by rfl) _ _ (by rfl) (b) (off + i * 6) (by rfl) (([.int .i64 r.k, .int .u32 r.p, .int .i64 r.l, .int .i64 r.r, .int .i64 r.h, .int .i64 r.t] : List Value)) _ (fun wv hS => nd_range ((hS.cell (p := ⟨b, off + i * 6, none⟩) hb0).trans k0) ((hS.cell (p := ⟨b, off + i * 6 + 1, none⟩) hb0).trans k1) ((hS.cell (p := ⟨b, off + i * 6 + 2, none⟩) hb0).trans k2) ((hS.cell (p := ⟨b, off + i * 6 + 3, none⟩) hb0).trans k3) ((hS.cell (p := ⟨b, off + i * 6 + 4, none⟩) hb0).trans k4) ((hS.cell (p := ⟨b, off + i * 6 + 5, none⟩) hb0).trans k5)) Try.underlying52 (by rfl) (by kernel_rfl)) hS ?_
                  try simp only [Act.put, List.setIfInBounds_toArray, List.set_cons_zero, List.set_cons_succ]
                  refine wpAnyH_take (i := 5) (oi := ⟨some 51, .fieldAddr 24 (.tmp 7) 0, 0, "law.go:125", #[⟨12, .gcOnly .lateStores⟩], none⟩) (v := ?_) rfl (by kernel_rfl) (by kernel_rfl) (by kernel_rfl) (fun _ _ _ h => h) (Or.inl ⟨by rfl, ?_⟩) hS ?_
                  rotate_left
                  · intro wv _; go_simp; try with_reducible rfl
                  try simp only [Act.put, List.setIfInBounds_toArray, List.set_cons_zero, List.set_cons_succ]
                  refine wpAnyH_take (i := 6) (oi := ⟨some 52, .load 22 (.tmp 51), 22, "law.go:125", #[⟨5, .data⟩, ⟨12, .gcOnly .lateStores⟩], none⟩) (v := ?_) rfl (by kernel_rfl) (by kernel_rfl) (by kernel_rfl) (fun _ _ _ h => h) (Or.inl ⟨by rfl, ?_⟩) hS ?_
                  rotate_left
                  · intro wv hS; have hrun := (hS.cell (p := ⟨q + 1, 0, none⟩) hqz2).trans c10; go_simp; try with_reducible rfl
                  try simp only [Act.put, List.setIfInBounds_toArray, List.set_cons_zero, List.set_cons_succ]
                  refine wpAnyH_take (i := 7) (oi := ⟨some 53, .move (.tmp 3), 3, "law.go:125", #[⟨12, .gcOnly .lateStores⟩], none⟩) (v := ?_) rfl (by kernel_rfl) (by kernel_rfl) (by kernel_rfl) (fun _ _ _ h => h) (Or.inl ⟨by rfl, ?_⟩) hS ?_
                  rotate_left
                  · intro wv _; go_simp; try with_reducible rfl
                  try simp only [Act.put, List.setIfInBounds_toArray, List.set_cons_zero, List.set_cons_succ]
                  refine wpAnyH_take (i := 8) (oi := ⟨some 54, .indexAddr 22 (.tmp 52) (.tmp 53), 0, "law.go:125", #[⟨6, .data⟩, ⟨7, .data⟩, ⟨12, .gcOnly .lateStores⟩], none⟩) (v := ?_) rfl (by kernel_rfl) (by kernel_rfl) (by kernel_rfl) (fun _ _ _ h => h) (Or.inl ⟨by rfl, ?_⟩) hS ?_
                  rotate_left
                  · intro wv _; go_simp; try with_reducible rfl
                  try simp only [Act.put, List.setIfInBounds_toArray, List.set_cons_zero, List.set_cons_succ]
                  refine wpAnyH_take (i := 9) (oi := ⟨some 55, .load 52 (.tmp 54), 52, "law.go:125", #[⟨8, .data⟩, ⟨12, .gcOnly .lateStores⟩], none⟩) (v := .agg (([.int .i64 u.k, .int .u32 u.p, .int .i64 u.l, .int .i64 u.r, .int .i64 u.h, .int .i64 u.t] : List Value)).toArray) rfl (by kernel_rfl) (by kernel_rfl) (by kernel_rfl) (fun _ _ _ h => h) (yieldsIf_load_mid (by rfl) _ _ (by rfl) (b2) (off2 + j * 6) (by rfl) (([.int .i64 u.k, .int .u32 u.p, .int .i64 u.l, .int .i64 u.r, .int .i64 u.h, .int .i64 u.t] : List Value)) _ (fun wv hS => nd_range ((hS.cell (p := ⟨b2, off2 + j * 6, none⟩) hb2).trans l0) ((hS.cell (p := ⟨b2, off2 + j * 6 + 1, none⟩) hb2).trans l1) ((hS.cell (p := ⟨b2, off2 + j * 6 + 2, none⟩) hb2).trans l2) ((hS.cell (p := ⟨b2, off2 + j * 6 + 3, none⟩) hb2).trans l3) ((hS.cell (p := ⟨b2, off2 + j * 6 + 4, none⟩) hb2).trans l4) ((hS.cell (p := ⟨b2, off2 + j * 6 + 5, none⟩) hb2).trans l5)) Try.underlying52 (by rfl) (by kernel_rfl)) hS ?_
                  try simp only [Act.put, List.setIfInBounds_toArray, List.set_cons_zero, List.set_cons_succ]
                  refine wpAnyH_ready (rs := [10, 11]) (by kernel_rfl) (by simp) (AllReadyH.cons (o := ⟨some 11, .alloc 52, 0, "law.go:125", #[], none⟩) rfl (fun K hK => ?_) (AllReadyH.cons (o := ⟨some 12, .alloc 52, 0, "law.go:125", #[], none⟩) rfl (fun K hK => ?_) AllReadyH.nil))
                  ·
                   go_simp
                   have zs : z ≤ z := Nat.le_refl _
                   have bd : Below z v2 (v2.alloc (.cells #[.int .i64 0, .int .u32 0, .int .i64 0, .int .i64 0, .int .i64 0, .int .i64 0] 52)) := by have h := (Below.refl v2.heap.size v2).alloc (Nat.le_refl _) (.cells #[.int .i64 0, .int .u32 0, .int .i64 0, .int .i64 0, .int .i64 0, .int .i64 0] 52); rwa [hz] at h
                   have Vx : (v2.alloc (.cells #[.int .i64 0, .int .u32 0, .int .i64 0, .int .i64 0, .int .i64 0, .int .i64 0] 52)).heap[z]? = some (.cells #[.int .i64 0, .int .u32 0, .int .i64 0, .int .i64 0, .int .i64 0, .int .i64 0] 52) := by have h := heap_alloc_new v2 (.cells #[.int .i64 0, .int .u32 0, .int .i64 0, .int .i64 0, .int .i64 0, .int .i64 0] 52); rw [hz] at h; exact h
                   have gex := zs
                   replace HS := HS.trans (bd.mono zs)
                   clear bd zs
                   generalize v2.alloc (.cells #[.int .i64 0, .int .u32 0, .int .i64 0, .int .i64 0, .int .i64 0, .int .i64 0] 52) = x1 at *
                   replace hS := HS.drew
                   go_wp2_with fail
                   refine Shut.out hK _ _ hS (fun _ => ?_)
                   clear hK K
                   try simp only [Act.put, List.setIfInBounds_toArray, List.set_cons_zero, List.set_cons_succ]
                   refine wpAnyH_ready (rs := [11]) (by kernel_rfl) (by simp) (AllReadyH.cons (o := ⟨some 12, .alloc 52, 0, "law.go:125", #[], none⟩) rfl (fun K hK => ?_) AllReadyH.nil)
                   go_simp
                   have zs : z ≤ x1.heap.size := HZ.out _ HS
                   have bd : Below x1.heap.size x1 (x1.alloc (.cells #[.int .i64 0, .int .u32 0, .int .i64 0, .int .i64 0, .int .i64 0, .int .i64 0] 52)) := (Below.refl _ _).alloc (Nat.le_refl _) _
                   have ltx := blk_lt Vx
                   replace Vx := blk_below Vx bd ltx
                   have Vy : (x1.alloc (.cells #[.int .i64 0, .int .u32 0, .int .i64 0, .int .i64 0, .int .i64 0, .int .i64 0] 52)).heap[x1.heap.size]? = some (.cells #[.int .i64 0, .int .u32 0, .int .i64 0, .int .i64 0, .int .i64 0, .int .i64 0] 52) := heap_alloc_new _ _
                   have gey := zs
                   replace HS := HS.trans (bd.mono zs)
                   clear bd zs
                   generalize x1.alloc (.cells #[.int .i64 0, .int .u32 0, .int .i64 0, .int .i64 0, .int .i64 0, .int .i64 0] 52) = x2 at *
                   generalize hsy : x1.heap.size = sy at *
                   have nexy : z ≠ sy := by omega
                   replace hS := HS.drew
                   have cx0 : x2.cell? ⟨z, 0, none⟩ = some (.int .i64 0) := (blk_cell Vx 0).trans rfl
                   have fx0 : x2.frozen? ⟨z, 0, none⟩ = false := blk_frozen Vx 0
                   have cx1 : x2.cell? ⟨z, 1, none⟩ = some (.int .u32 0) := (blk_cell Vx 1).trans rfl
                   have fx1 : x2.frozen? ⟨z, 1, none⟩ = false := blk_frozen Vx 1
                   have cx2 : x2.cell? ⟨z, 2, none⟩ = some (.int .i64 0) := (blk_cell Vx 2).trans rfl
                   have fx2 : x2.frozen? ⟨z, 2, none⟩ = false := blk_frozen Vx 2
                   have cx3 : x2.cell? ⟨z, 3, none⟩ = some (.int .i64 0) := (blk_cell Vx 3).trans rfl
                   have fx3 : x2.frozen? ⟨z, 3, none⟩ = false := blk_frozen Vx 3
                   have cx4 : x2.cell? ⟨z, 4, none⟩ = some (.int .i64 0) := (blk_cell Vx 4).trans rfl
                   have fx4 : x2.frozen? ⟨z, 4, none⟩ = false := blk_frozen Vx 4
                   have cx5 : x2.cell? ⟨z, 5, none⟩ = some (.int .i64 0) := (blk_cell Vx 5).trans rfl
                   have fx5 : x2.frozen? ⟨z, 5, none⟩ = false := blk_frozen Vx 5
                   have cy0 : x2.cell? ⟨sy, 0, none⟩ = some (.int .i64 0) := (blk_cell Vy 0).trans rfl
                   have fy0 : x2.frozen? ⟨sy, 0, none⟩ = false := blk_frozen Vy 0
                   have cy1 : x2.cell? ⟨sy, 1, none⟩ = some (.int .u32 0) := (blk_cell Vy 1).trans rfl
                   have fy1 : x2.frozen? ⟨sy, 1, none⟩ = false := blk_frozen Vy 1
                   have cy2 : x2.cell? ⟨sy, 2, none⟩ = some (.int .i64 0) := (blk_cell Vy 2).trans rfl
                   have fy2 : x2.frozen? ⟨sy, 2, none⟩ = false := blk_frozen Vy 2
                   have cy3 : x2.cell? ⟨sy, 3, none⟩ = some (.int .i64 0) := (blk_cell Vy 3).trans rfl
                   have fy3 : x2.frozen? ⟨sy, 3, none⟩ = false := blk_frozen Vy 3
                   have cy4 : x2.cell? ⟨sy, 4, none⟩ = some (.int .i64 0) := (blk_cell Vy 4).trans rfl
                   have fy4 : x2.frozen? ⟨sy, 4, none⟩ = false := blk_frozen Vy 4
                   have cy5 : x2.cell? ⟨sy, 5, none⟩ = some (.int .i64 0) := (blk_cell Vy 5).trans rfl
                   have fy5 : x2.frozen? ⟨sy, 5, none⟩ = false := blk_frozen Vy 5
                   go_wp2_with fail
                   refine Shut.out hK _ _ hS (fun _ => ?_)
                   clear hK K
                   try simp only [Act.put, List.setIfInBounds_toArray, List.set_cons_zero, List.set_cons_succ]
                   refine wpAnyH_ready (rs := [12]) (by kernel_rfl) (by simp) (AllReadyH.cons (o := ⟨none, .store 52 (.tmp 11) (.tmp 50), 0, "law.go:125", #[⟨10, .data⟩, ⟨4, .data⟩, ⟨0, .phase⟩, ⟨1, .phase⟩, ⟨2, .phase⟩, ⟨3, .phase⟩, ⟨4, .phase⟩, ⟨5, .textOnly .lateStores⟩, ⟨6, .textOnly .lateStores⟩, ⟨7, .textOnly .lateStores⟩, ⟨8, .textOnly .lateStores⟩, ⟨9, .textOnly .lateStores⟩, ⟨10, .phase⟩, ⟨11, .phase⟩], none⟩) rfl (fun K hK => ?_) AllReadyH.nil)
                   go_simp
                   have Vx2 := (blk_set (j := 5) (blk_set (j := 4) (blk_set (j := 3) (blk_set (j := 2) (blk_set (j := 1) (blk_set (j := 0) (show x2.heap[z]? = _ from Vx) (.int .i64 r.k)) (.int .u32 r.p)) (.int .i64 r.l)) (.int .i64 r.r)) (.int .i64 r.h)) (.int .i64 r.t))
                   have Vy2 := ((Below.heap_setCell _ ⟨z, 5, none⟩ (.int .i64 r.t) sy (nexy.symm)).trans ((Below.heap_setCell _ ⟨z, 4, none⟩ (.int .i64 r.h) sy (nexy.symm)).trans ((Below.heap_setCell _ ⟨z, 3, none⟩ (.int .i64 r.r) sy (nexy.symm)).trans ((Below.heap_setCell _ ⟨z, 2, none⟩ (.int .i64 r.l) sy (nexy.symm)).trans ((Below.heap_setCell _ ⟨z, 1, none⟩ (.int .u32 r.p) sy (nexy.symm)).trans ((Below.heap_setCell _ ⟨z, 0, none⟩ (.int .i64 r.k) sy (nexy.symm)).trans (show x2.heap[sy]? = _ from Vy)))))))
                   have HS2 := (Below.setCell (Below.setCell (Below.setCell (Below.setCell (Below.setCell (Below.setCell HS (p := ⟨z, 0, none⟩) (show z ≤ z from gex) (.int .i64 r.k)) (p := ⟨z, 1, none⟩) (show z ≤ z from gex) (.int .u32 r.p)) (p := ⟨z, 2, none⟩) (show z ≤ z from gex) (.int .i64 r.l)) (p := ⟨z, 3, none⟩) (show z ≤ z from gex) (.int .i64 r.r)) (p := ⟨z, 4, none⟩) (show z ≤ z from gex) (.int .i64 r.h)) (p := ⟨z, 5, none⟩) (show z ≤ z from gex) (.int .i64 r.t))
                   clear cx0 fx0 cx1 fx1 cx2 fx2 cx3 fx3 cx4 fx4 cx5 fx5 cy0 fy0 cy1 fy1 cy2 fy2 cy3 fy3 cy4 fy4 cy5 fy5
                   clear Vx Vy HS hS
                   generalize ((((((x2.setCell ⟨z, 0, none⟩ (.int .i64 r.k)).setCell ⟨z, 1, none⟩ (.int .u32 r.p)).setCell ⟨z, 2, none⟩ (.int .i64 r.l)).setCell ⟨z, 3, none⟩ (.int .i64 r.r)).setCell ⟨z, 4, none⟩ (.int .i64 r.h)).setCell ⟨z, 5, none⟩ (.int .i64 r.t)) = x3 at *
                   have Vx : x3.heap[z]? = some (.cells #[.int .i64 r.k, .int .u32 r.p, .int .i64 r.l, .int .i64 r.r, .int .i64 r.h, .int .i64 r.t] 52) := Vx2
                   have Vy : x3.heap[sy]? = some (.cells #[.int .i64 0, .int .u32 0, .int .i64 0, .int .i64 0, .int .i64 0, .int .i64 0] 52) := Vy2
                   have HS := HS2
                   have hS := HS2.drew
                   clear Vx2 Vy2 HS2
                   have cy0 : x3.cell? ⟨sy, 0, none⟩ = some (.int .i64 0) := (blk_cell Vy 0).trans rfl
                   have fy0 : x3.frozen? ⟨sy, 0, none⟩ = false := blk_frozen Vy 0
                   have cy1 : x3.cell? ⟨sy, 1, none⟩ = some (.int .u32 0) := (blk_cell Vy 1).trans rfl
                   have fy1 : x3.frozen? ⟨sy, 1, none⟩ = false := blk_frozen Vy 1
                   have cy2 : x3.cell? ⟨sy, 2, none⟩ = some (.int .i64 0) := (blk_cell Vy 2).trans rfl
                   have fy2 : x3.frozen? ⟨sy, 2, none⟩ = false := blk_frozen Vy 2
                   have cy3 : x3.cell? ⟨sy, 3, none⟩ = some (.int .i64 0) := (blk_cell Vy 3).trans rfl
                   have fy3 : x3.frozen? ⟨sy, 3, none⟩ = false := blk_frozen Vy 3
                   have cy4 : x3.cell? ⟨sy, 4, none⟩ = some (.int .i64 0) := (blk_cell Vy 4).trans rfl
                   have fy4 : x3.frozen? ⟨sy, 4, none⟩ = false := blk_frozen Vy 4
                   have cy5 : x3.cell? ⟨sy, 5, none⟩ = some (.int .i64 0) := (blk_cell Vy 5).trans rfl
                   have fy5 : x3.frozen? ⟨sy, 5, none⟩ = false := blk_frozen Vy 5
                   refine Shut.out hK _ _ hS (fun _ => ?_)
                   clear hK K
                   try simp only [Act.put, List.setIfInBounds_toArray, List.set_cons_zero, List.set_cons_succ]
                   refine wpAnyH_ready (rs := [13]) (by kernel_rfl) (by simp) (AllReadyH.cons (o := ⟨none, .store 52 (.tmp 12) (.tmp 55), 0, "law.go:125", #[⟨11, .data⟩, ⟨9, .data⟩, ⟨12, .chain⟩, ⟨0, .phase⟩, ⟨1, .phase⟩, ⟨2, .phase⟩, ⟨3, .phase⟩, ⟨4, .phase⟩, ⟨5, .phase⟩, ⟨6, .phase⟩, ⟨7, .phase⟩, ⟨8, .phase⟩, ⟨9, .phase⟩, ⟨10, .phase⟩, ⟨11, .phase⟩, ⟨12, .phase⟩], none⟩) rfl (fun K hK => ?_) AllReadyH.nil)
                   go_simp
                   have Vy2 := (blk_set (j := 5) (blk_set (j := 4) (blk_set (j := 3) (blk_set (j := 2) (blk_set (j := 1) (blk_set (j := 0) (show x3.heap[sy]? = _ from Vy) (.int .i64 u.k)) (.int .u32 u.p)) (.int .i64 u.l)) (.int .i64 u.r)) (.int .i64 u.h)) (.int .i64 u.t))
                   have Vx2 := ((Below.heap_setCell _ ⟨sy, 5, none⟩ (.int .i64 u.t) z (nexy)).trans ((Below.heap_setCell _ ⟨sy, 4, none⟩ (.int .i64 u.h) z (nexy)).trans ((Below.heap_setCell _ ⟨sy, 3, none⟩ (.int .i64 u.r) z (nexy)).trans ((Below.heap_setCell _ ⟨sy, 2, none⟩ (.int .i64 u.l) z (nexy)).trans ((Below.heap_setCell _ ⟨sy, 1, none⟩ (.int .u32 u.p) z (nexy)).trans ((Below.heap_setCell _ ⟨sy, 0, none⟩ (.int .i64 u.k) z (nexy)).trans (show x3.heap[z]? = _ from Vx)))))))
                   have HS2 := (Below.setCell (Below.setCell (Below.setCell (Below.setCell (Below.setCell (Below.setCell HS (p := ⟨sy, 0, none⟩) (show z ≤ sy from gey) (.int .i64 u.k)) (p := ⟨sy, 1, none⟩) (show z ≤ sy from gey) (.int .u32 u.p)) (p := ⟨sy, 2, none⟩) (show z ≤ sy from gey) (.int .i64 u.l)) (p := ⟨sy, 3, none⟩) (show z ≤ sy from gey) (.int .i64 u.r)) (p := ⟨sy, 4, none⟩) (show z ≤ sy from gey) (.int .i64 u.h)) (p := ⟨sy, 5, none⟩) (show z ≤ sy from gey) (.int .i64 u.t))
                   clear cy0 fy0 cy1 fy1 cy2 fy2 cy3 fy3 cy4 fy4 cy5 fy5
                   clear Vx Vy HS hS
                   generalize ((((((x3.setCell ⟨sy, 0, none⟩ (.int .i64 u.k)).setCell ⟨sy, 1, none⟩ (.int .u32 u.p)).setCell ⟨sy, 2, none⟩ (.int .i64 u.l)).setCell ⟨sy, 3, none⟩ (.int .i64 u.r)).setCell ⟨sy, 4, none⟩ (.int .i64 u.h)).setCell ⟨sy, 5, none⟩ (.int .i64 u.t)) = x4 at *
                   have Vy : x4.heap[sy]? = some (.cells #[.int .i64 u.k, .int .u32 u.p, .int .i64 u.l, .int .i64 u.r, .int .i64 u.h, .int .i64 u.t] 52) := Vy2
                   have Vx : x4.heap[z]? = some (.cells #[.int .i64 r.k, .int .u32 r.p, .int .i64 r.l, .int .i64 r.r, .int .i64 r.h, .int .i64 r.t] 52) := Vx2
                   have HS := HS2
                   have hS := HS2.drew
                   clear Vx2 Vy2 HS2
                   refine Shut.out hK _ _ hS (fun _ => ?_)
                   clear hK K
                   try simp only [Act.put, List.setIfInBounds_toArray, List.set_cons_zero, List.set_cons_succ]
                   refine wpAnyH_done (by kernel_rfl) ?_ _
                   refine NoPanic.normal ?_
                   go_wp2_with fail
                   go_meet
                   exact ⟨z, sy, rfl, rfl, Lib.hid Vx, Lib.hid Vy, Lib.hid HS.drew, nexy⟩
                  ·
                   go_simp
                   have zs : z ≤ z := Nat.le_refl _
                   have bd : Below z v2 (v2.alloc (.cells #[.int .i64 0, .int .u32 0, .int .i64 0, .int .i64 0, .int .i64 0, .int .i64 0] 52)) := by have h := (Below.refl v2.heap.size v2).alloc (Nat.le_refl _) (.cells #[.int .i64 0, .int .u32 0, .int .i64 0, .int .i64 0, .int .i64 0, .int .i64 0] 52); rwa [hz] at h
                   have Vy : (v2.alloc (.cells #[.int .i64 0, .int .u32 0, .int .i64 0, .int .i64 0, .int .i64 0, .int .i64 0] 52)).heap[z]? = some (.cells #[.int .i64 0, .int .u32 0, .int .i64 0, .int .i64 0, .int .i64 0, .int .i64 0] 52) := by have h := heap_alloc_new v2 (.cells #[.int .i64 0, .int .u32 0, .int .i64 0, .int .i64 0, .int .i64 0, .int .i64 0] 52); rw [hz] at h; exact h
                   have gey := zs
                   replace HS := HS.trans (bd.mono zs)
                   clear bd zs
                   generalize v2.alloc (.cells #[.int .i64 0, .int .u32 0, .int .i64 0, .int .i64 0, .int .i64 0, .int .i64 0] 52) = x1 at *
                   replace hS := HS.drew
                   go_wp2_with fail
                   refine Shut.out hK _ _ hS (fun _ => ?_)
                   clear hK K
                   try simp only [Act.put, List.setIfInBounds_toArray, List.set_cons_zero, List.set_cons_succ]
                   refine wpAnyH_ready (rs := [10]) (by kernel_rfl) (by simp) (AllReadyH.cons (o := ⟨some 11, .alloc 52, 0, "law.go:125", #[], none⟩) rfl (fun K hK => ?_) AllReadyH.nil)
                   go_simp
                   have zs : z ≤ x1.heap.size := HZ.out _ HS
                   have bd : Below x1.heap.size x1 (x1.alloc (.cells #[.int .i64 0, .int .u32 0, .int .i64 0, .int .i64 0, .int .i64 0, .int .i64 0] 52)) := (Below.refl _ _).alloc (Nat.le_refl _) _
                   have lty := blk_lt Vy
                   replace Vy := blk_below Vy bd lty
                   have Vx : (x1.alloc (.cells #[.int .i64 0, .int .u32 0, .int .i64 0, .int .i64 0, .int .i64 0, .int .i64 0] 52)).heap[x1.heap.size]? = some (.cells #[.int .i64 0, .int .u32 0, .int .i64 0, .int .i64 0, .int .i64 0, .int .i64 0] 52) := heap_alloc_new _ _
                   have gex := zs
                   replace HS := HS.trans (bd.mono zs)
                   clear bd zs
                   generalize x1.alloc (.cells #[.int .i64 0, .int .u32 0, .int .i64 0, .int .i64 0, .int .i64 0, .int .i64 0] 52) = x2 at *
                   generalize hsx : x1.heap.size = sx at *
                   have nexy : sx ≠ z := by omega
                   replace hS := HS.drew
                   have cx0 : x2.cell? ⟨sx, 0, none⟩ = some (.int .i64 0) := (blk_cell Vx 0).trans rfl
                   have fx0 : x2.frozen? ⟨sx, 0, none⟩ = false := blk_frozen Vx 0
                   have cx1 : x2.cell? ⟨sx, 1, none⟩ = some (.int .u32 0) := (blk_cell Vx 1).trans rfl
                   have fx1 : x2.frozen? ⟨sx, 1, none⟩ = false := blk_frozen Vx 1
                   have cx2 : x2.cell? ⟨sx, 2, none⟩ = some (.int .i64 0) := (blk_cell Vx 2).trans rfl
                   have fx2 : x2.frozen? ⟨sx, 2, none⟩ = false := blk_frozen Vx 2
                   have cx3 : x2.cell? ⟨sx, 3, none⟩ = some (.int .i64 0) := (blk_cell Vx 3).trans rfl
                   have fx3 : x2.frozen? ⟨sx, 3, none⟩ = false := blk_frozen Vx 3
                   have cx4 : x2.cell? ⟨sx, 4, none⟩ = some (.int .i64 0) := (blk_cell Vx 4).trans rfl
                   have fx4 : x2.frozen? ⟨sx, 4, none⟩ = false := blk_frozen Vx 4
                   have cx5 : x2.cell? ⟨sx, 5, none⟩ = some (.int .i64 0) := (blk_cell Vx 5).trans rfl
                   have fx5 : x2.frozen? ⟨sx, 5, none⟩ = false := blk_frozen Vx 5
                   have cy0 : x2.cell? ⟨z, 0, none⟩ = some (.int .i64 0) := (blk_cell Vy 0).trans rfl
                   have fy0 : x2.frozen? ⟨z, 0, none⟩ = false := blk_frozen Vy 0
                   have cy1 : x2.cell? ⟨z, 1, none⟩ = some (.int .u32 0) := (blk_cell Vy 1).trans rfl
                   have fy1 : x2.frozen? ⟨z, 1, none⟩ = false := blk_frozen Vy 1
                   have cy2 : x2.cell? ⟨z, 2, none⟩ = some (.int .i64 0) := (blk_cell Vy 2).trans rfl
                   have fy2 : x2.frozen? ⟨z, 2, none⟩ = false := blk_frozen Vy 2
                   have cy3 : x2.cell? ⟨z, 3, none⟩ = some (.int .i64 0) := (blk_cell Vy 3).trans rfl
                   have fy3 : x2.frozen? ⟨z, 3, none⟩ = false := blk_frozen Vy 3
                   have cy4 : x2.cell? ⟨z, 4, none⟩ = some (.int .i64 0) := (blk_cell Vy 4).trans rfl
                   have fy4 : x2.frozen? ⟨z, 4, none⟩ = false := blk_frozen Vy 4
                   have cy5 : x2.cell? ⟨z, 5, none⟩ = some (.int .i64 0) := (blk_cell Vy 5).trans rfl
                   have fy5 : x2.frozen? ⟨z, 5, none⟩ = false := blk_frozen Vy 5
                   go_wp2_with fail
                   refine Shut.out hK _ _ hS (fun _ => ?_)
                   clear hK K
                   try simp only [Act.put, List.setIfInBounds_toArray, List.set_cons_zero, List.set_cons_succ]
                   refine wpAnyH_ready (rs := [12]) (by kernel_rfl) (by simp) (AllReadyH.cons (o := ⟨none, .store 52 (.tmp 11) (.tmp 50), 0, "law.go:125", #[⟨10, .data⟩, ⟨4, .data⟩, ⟨0, .phase⟩, ⟨1, .phase⟩, ⟨2, .phase⟩, ⟨3, .phase⟩, ⟨4, .phase⟩, ⟨5, .textOnly .lateStores⟩, ⟨6, .textOnly .lateStores⟩, ⟨7, .textOnly .lateStores⟩, ⟨8, .textOnly .lateStores⟩, ⟨9, .textOnly .lateStores⟩, ⟨10, .phase⟩, ⟨11, .phase⟩], none⟩) rfl (fun K hK => ?_) AllReadyH.nil)
                   go_simp
                   have Vx2 := (blk_set (j := 5) (blk_set (j := 4) (blk_set (j := 3) (blk_set (j := 2) (blk_set (j := 1) (blk_set (j := 0) (show x2.heap[sx]? = _ from Vx) (.int .i64 r.k)) (.int .u32 r.p)) (.int .i64 r.l)) (.int .i64 r.r)) (.int .i64 r.h)) (.int .i64 r.t))
                   have Vy2 := ((Below.heap_setCell _ ⟨sx, 5, none⟩ (.int .i64 r.t) z (nexy.symm)).trans ((Below.heap_setCell _ ⟨sx, 4, none⟩ (.int .i64 r.h) z (nexy.symm)).trans ((Below.heap_setCell _ ⟨sx, 3, none⟩ (.int .i64 r.r) z (nexy.symm)).trans ((Below.heap_setCell _ ⟨sx, 2, none⟩ (.int .i64 r.l) z (nexy.symm)).trans ((Below.heap_setCell _ ⟨sx, 1, none⟩ (.int .u32 r.p) z (nexy.symm)).trans ((Below.heap_setCell _ ⟨sx, 0, none⟩ (.int .i64 r.k) z (nexy.symm)).trans (show x2.heap[z]? = _ from Vy)))))))
                   have HS2 := (Below.setCell (Below.setCell (Below.setCell (Below.setCell (Below.setCell (Below.setCell HS (p := ⟨sx, 0, none⟩) (show z ≤ sx from gex) (.int .i64 r.k)) (p := ⟨sx, 1, none⟩) (show z ≤ sx from gex) (.int .u32 r.p)) (p := ⟨sx, 2, none⟩) (show z ≤ sx from gex) (.int .i64 r.l)) (p := ⟨sx, 3, none⟩) (show z ≤ sx from gex) (.int .i64 r.r)) (p := ⟨sx, 4, none⟩) (show z ≤ sx from gex) (.int .i64 r.h)) (p := ⟨sx, 5, none⟩) (show z ≤ sx from gex) (.int .i64 r.t))
                   clear cx0 fx0 cx1 fx1 cx2 fx2 cx3 fx3 cx4 fx4 cx5 fx5 cy0 fy0 cy1 fy1 cy2 fy2 cy3 fy3 cy4 fy4 cy5 fy5
                   clear Vx Vy HS hS
                   generalize ((((((x2.setCell ⟨sx, 0, none⟩ (.int .i64 r.k)).setCell ⟨sx, 1, none⟩ (.int .u32 r.p)).setCell ⟨sx, 2, none⟩ (.int .i64 r.l)).setCell ⟨sx, 3, none⟩ (.int .i64 r.r)).setCell ⟨sx, 4, none⟩ (.int .i64 r.h)).setCell ⟨sx, 5, none⟩ (.int .i64 r.t)) = x3 at *
                   have Vx : x3.heap[sx]? = some (.cells #[.int .i64 r.k, .int .u32 r.p, .int .i64 r.l, .int .i64 r.r, .int .i64 r.h, .int .i64 r.t] 52) := Vx2
                   have Vy : x3.heap[z]? = some (.cells #[.int .i64 0, .int .u32 0, .int .i64 0, .int .i64 0, .int .i64 0, .int .i64 0] 52) := Vy2
                   have HS := HS2
                   have hS := HS2.drew
                   clear Vx2 Vy2 HS2
                   have cy0 : x3.cell? ⟨z, 0, none⟩ = some (.int .i64 0) := (blk_cell Vy 0).trans rfl
                   have fy0 : x3.frozen? ⟨z, 0, none⟩ = false := blk_frozen Vy 0
                   have cy1 : x3.cell? ⟨z, 1, none⟩ = some (.int .u32 0) := (blk_cell Vy 1).trans rfl
                   have fy1 : x3.frozen? ⟨z, 1, none⟩ = false := blk_frozen Vy 1
                   have cy2 : x3.cell? ⟨z, 2, none⟩ = some (.int .i64 0) := (blk_cell Vy 2).trans rfl
                   have fy2 : x3.frozen? ⟨z, 2, none⟩ = false := blk_frozen Vy 2
                   have cy3 : x3.cell? ⟨z, 3, none⟩ = some (.int .i64 0) := (blk_cell Vy 3).trans rfl
                   have fy3 : x3.frozen? ⟨z, 3, none⟩ = false := blk_frozen Vy 3
                   have cy4 : x3.cell? ⟨z, 4, none⟩ = some (.int .i64 0) := (blk_cell Vy 4).trans rfl
                   have fy4 : x3.frozen? ⟨z, 4, none⟩ = false := blk_frozen Vy 4
                   have cy5 : x3.cell? ⟨z, 5, none⟩ = some (.int .i64 0) := (blk_cell Vy 5).trans rfl
                   have fy5 : x3.frozen? ⟨z, 5, none⟩ = false := blk_frozen Vy 5
                   refine Shut.out hK _ _ hS (fun _ => ?_)
                   clear hK K
                   try simp only [Act.put, List.setIfInBounds_toArray, List.set_cons_zero, List.set_cons_succ]
                   refine wpAnyH_ready (rs := [13]) (by kernel_rfl) (by simp) (AllReadyH.cons (o := ⟨none, .store 52 (.tmp 12) (.tmp 55), 0, "law.go:125", #[⟨11, .data⟩, ⟨9, .data⟩, ⟨12, .chain⟩, ⟨0, .phase⟩, ⟨1, .phase⟩, ⟨2, .phase⟩, ⟨3, .phase⟩, ⟨4, .phase⟩, ⟨5, .phase⟩, ⟨6, .phase⟩, ⟨7, .phase⟩, ⟨8, .phase⟩, ⟨9, .phase⟩, ⟨10, .phase⟩, ⟨11, .phase⟩, ⟨12, .phase⟩], none⟩) rfl (fun K hK => ?_) AllReadyH.nil)
                   go_simp
                   have Vy2 := (blk_set (j := 5) (blk_set (j := 4) (blk_set (j := 3) (blk_set (j := 2) (blk_set (j := 1) (blk_set (j := 0) (show x3.heap[z]? = _ from Vy) (.int .i64 u.k)) (.int .u32 u.p)) (.int .i64 u.l)) (.int .i64 u.r)) (.int .i64 u.h)) (.int .i64 u.t))
                   have Vx2 := ((Below.heap_setCell _ ⟨z, 5, none⟩ (.int .i64 u.t) sx (nexy)).trans ((Below.heap_setCell _ ⟨z, 4, none⟩ (.int .i64 u.h) sx (nexy)).trans ((Below.heap_setCell _ ⟨z, 3, none⟩ (.int .i64 u.r) sx (nexy)).trans ((Below.heap_setCell _ ⟨z, 2, none⟩ (.int .i64 u.l) sx (nexy)).trans ((Below.heap_setCell _ ⟨z, 1, none⟩ (.int .u32 u.p) sx (nexy)).trans ((Below.heap_setCell _ ⟨z, 0, none⟩ (.int .i64 u.k) sx (nexy)).trans (show x3.heap[sx]? = _ from Vx)))))))
                   have HS2 := (Below.setCell (Below.setCell (Below.setCell (Below.setCell (Below.setCell (Below.setCell HS (p := ⟨z, 0, none⟩) (show z ≤ z from gey) (.int .i64 u.k)) (p := ⟨z, 1, none⟩) (show z ≤ z from gey) (.int .u32 u.p)) (p := ⟨z, 2, none⟩) (show z ≤ z from gey) (.int .i64 u.l)) (p := ⟨z, 3, none⟩) (show z ≤ z from gey) (.int .i64 u.r)) (p := ⟨z, 4, none⟩) (show z ≤ z from gey) (.int .i64 u.h)) (p := ⟨z, 5, none⟩) (show z ≤ z from gey) (.int .i64 u.t))
                   clear cy0 fy0 cy1 fy1 cy2 fy2 cy3 fy3 cy4 fy4 cy5 fy5
                   clear Vx Vy HS hS
                   generalize ((((((x3.setCell ⟨z, 0, none⟩ (.int .i64 u.k)).setCell ⟨z, 1, none⟩ (.int .u32 u.p)).setCell ⟨z, 2, none⟩ (.int .i64 u.l)).setCell ⟨z, 3, none⟩ (.int .i64 u.r)).setCell ⟨z, 4, none⟩ (.int .i64 u.h)).setCell ⟨z, 5, none⟩ (.int .i64 u.t)) = x4 at *
                   have Vy : x4.heap[z]? = some (.cells #[.int .i64 u.k, .int .u32 u.p, .int .i64 u.l, .int .i64 u.r, .int .i64 u.h, .int .i64 u.t] 52) := Vy2
                   have Vx : x4.heap[sx]? = some (.cells #[.int .i64 r.k, .int .u32 r.p, .int .i64 r.l, .int .i64 r.r, .int .i64 r.h, .int .i64 r.t] 52) := Vx2
                   have HS := HS2
                   have hS := HS2.drew
                   clear Vx2 Vy2 HS2
                   refine Shut.out hK _ _ hS (fun _ => ?_)
                   clear hK K
                   try simp only [Act.put, List.setIfInBounds_toArray, List.set_cons_zero, List.set_cons_succ]
                   refine wpAnyH_done (by kernel_rfl) ?_ _
                   refine NoPanic.normal ?_
                   go_wp2_with fail
                   go_meet
                   exact ⟨sx, z, rfl, rfl, Lib.hid Vx, Lib.hid Vy, Lib.hid HS.drew, nexy⟩
                case rest =>
                obtain ⟨sx, sy, rfl, rfl, Vx, Vy, HS, nexy⟩ := hcut
                obtain ⟨wd, hwd⟩ : ∃ x, x = wc := ⟨_, rfl⟩
                subst hwd
                replace FR := Lib.hid (FR.out.step (BZ.out _ HS.out))
                clear c00 c01 c02 c10 c11 c12
                clear HS HZ BZ k0 k1 k2 k3 k4 k5 l0 l1 l2 l3 l4 l5 hqz hqz2 hb0 hb2 nexy a0 a1 a2 a3 i0 i1 j0 j1
                by_cases hk : r.k = u.k
                · have e1 : (r.k == u.k) = true := by simp [hk]
                  by_cases hp : r.p = u.p
                  · have e2 : (r.p == u.p) = true := by simp [hp]
                    have HX := Lib.hid (show R = (X1 && X2) by rw [HAL.out, decide_eq_true hk, decide_eq_true hp]; simp)
                    clear hk hp HAL
                    have c00 : wd.cell? ⟨q, 0, none⟩ = some (.slice (some ⟨b, off, none⟩) n c) := FR.out.cell 0 0 rfl rfl rfl
                    have c01 : wd.cell? ⟨q, 1, none⟩ = some (.int .i64 rt) := FR.out.cell 0 1 rfl rfl rfl
                    have c02 : wd.cell? ⟨q, 2, none⟩ = some (.int .i64 fr) := FR.out.cell 0 2 rfl rfl rfl
                    have c10 : wd.cell? ⟨q + 1, 0, none⟩ = some (.slice (some ⟨b2, off2, none⟩) m e) := FR.out.cell 1 0 rfl rfl rfl
                    have c11 : wd.cell? ⟨q + 1, 1, none⟩ = some (.int .i64 rt2) := FR.out.cell 1 1 rfl rfl rfl
                    have c12 : wd.cell? ⟨q + 1, 2, none⟩ = some (.int .i64 fr2) := FR.out.cell 1 2 rfl rfl rfl
                    have cx0 : wd.cell? ⟨sx, 0, none⟩ = some (.int .i64 r.k) := (blk_cell Vx.out 0).trans rfl
                    have cx1 : wd.cell? ⟨sx, 1, none⟩ = some (.int .u32 r.p) := (blk_cell Vx.out 1).trans rfl
                    have cx2 : wd.cell? ⟨sx, 2, none⟩ = some (.int .i64 r.l) := (blk_cell Vx.out 2).trans rfl
                    have cx3 : wd.cell? ⟨sx, 3, none⟩ = some (.int .i64 r.r) := (blk_cell Vx.out 3).trans rfl
                    have cx4 : wd.cell? ⟨sx, 4, none⟩ = some (.int .i64 r.h) := (blk_cell Vx.out 4).trans rfl
                    have cx5 : wd.cell? ⟨sx, 5, none⟩ = some (.int .i64 r.t) := (blk_cell Vx.out 5).trans rfl
                    have cy0 : wd.cell? ⟨sy, 0, none⟩ = some (.int .i64 u.k) := (blk_cell Vy.out 0).trans rfl
                    have cy1 : wd.cell? ⟨sy, 1, none⟩ = some (.int .u32 u.p) := (blk_cell Vy.out 1).trans rfl
                    have cy2 : wd.cell? ⟨sy, 2, none⟩ = some (.int .i64 u.l) := (blk_cell Vy.out 2).trans rfl
                    have cy3 : wd.cell? ⟨sy, 3, none⟩ = some (.int .i64 u.r) := (blk_cell Vy.out 3).trans rfl
                    have cy4 : wd.cell? ⟨sy, 4, none⟩ = some (.int .i64 u.h) := (blk_cell Vy.out 4).trans rfl
                    have cy5 : wd.cell? ⟨sy, 5, none⟩ = some (.int .i64 u.t) := (blk_cell Vy.out 5).trans rfl
                    go_wp2_with fail
                    refine ((c1.out _ (FR.out.es RX.out) (FR.out.es RY.out))).mono ?_
                    rintro e w3 ⟨rfl, hb⟩
                    clear c00 c01 c02 c10 c11 c12 cx0 cx1 cx2 cx3 cx4 cx5 cy0 cy1 cy2 cy3 cy4 cy5
                    replace FR := Lib.hid (FR.out.step hb)
                    replace Vx := Lib.hid (blk_below Vx.out hb (blk_lt Vx.out))
                    replace Vy := Lib.hid (blk_below Vy.out hb (blk_lt Vy.out))
                    clear hb
                    cases X1
                    · have HE := Lib.hid (show R = false by rw [HX.out]; rfl)
                      clear HX
                      have c00 : w3.cell? ⟨q, 0, none⟩ = some (.slice (some ⟨b, off, none⟩) n c) := FR.out.cell 0 0 rfl rfl rfl
                      have c01 : w3.cell? ⟨q, 1, none⟩ = some (.int .i64 rt) := FR.out.cell 0 1 rfl rfl rfl
                      have c02 : w3.cell? ⟨q, 2, none⟩ = some (.int .i64 fr) := FR.out.cell 0 2 rfl rfl rfl
                      have c10 : w3.cell? ⟨q + 1, 0, none⟩ = some (.slice (some ⟨b2, off2, none⟩) m e) := FR.out.cell 1 0 rfl rfl rfl
                      have c11 : w3.cell? ⟨q + 1, 1, none⟩ = some (.int .i64 rt2) := FR.out.cell 1 1 rfl rfl rfl
                      have c12 : w3.cell? ⟨q + 1, 2, none⟩ = some (.int .i64 fr2) := FR.out.cell 1 2 rfl rfl rfl
                      have cx0 : w3.cell? ⟨sx, 0, none⟩ = some (.int .i64 r.k) := (blk_cell Vx.out 0).trans rfl
                      have cx1 : w3.cell? ⟨sx, 1, none⟩ = some (.int .u32 r.p) := (blk_cell Vx.out 1).trans rfl
                      have cx2 : w3.cell? ⟨sx, 2, none⟩ = some (.int .i64 r.l) := (blk_cell Vx.out 2).trans rfl
                      have cx3 : w3.cell? ⟨sx, 3, none⟩ = some (.int .i64 r.r) := (blk_cell Vx.out 3).trans rfl
                      have cx4 : w3.cell? ⟨sx, 4, none⟩ = some (.int .i64 r.h) := (blk_cell Vx.out 4).trans rfl
                      have cx5 : w3.cell? ⟨sx, 5, none⟩ = some (.int .i64 r.t) := (blk_cell Vx.out 5).trans rfl
                      have cy0 : w3.cell? ⟨sy, 0, none⟩ = some (.int .i64 u.k) := (blk_cell Vy.out 0).trans rfl
                      have cy1 : w3.cell? ⟨sy, 1, none⟩ = some (.int .u32 u.p) := (blk_cell Vy.out 1).trans rfl
                      have cy2 : w3.cell? ⟨sy, 2, none⟩ = some (.int .i64 u.l) := (blk_cell Vy.out 2).trans rfl
                      have cy3 : w3.cell? ⟨sy, 3, none⟩ = some (.int .i64 u.r) := (blk_cell Vy.out 3).trans rfl
                      have cy4 : w3.cell? ⟨sy, 4, none⟩ = some (.int .i64 u.h) := (blk_cell Vy.out 4).trans rfl
                      have cy5 : w3.cell? ⟨sy, 5, none⟩ = some (.int .i64 u.t) := (blk_cell Vy.out 5).trans rfl
                      go_wp2
                      go_ret
                      rw [HE.out]
                      exact ⟨rfl, FR.out.out⟩
                    · have HE := Lib.hid (show R = X2 by rw [HX.out]; rfl)
                      clear HX
                      have c00 : w3.cell? ⟨q, 0, none⟩ = some (.slice (some ⟨b, off, none⟩) n c) := FR.out.cell 0 0 rfl rfl rfl
                      have c01 : w3.cell? ⟨q, 1, none⟩ = some (.int .i64 rt) := FR.out.cell 0 1 rfl rfl rfl
                      have c02 : w3.cell? ⟨q, 2, none⟩ = some (.int .i64 fr) := FR.out.cell 0 2 rfl rfl rfl
                      have c10 : w3.cell? ⟨q + 1, 0, none⟩ = some (.slice (some ⟨b2, off2, none⟩) m e) := FR.out.cell 1 0 rfl rfl rfl
                      have c11 : w3.cell? ⟨q + 1, 1, none⟩ = some (.int .i64 rt2) := FR.out.cell 1 1 rfl rfl rfl
                      have c12 : w3.cell? ⟨q + 1, 2, none⟩ = some (.int .i64 fr2) := FR.out.cell 1 2 rfl rfl rfl
                      have cx0 : w3.cell? ⟨sx, 0, none⟩ = some (.int .i64 r.k) := (blk_cell Vx.out 0).trans rfl
                      have cx1 : w3.cell? ⟨sx, 1, none⟩ = some (.int .u32 r.p) := (blk_cell Vx.out 1).trans rfl
                      have cx2 : w3.cell? ⟨sx, 2, none⟩ = some (.int .i64 r.l) := (blk_cell Vx.out 2).trans rfl
                      have cx3 : w3.cell? ⟨sx, 3, none⟩ = some (.int .i64 r.r) := (blk_cell Vx.out 3).trans rfl
                      have cx4 : w3.cell? ⟨sx, 4, none⟩ = some (.int .i64 r.h) := (blk_cell Vx.out 4).trans rfl
                      have cx5 : w3.cell? ⟨sx, 5, none⟩ = some (.int .i64 r.t) := (blk_cell Vx.out 5).trans rfl
                      have cy0 : w3.cell? ⟨sy, 0, none⟩ = some (.int .i64 u.k) := (blk_cell Vy.out 0).trans rfl
                      have cy1 : w3.cell? ⟨sy, 1, none⟩ = some (.int .u32 u.p) := (blk_cell Vy.out 1).trans rfl
                      have cy2 : w3.cell? ⟨sy, 2, none⟩ = some (.int .i64 u.l) := (blk_cell Vy.out 2).trans rfl
                      have cy3 : w3.cell? ⟨sy, 3, none⟩ = some (.int .i64 u.r) := (blk_cell Vy.out 3).trans rfl
                      have cy4 : w3.cell? ⟨sy, 4, none⟩ = some (.int .i64 u.h) := (blk_cell Vy.out 4).trans rfl
                      have cy5 : w3.cell? ⟨sy, 5, none⟩ = some (.int .i64 u.t) := (blk_cell Vy.out 5).trans rfl
                      go_wp2_with fail
                      refine ((c2.out _ (FR.out.es RX.out) (FR.out.es RY.out))).mono ?_
                      rintro e w4 ⟨rfl, hb⟩
                      clear c00 c01 c02 c10 c11 c12 cx0 cx1 cx2 cx3 cx4 cx5 cy0 cy1 cy2 cy3 cy4 cy5
                      replace FR := Lib.hid (FR.out.step hb)
                      replace Vx := Lib.hid (blk_below Vx.out hb (blk_lt Vx.out))
                      replace Vy := Lib.hid (blk_below Vy.out hb (blk_lt Vy.out))
                      clear hb
                      go_wp2
                      go_ret
                      rw [HE.out]
                      exact ⟨rfl, FR.out.out⟩
                  · have e2 : (r.p == u.p) = false := by simp [hp]
                    have HE := Lib.hid (show R = false by rw [HAL.out, decide_eq_false hp]; simp)
                    clear hk hp HAL
                    have c00 : wd.cell? ⟨q, 0, none⟩ = some (.slice (some ⟨b, off, none⟩) n c) := FR.out.cell 0 0 rfl rfl rfl
                    have c01 : wd.cell? ⟨q, 1, none⟩ = some (.int .i64 rt) := FR.out.cell 0 1 rfl rfl rfl
                    have c02 : wd.cell? ⟨q, 2, none⟩ = some (.int .i64 fr) := FR.out.cell 0 2 rfl rfl rfl
                    have c10 : wd.cell? ⟨q + 1, 0, none⟩ = some (.slice (some ⟨b2, off2, none⟩) m e) := FR.out.cell 1 0 rfl rfl rfl
                    have c11 : wd.cell? ⟨q + 1, 1, none⟩ = some (.int .i64 rt2) := FR.out.cell 1 1 rfl rfl rfl
                    have c12 : wd.cell? ⟨q + 1, 2, none⟩ = some (.int .i64 fr2) := FR.out.cell 1 2 rfl rfl rfl
                    have cx0 : wd.cell? ⟨sx, 0, none⟩ = some (.int .i64 r.k) := (blk_cell Vx.out 0).trans rfl
                    have cx1 : wd.cell? ⟨sx, 1, none⟩ = some (.int .u32 r.p) := (blk_cell Vx.out 1).trans rfl
                    have cx2 : wd.cell? ⟨sx, 2, none⟩ = some (.int .i64 r.l) := (blk_cell Vx.out 2).trans rfl
                    have cx3 : wd.cell? ⟨sx, 3, none⟩ = some (.int .i64 r.r) := (blk_cell Vx.out 3).trans rfl
                    have cx4 : wd.cell? ⟨sx, 4, none⟩ = some (.int .i64 r.h) := (blk_cell Vx.out 4).trans rfl
                    have cx5 : wd.cell? ⟨sx, 5, none⟩ = some (.int .i64 r.t) := (blk_cell Vx.out 5).trans rfl
                    have cy0 : wd.cell? ⟨sy, 0, none⟩ = some (.int .i64 u.k) := (blk_cell Vy.out 0).trans rfl
                    have cy1 : wd.cell? ⟨sy, 1, none⟩ = some (.int .u32 u.p) := (blk_cell Vy.out 1).trans rfl
                    have cy2 : wd.cell? ⟨sy, 2, none⟩ = some (.int .i64 u.l) := (blk_cell Vy.out 2).trans rfl
                    have cy3 : wd.cell? ⟨sy, 3, none⟩ = some (.int .i64 u.r) := (blk_cell Vy.out 3).trans rfl
                    have cy4 : wd.cell? ⟨sy, 4, none⟩ = some (.int .i64 u.h) := (blk_cell Vy.out 4).trans rfl
                    have cy5 : wd.cell? ⟨sy, 5, none⟩ = some (.int .i64 u.t) := (blk_cell Vy.out 5).trans rfl
                    go_wp2
                    go_ret
                    rw [HE.out]
                    exact ⟨rfl, FR.out.out⟩
                · have e1 : (r.k == u.k) = false := by simp [hk]
                  have HE := Lib.hid (show R = false by rw [HAL.out, decide_eq_false hk]; simp)
                  clear hk HAL
                  have c00 : wd.cell? ⟨q, 0, none⟩ = some (.slice (some ⟨b, off, none⟩) n c) := FR.out.cell 0 0 rfl rfl rfl
                  have c01 : wd.cell? ⟨q, 1, none⟩ = some (.int .i64 rt) := FR.out.cell 0 1 rfl rfl rfl
                  have c02 : wd.cell? ⟨q, 2, none⟩ = some (.int .i64 fr) := FR.out.cell 0 2 rfl rfl rfl
                  have c10 : wd.cell? ⟨q + 1, 0, none⟩ = some (.slice (some ⟨b2, off2, none⟩) m e) := FR.out.cell 1 0 rfl rfl rfl
                  have c11 : wd.cell? ⟨q + 1, 1, none⟩ = some (.int .i64 rt2) := FR.out.cell 1 1 rfl rfl rfl
                  have c12 : wd.cell? ⟨q + 1, 2, none⟩ = some (.int .i64 fr2) := FR.out.cell 1 2 rfl rfl rfl
                  have cx0 : wd.cell? ⟨sx, 0, none⟩ = some (.int .i64 r.k) := (blk_cell Vx.out 0).trans rfl
                  have cx1 : wd.cell? ⟨sx, 1, none⟩ = some (.int .u32 r.p) := (blk_cell Vx.out 1).trans rfl
                  have cx2 : wd.cell? ⟨sx, 2, none⟩ = some (.int .i64 r.l) := (blk_cell Vx.out 2).trans rfl
                  have cx3 : wd.cell? ⟨sx, 3, none⟩ = some (.int .i64 r.r) := (blk_cell Vx.out 3).trans rfl
                  have cx4 : wd.cell? ⟨sx, 4, none⟩ = some (.int .i64 r.h) := (blk_cell Vx.out 4).trans rfl
                  have cx5 : wd.cell? ⟨sx, 5, none⟩ = some (.int .i64 r.t) := (blk_cell Vx.out 5).trans rfl
                  have cy0 : wd.cell? ⟨sy, 0, none⟩ = some (.int .i64 u.k) := (blk_cell Vy.out 0).trans rfl
                  have cy1 : wd.cell? ⟨sy, 1, none⟩ = some (.int .u32 u.p) := (blk_cell Vy.out 1).trans rfl
                  have cy2 : wd.cell? ⟨sy, 2, none⟩ = some (.int .i64 u.l) := (blk_cell Vy.out 2).trans rfl
                  have cy3 : wd.cell? ⟨sy, 3, none⟩ = some (.int .i64 u.r) := (blk_cell Vy.out 3).trans rfl
                  have cy4 : wd.cell? ⟨sy, 4, none⟩ = some (.int .i64 u.h) := (blk_cell Vy.out 4).trans rfl
                  have cy5 : wd.cell? ⟨sy, 5, none⟩ = some (.int .i64 u.t) := (blk_cell Vy.out 5).trans rfl
                  go_wp2
                  go_ret
                  rw [HE.out]
                  exact ⟨rfl, FR.out.out⟩
end Go.Proofs.Ytfgfohomgomidaa
