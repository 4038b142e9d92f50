/- What a reader's section, and Read, answer; for bytes up to 16384. -/
import Derived.Test.YtipjbgmikbbkoaaSecC
namespace Go.Proofs.Ytipjbgmikbbkoaa
set_option linter.unusedVariables false
set_option linter.unusedSimpArgs false
open Go.RowKit

/-- a section as the answer of a method. -/
def MSec (w : World) (r : Nat) (A : Option Addr) (n c : Nat) (s : Int × List Int) (k' : Int) (e : Ending) (w' : World) : Prop :=
  ∃ A2 n2 c2, e = .returned (.agg #[.int .u8 s.1, .slice A2 n2 c2]) ∧ Bs w' A2 n2 c2 s.2 ∧ Fresh w.heap.size A2 n2 ∧ Rd w' r A n c k' ∧ w.grownBy w' (some r)
theorem secS_inv {bs : List Int} {k : Int} {s : Int × List Int} {k' : Int} (hb : ∀ b ∈ bs, 0 ≤ b ∧ b ≤ 255) (h : secS bs k = (s, k', 0)) :
    ∃ (j q : Nat) (x : Int), k = j ∧ j < q ∧ q + 4 ≤ bs.length ∧ k' = ((q + 4 : Nat) : Int) ∧ tagS bs k = (s.1, ((j + 1 : Nat) : Int), 0) ∧ bodyS bs ((j + 1 : Nat) : Int) = (s.2, (q : Int), 0) ∧ takeS bs (q : Int) 4 = (x, k', 0) ∧
      x = sumS ((bs.drop j).take (q - j)) ∧ 1 ≤ s.1 ∧ s.1 ≤ 255 := by
  by_cases h1 : (tagS bs k).2.2 = 0
  · by_cases h2 : (bodyS bs (tagS bs k).2.1).2.2 = 0
    · by_cases h3 : (takeS bs (bodyS bs (tagS bs k).2.1).2.1 4).2.2 = 0
      · by_cases h4 : (takeS bs (bodyS bs (tagS bs k).2.1).2.1 4).1 = sumS ((bs.drop k.toNat).take ((bodyS bs (tagS bs k).2.1).2.1 - k).toNat)
        · rw [secS_ok rfl h1 rfl h2 rfl h3 h4] at h
          injection h with h5 h6; injection h6 with h6 h7
          obtain ⟨j, hj, hjl, ht, t1, t2⟩ := tagS_inv hb rfl h1
          subst hj
          have e1 : (tagS bs (j : Int)).2.1 = ((j + 1 : Nat) : Int) := by rw [ht]
          have e0 : (tagS bs (j : Int)).1 = s.1 := by rw [← h5]
          rw [e1] at h2 h3 h4 h5 h6
          obtain ⟨y, m, hq, _, hm, hl, _, _⟩ := bodyS_inv (k := j + 1) hb (by omega) rfl h2
          have e2 : (bodyS bs ((j + 1 : Nat) : Int)).2.1 = ((j + 1 + m + y : Nat) : Int) := by rw [hq]
          rw [e2] at h3 h4 h6
          have e3 : takeS bs ((j + 1 + m + y : Nat) : Int) 4 = ((takeS bs ((j + 1 + m + y : Nat) : Int) 4).1, k', 0) := Prod.ext rfl (Prod.ext h6 h3)
          obtain ⟨j2, q2, e4, e5, _, _, e6, _, e7⟩ := takeS_inv e3
          have hj2 : j2 = j + 1 + m + y := by omega
          have hq2 : q2 = 4 := by omega
          subst hj2; subst hq2
          refine ⟨j, j + 1 + m + y, _, rfl, by omega, e6, e7, ?_, ?_, e3, ?_, by rw [← e0]; exact t1, by rw [← e0]; exact t2⟩
          · exact Prod.ext e0 (Prod.ext e1 h1)
          · exact Prod.ext (by rw [← h5]) (Prod.ext e2 h2)
          · rw [h4]
            have : (((j + 1 + m + y : Nat) : Int) - (j : Int)).toNat = j + 1 + m + y - j := by omega
            rw [this, Int.toNat_natCast]
        · rw [secS_sum rfl h1 rfl h2 rfl h3 h4] at h; cases h
      · rw [secS_short rfl h1 rfl h2 rfl h3] at h
        exact absurd (congrArg (·.2.2) h) h3
    · rw [secS_body rfl h1 rfl h2] at h
      exact absurd (congrArg (·.2.2) h) h2
  · rw [secS_tag rfl h1] at h
    exact absurd (congrArg (·.2.2) h) h1

theorem section_ok (r : Nat) (A : Option Addr) (n c : Nat) (bs : List Int) (k : Int) (s : Int × List Int) (k' : Int) (w : World) (hb : Bs w A n c bs) (hr : Rd w r A n c k) (hn : n ≤ 16384) (h : secS bs k = (s, k', 0)) :
    Calls Try.prog 28 #[.pointer (some ⟨r, 0, none⟩)] w (MSec w r A n c s k') := by
  obtain ⟨j, q, x, rfl, hjq, hq, hk', ht, hbd, htk, hx, s1, s2⟩ := secS_inv hb.byte h
  obtain ⟨t, body⟩ := s
  have hlen := hb.len
  have c1 := hr.cell1
  have HLR := Lib.hid hr.lt
  have T := Lib.hid (fun w h1 h2 => tag_ok r A n c bs j t _ w h1 h2 hn ht)
  have B := Lib.hid (fun w h1 h2 => body_ok r A n c bs _ body _ w h1 h2 hn hbd)
  have N := Lib.hid (fun w h1 h2 => number_ok r A n c bs q 4 x k' w h1 h2 hn htk)
  have HB := Lib.hid hb; have HR := Lib.hid hr; have HX := Lib.hid hx
  have hsm := fun w A2 c2 (h : Bs w A2 (q - j) c2 ((bs.drop j).take (q - j))) => sum_any A2 (q - j) c2 _ w h (by omega)
  have hsl : sumS ((bs.drop j).take (q - j)) ≤ 4294967295 := by unfold sumS; omega
  generalize sumS ((bs.drop j).take (q - j)) = sm at hsm hsl hx HX
  have HSM := Lib.hid hsm
  have hxw : IntKind.u64.wrap (sm : Int) = x := by rw [IntKind.wrap_u64]; omega
  clear hb hr h ht hbd htk hx hsm hsl
  have hca : ∀ o, (w.alloc o).cell? ⟨r, 1, none⟩ = some (.int .i64 (j : Int)) := fun o => (World.cell?_alloc_lt w o ⟨r, 1, none⟩ HLR.out).trans c1
  go_enter Try.func28, Try.ntmps28
  go_wp2_with fail
  have HRA := Lib.hid (HR.out.below ((Below.refl w.heap.size w).alloc (Nat.le_refl _) (.cells #[.int .u8 0, .slice none 0 0] 24)))
  refine (T.out _ (HB.out.alloc _) HRA.out).mono ?_; rintro e w1 ⟨rfl, hr1, hg1⟩
  have hres := (hg1.block w.heap.size (by simp) (by have := HLR.out; simp; omega)).trans (heap_alloc_new w _)
  have HB1 := Lib.hid ((HB.out.alloc _).grownR HRA.out hg1)
  have HR1 := Lib.hid hr1; have HG1 := Lib.hid hg1; have HRes1 := Lib.hid hres
  clear hr1 hg1 hres hca
  go_wp2_with fail
  have HRA1 := Lib.hid (HR1.out.below ((Below.refl w1.heap.size w1).alloc (Nat.le_refl _) (.cells #[.int .u8 t, .slice none 0 0] 24)))
  refine (B.out _ (HB1.out.alloc _) HRA1.out).mono ?_; rintro e w2 ⟨A2, n2, c2, rfl, hb2, hf2, hr2, hg2⟩
  have hsb := (hg2.block w1.heap.size (by simp) (by have := HR1.out.lt; simp; omega)).trans (heap_alloc_new w1 _)
  have HG12 := Lib.hid (grown_trans (grown_alloc (World.grownBy.refl w1 (some r)) _) hg2)
  have HB2 := Lib.hid hb2; have HF2 := Lib.hid hf2; have HR2 := Lib.hid hr2; have HSb2 := Lib.hid hsb
  have hc0 := cell_of_row w2 w1.heap.size 0 _ _ (0, 0) hsb
  have hz1 : w2.frozen? ⟨w1.heap.size, 1, none⟩ = false := by unfold World.frozen?; rw [hsb]; simp
  have hc1 : w2.cell? ⟨w1.heap.size, 1, none⟩ = some (.slice none 0 0) := by rw [cell_of_row w2 w1.heap.size 1 _ _ (0, 0) hsb]; rfl
  clear hb2 hf2 hr2 hg2 hsb hc0
  go_wp2_with fail
  clear hz1 hc1
  have HG13 := Lib.hid (grown_new HG12.out (Nat.le_refl _) 1 (.slice A2 n2 c2))
  have HB3 := Lib.hid (HB2.out.grownF (grown_setCell w2 w1.heap.size 1 (.slice A2 n2 c2)) (fun hn a ha => by
    obtain ⟨b, off, e1, e2⟩ := HF2.out hn
    rw [ha] at e1; injection e1 with e1; subst e1
    simp at e2 ⊢; omega))
  have HSb3 : Hid ((w2.setCell ⟨w1.heap.size, 1, none⟩ (.slice A2 n2 c2)).heap[w1.heap.size]? = some (.cells #[.int .u8 t, .slice A2 n2 c2] 24)) := by
    show _ = _
    simp only [World.setCell, Array.getElem?_modify]
    rw [if_pos trivial, HSb2.out]
    rfl
  have HR3 : Hid (Rd (w2.setCell ⟨w1.heap.size, 1, none⟩ (.slice A2 n2 c2)) r A n c q) := by
    show _ = _
    rw [Below.heap_setCell _ _ _ _ (by have := HR1.out.lt; simp only; omega)]
    exact HR2.out
  generalize w2.setCell ⟨w1.heap.size, 1, none⟩ (.slice A2 n2 c2) = w3 at *
  have HA3 := Lib.hid (HB1.out.grownR HR1.out HG13.out)
  obtain ⟨A4, c4, hsl, hb4⟩ := HA3.out.slice 22 undBytes sizeByte (j : Int) (q : Int) j (q - j) rfl (by omega) (by omega)
  have HB4 := Lib.hid hb4
  have HL := Lib.hid HR3.out.lt; have C0 := Lib.hid HR3.out.cell0; have C1 := Lib.hid HR3.out.cell1
  clear hb4
  refine wp_region_noPanic ?_
  refine wp_region_held_drew (S := (fun wv => Below w3.heap.size w3 wv)) (by kernel_rfl) ((Below.refl w3.heap.size w3).drew) (fun hS => ?_)
  refine wpAnyH_take (i := 0) (oi := ⟨some 16, .move (.tmp 0), 70, "reader.go:37", #[], none⟩) (v := ?_) rfl (by kernel_rfl) (by kernel_rfl) (by kernel_rfl) (fun _ _ _ h => h) (Or.inl ⟨by rfl, ?_⟩) hS ?_
  rotate_left
  · intro wv _; go_simp; try with_reducible rfl
  try simp only [Act.put, List.setIfInBounds_toArray, List.set_cons_zero, List.set_cons_succ]
  refine wpAnyH_take (i := 1) (oi := ⟨some 17, .nilCheck (.tmp 16), 0, "reader.go:37", #[⟨0, .data⟩], none⟩) (v := ?_) rfl (by kernel_rfl) (by kernel_rfl) (by kernel_rfl) (fun _ _ _ h => h) (Or.inl ⟨by rfl, ?_⟩) hS ?_
  rotate_left
  · intro wv _; go_simp; try with_reducible rfl
  try simp only [Act.put, List.setIfInBounds_toArray, List.set_cons_zero, List.set_cons_succ]
  refine wpAnyH_take (i := 2) (oi := ⟨some 18, .fieldAddr 54 (.tmp 17) 0, 0, "reader.go:37", #[⟨1, .data⟩], none⟩) (v := ?_) rfl (by kernel_rfl) (by kernel_rfl) (by kernel_rfl) (fun _ _ _ h => h) (Or.inl ⟨by rfl, ?_⟩) hS ?_
  rotate_left
  · intro wv _; go_simp; try with_reducible rfl
  try simp only [Act.put, List.setIfInBounds_toArray, List.set_cons_zero, List.set_cons_succ]
  refine wpAnyH_take (i := 3) (oi := ⟨some 19, .load 22 (.tmp 18), 22, "reader.go:37", #[⟨2, .data⟩], none⟩) (v := ?_) rfl (by kernel_rfl) (by kernel_rfl) (by kernel_rfl) (fun _ _ _ h => h) (Or.inl ⟨by rfl, ?_⟩) hS ?_
  rotate_left
  · intro wv hS; have hrun := (hS.cell (p := ⟨_, _, none⟩) HL.out).trans C0.out; go_simp; try with_reducible rfl
  try simp only [Act.put, List.setIfInBounds_toArray, List.set_cons_zero, List.set_cons_succ]
  refine wpAnyH_take (i := 4) (oi := ⟨some 20, .move (.tmp 3), 3, "reader.go:37", #[], none⟩) (v := ?_) rfl (by kernel_rfl) (by kernel_rfl) (by kernel_rfl) (fun _ _ _ h => h) (Or.inl ⟨by rfl, ?_⟩) hS ?_
  rotate_left
  · intro wv _; go_simp; try with_reducible rfl
  try simp only [Act.put, List.setIfInBounds_toArray, List.set_cons_zero, List.set_cons_succ]
  refine wpAnyH_take (i := 5) (oi := ⟨some 21, .move (.tmp 0), 70, "reader.go:37", #[], none⟩) (v := ?_) rfl (by kernel_rfl) (by kernel_rfl) (by kernel_rfl) (fun _ _ _ h => h) (Or.inl ⟨by rfl, ?_⟩) hS ?_
  rotate_left
  · intro wv _; go_simp; try with_reducible rfl
  try simp only [Act.put, List.setIfInBounds_toArray, List.set_cons_zero, List.set_cons_succ]
  refine wpAnyH_take (i := 6) (oi := ⟨some 22, .nilCheck (.tmp 21), 0, "reader.go:37", #[⟨5, .data⟩], none⟩) (v := ?_) rfl (by kernel_rfl) (by kernel_rfl) (by kernel_rfl) (fun _ _ _ h => h) (Or.inl ⟨by rfl, ?_⟩) hS ?_
  rotate_left
  · intro wv _; go_simp; try with_reducible rfl
  try simp only [Act.put, List.setIfInBounds_toArray, List.set_cons_zero, List.set_cons_succ]
  refine wpAnyH_take (i := 7) (oi := ⟨some 23, .fieldAddr 54 (.tmp 22) 1, 0, "reader.go:37", #[⟨6, .data⟩], none⟩) (v := ?_) rfl (by kernel_rfl) (by kernel_rfl) (by kernel_rfl) (fun _ _ _ h => h) (Or.inl ⟨by rfl, ?_⟩) hS ?_
  rotate_left
  · intro wv _; go_simp; try with_reducible rfl
  try simp only [Act.put, List.setIfInBounds_toArray, List.set_cons_zero, List.set_cons_succ]
  refine wpAnyH_take (i := 8) (oi := ⟨some 24, .load 3 (.tmp 23), 3, "reader.go:37", #[⟨7, .data⟩], none⟩) (v := ?_) rfl (by kernel_rfl) (by kernel_rfl) (by kernel_rfl) (fun _ _ _ h => h) (Or.inl ⟨by rfl, ?_⟩) hS ?_
  rotate_left
  · intro wv hS; have hrun := (hS.cell (p := ⟨_, _, none⟩) HL.out).trans C1.out; go_simp; try with_reducible rfl
  try simp only [Act.put, List.setIfInBounds_toArray, List.set_cons_zero, List.set_cons_succ]
  refine wpAnyH_take (i := 9) (oi := ⟨some 25, .slice 22 (.tmp 19) (some (.tmp 20)) (some (.tmp 24)) none, 22, "reader.go:37", #[⟨3, .data⟩, ⟨4, .data⟩, ⟨8, .data⟩], none⟩) (v := ?_) rfl (by kernel_rfl) (by kernel_rfl) (by kernel_rfl) (fun _ _ _ h => h) (Or.inl ⟨by rfl, ?_⟩) hS ?_
  rotate_left
  · intro wv _; go_simp; try with_reducible rfl
  try simp only [Act.put, List.setIfInBounds_toArray, List.set_cons_zero, List.set_cons_succ]
  refine wpAnyH_ready (rs := [10]) (by kernel_rfl) (by simp) (AllReadyH.cons (o := ⟨some 26, .call { callee := .value (.func 37), args := #[.tmp 25], argTypes := #[22] }, 51, "reader.go:37", #[⟨9, .data⟩], none⟩) rfl (fun K hK => ?_) AllReadyH.nil)
  go_simp
  refine (HSM.out _ _ _ (HB4.out.below hS)).mono ?_; rintro e w4 ⟨rfl, hw4⟩
  have HW4 := Lib.hid (hS.trans (hw4.mono hS.size))
  replace hS := hS.trans (hw4.mono hS.size)
  clear hw4
  go_wp2_with fail
  refine Shut.out hK _ _ hS (fun _ => ?_)
  clear hK K
  try simp only [Act.put, List.setIfInBounds_toArray, List.set_cons_zero, List.set_cons_succ]
  refine wpAnyH_take (i := 11) (oi := ⟨some 5, .assign (.tmp 26), 51, "reader.go:37", #[⟨10, .data⟩, ⟨10, .chain⟩, ⟨0, .phase⟩, ⟨1, .phase⟩, ⟨2, .phase⟩, ⟨3, .phase⟩, ⟨4, .phase⟩, ⟨5, .phase⟩, ⟨6, .phase⟩, ⟨7, .phase⟩, ⟨8, .phase⟩, ⟨9, .phase⟩, ⟨10, .phase⟩], none⟩) (v := ?_) rfl (by kernel_rfl) (by kernel_rfl) (by kernel_rfl) (fun _ _ _ h => h) (Or.inl ⟨by rfl, ?_⟩) hS ?_
  rotate_left
  · intro wv _; go_simp; try with_reducible rfl
  try simp only [Act.put, List.setIfInBounds_toArray, List.set_cons_zero, List.set_cons_succ]
  refine wpAnyH_done (by kernel_rfl) ?_ _
  refine NoPanic.normal ?_
  go_wp2_with fail
  have HR4 := Lib.hid (HR3.out.below HW4.out)
  refine (N.out _ (HA3.out.below HW4.out) HR4.out).mono ?_; rintro e w5 ⟨rfl, hr5, hg5⟩
  have HR5 := Lib.hid hr5
  have HG15 := Lib.hid (grown_trans HG13.out (grown_trans (grown_below HW4.out) hg5))
  have HB5 := Lib.hid ((HB3.out.below HW4.out).grownR HR4.out hg5)
  have hs5 : w5.heap[w1.heap.size]? = some (.cells #[.int .u8 t, .slice A2 n2 c2] 24) :=
    (hg5.block w1.heap.size (by have h1 := Array.getElem?_eq_some_iff.1 HSb3.out; have h2 := HW4.out.size; obtain ⟨h1, _⟩ := h1; omega) (by have := HR1.out.lt; simp; omega)).trans ((HW4.out.block _ (by have h1 := Array.getElem?_eq_some_iff.1 HSb3.out; obtain ⟨h1, _⟩ := h1; omega)).trans HSb3.out)
  have hq5 : w5.heap[w.heap.size]? = some (.cells #[.int .u8 0, .slice none 0 0] 24) :=
    (HG15.out.block w.heap.size (by have h1 := Array.getElem?_eq_some_iff.1 HRes1.out; obtain ⟨h1, _⟩ := h1; omega) (by have := HLR.out; simp; omega)).trans HRes1.out
  have hs0 : w5.cell? ⟨w1.heap.size, 0, none⟩ = some (.int .u8 t) := by rw [cell_of_row w5 _ 0 _ _ (0, 0) hs5]; rfl
  have hs1 : w5.cell? ⟨w1.heap.size, 1, none⟩ = some (.slice A2 n2 c2) := by rw [cell_of_row w5 _ 1 _ _ (0, 0) hs5]; rfl
  have hq0 : w5.cell? ⟨w.heap.size, 0, none⟩ = some (.int .u8 0) := by rw [cell_of_row w5 _ 0 _ _ (0, 0) hq5]; rfl
  have hq1 : w5.cell? ⟨w.heap.size, 1, none⟩ = some (.slice none 0 0) := by rw [cell_of_row w5 _ 1 _ _ (0, 0) hq5]; rfl
  have hz0 : w5.frozen? ⟨w.heap.size, 0, none⟩ = false := by unfold World.frozen?; rw [hq5]; simp
  have hz1 : w5.frozen? ⟨w.heap.size, 1, none⟩ = false := by unfold World.frozen?; rw [hq5]; simp
  have HQ5 := Lib.hid hq5
  clear hr5 hg5 hs5 hq5 hsl
  go_wp2_with fail
  have hp := heap_pair HQ5.out (.int .u8 t) (.slice A2 n2 c2)
  have hrl := HLR.out
  have hg6 := grown_new (grown_new (w := w) (row := some r) (grown_trans (grown_alloc (World.grownBy.refl w (some r)) _) (grown_trans HG1.out HG15.out)) (Nat.le_refl _) 0 (.int .u8 t)) (Nat.le_refl _) 1 (.slice A2 n2 c2)
  refine bodyPost_ret (results_cell1 Try.results28 (by rfl) (load_sec hp)) rfl ?_
  refine ⟨A2, n2, c2, rfl, ?_, ?_, ?_, hg6⟩
  · have hw1 : w.heap.size ≤ w1.heap.size := by have := HG1.out.size; simp at this; omega
    have hne : ∀ (hn : 0 < n2) a, A2 = some a → some a.block ≠ some w.heap.size := fun hn a ha => by
      obtain ⟨b, off, e1, e2⟩ := HF2.out hn
      rw [ha] at e1; injection e1 with e1; subst e1
      simp at e2 ⊢; omega
    exact (HB5.out.grownF (grown_setCell w5 w.heap.size 0 _) hne).grownF (grown_setCell _ w.heap.size 1 _) hne
  · exact HF2.out.mono (by have := HG1.out.size; simp at this ⊢; omega)
  · show _ = _
    rw [Below.heap_setCell _ _ _ _ (by simp only; omega), Below.heap_setCell _ _ _ _ (by simp only; omega)]
    exact HR5.out


theorem sec_err1 (r : Nat) (A : Option Addr) (n c : Nat) (bs : List Int) (k : Int) (p : Int × Int × Int) (w : World) (hb : Bs w A n c bs) (hr : Rd w r A n c k) (hn : n ≤ 16384) (h : tagS bs k = p) (he : p.2.2 ≠ 0) :
    Calls Try.prog 28 #[.pointer (some ⟨r, 0, none⟩)] w fun e w' => e = .panicked [PE p.2.2] ∧ w.grownBy w' (some r) := by
  have c1 := hr.cell1
  have HLR := Lib.hid hr.lt
  have hca : ∀ o, (w.alloc o).cell? ⟨r, 1, none⟩ = some (.int .i64 k) := fun o => (World.cell?_alloc_lt w o ⟨r, 1, none⟩ HLR.out).trans c1
  have HB := Lib.hid hb; have HR := Lib.hid hr
  have T := Lib.hid (fun w h1 h2 => tag_err r A n c bs k p w h1 h2 hn h he)
  clear hb hr h he
  go_enter Try.func28, Try.ntmps28
  go_wp2_with fail
  have HRA := Lib.hid (HR.out.below ((Below.refl w.heap.size w).alloc (Nat.le_refl _) (.cells #[.int .u8 0, .slice none 0 0] 24)))
  refine (T.out _ (HB.out.alloc _) HRA.out).mono ?_; rintro e w1 ⟨rfl, hg1⟩
  have HG1 := Lib.hid hg1
  clear hg1 hca
  go_wp2_with fail
  exact ⟨rfl, rfl, grown_trans (grown_alloc (World.grownBy.refl w (some r)) _) HG1.out⟩
theorem sec_err2 (r : Nat) (A : Option Addr) (n c : Nat) (bs : List Int) (j : Nat) (t k1 : Int) (p : List Int × Int × Int) (w : World) (hb : Bs w A n c bs) (hr : Rd w r A n c j) (hn : n ≤ 16384) (ht : tagS bs j = (t, k1, 0)) (h : bodyS bs k1 = p) (he : p.2.2 ≠ 0) :
    Calls Try.prog 28 #[.pointer (some ⟨r, 0, none⟩)] w fun e w' => e = .panicked [PE p.2.2] ∧ w.grownBy w' (some r) := by
  have c1 := hr.cell1
  have HLR := Lib.hid hr.lt
  have hca : ∀ o, (w.alloc o).cell? ⟨r, 1, none⟩ = some (.int .i64 (j : Int)) := fun o => (World.cell?_alloc_lt w o ⟨r, 1, none⟩ HLR.out).trans c1
  have HB := Lib.hid hb; have HR := Lib.hid hr
  have T := Lib.hid (fun w h1 h2 => tag_ok r A n c bs j t _ w h1 h2 hn ht)
  have B := Lib.hid (fun w h1 h2 => body_err r A n c bs k1 p w h1 h2 hn h he)
  clear hb hr h he ht
  go_enter Try.func28, Try.ntmps28
  go_wp2_with fail
  have HRA := Lib.hid (HR.out.below ((Below.refl w.heap.size w).alloc (Nat.le_refl _) (.cells #[.int .u8 0, .slice none 0 0] 24)))
  refine (T.out _ (HB.out.alloc _) HRA.out).mono ?_; rintro e w1 ⟨rfl, hr1, hg1⟩
  have hres := (hg1.block w.heap.size (by simp) (by have := HLR.out; simp; omega)).trans (heap_alloc_new w _)
  have HB1 := Lib.hid ((HB.out.alloc _).grownR HRA.out hg1)
  have HR1 := Lib.hid hr1; have HG1 := Lib.hid hg1; have HRes1 := Lib.hid hres
  clear hr1 hg1 hres hca
  go_wp2_with fail
  have HRA1 := Lib.hid (HR1.out.below ((Below.refl w1.heap.size w1).alloc (Nat.le_refl _) (.cells #[.int .u8 t, .slice none 0 0] 24)))
  refine (B.out _ (HB1.out.alloc _) HRA1.out).mono ?_; rintro e w2 ⟨rfl, hg2⟩
  have HG2 := Lib.hid hg2
  clear hg2
  go_wp2_with fail
  exact ⟨rfl, rfl, grown_trans (grown_alloc (World.grownBy.refl w (some r)) _) (grown_trans HG1.out (grown_trans (grown_alloc (World.grownBy.refl w1 (some r)) _) HG2.out))⟩
theorem sec_err3 (r : Nat) (A : Option Addr) (n c : Nat) (bs : List Int) (j q : Nat) (t : Int) (body : List Int) (p : Int × Int × Int) (w : World) (hb : Bs w A n c bs) (hr : Rd w r A n c j) (hn : n ≤ 16384)
    (ht : tagS bs j = (t, ((j + 1 : Nat) : Int), 0)) (hbd : bodyS bs ((j + 1 : Nat) : Int) = (body, (q : Int), 0)) (hjq : j ≤ q) (hq : q ≤ bs.length) (h : takeS bs q 4 = p) (he : p.2.2 ≠ 0) :
    Calls Try.prog 28 #[.pointer (some ⟨r, 0, none⟩)] w fun e w' => e = .panicked [PE p.2.2] ∧ w.grownBy w' (some r) := by
  have hlen := hb.len
  have c1 := hr.cell1
  have HLR := Lib.hid hr.lt
  have hca : ∀ o, (w.alloc o).cell? ⟨r, 1, none⟩ = some (.int .i64 (j : Int)) := fun o => (World.cell?_alloc_lt w o ⟨r, 1, none⟩ HLR.out).trans c1
  have HB := Lib.hid hb; have HR := Lib.hid hr
  have T := Lib.hid (fun w h1 h2 => tag_ok r A n c bs j t _ w h1 h2 hn ht)
  have B := Lib.hid (fun w h1 h2 => body_ok r A n c bs _ body _ w h1 h2 hn hbd)
  have N := Lib.hid (fun w h1 h2 => number_err r A n c bs q 4 p w h1 h2 hn h he)
  have hsm := fun w A2 c2 (h : Bs w A2 (q - j) c2 ((bs.drop j).take (q - j))) => sum_any A2 (q - j) c2 _ w h (by omega)
  have hsl : sumS ((bs.drop j).take (q - j)) ≤ 4294967295 := by unfold sumS; omega
  generalize sumS ((bs.drop j).take (q - j)) = sm at hsm hsl
  have HSM := Lib.hid hsm
  have hxw : IntKind.u64.wrap (sm : Int) = sm := by rw [IntKind.wrap_u64]; omega
  clear hb hr ht hbd h he hsm hsl
  go_enter Try.func28, Try.ntmps28
  go_wp2_with fail
  have HRA := Lib.hid (HR.out.below ((Below.refl w.heap.size w).alloc (Nat.le_refl _) (.cells #[.int .u8 0, .slice none 0 0] 24)))
  refine (T.out _ (HB.out.alloc _) HRA.out).mono ?_; rintro e w1 ⟨rfl, hr1, hg1⟩
  have hres := (hg1.block w.heap.size (by simp) (by have := HLR.out; simp; omega)).trans (heap_alloc_new w _)
  have HB1 := Lib.hid ((HB.out.alloc _).grownR HRA.out hg1)
  have HR1 := Lib.hid hr1; have HG1 := Lib.hid hg1; have HRes1 := Lib.hid hres
  clear hr1 hg1 hres hca
  go_wp2_with fail
  have HRA1 := Lib.hid (HR1.out.below ((Below.refl w1.heap.size w1).alloc (Nat.le_refl _) (.cells #[.int .u8 t, .slice none 0 0] 24)))
  refine (B.out _ (HB1.out.alloc _) HRA1.out).mono ?_; rintro e w2 ⟨A2, n2, c2, rfl, hb2, hf2, hr2, hg2⟩
  have hsb := (hg2.block w1.heap.size (by simp) (by have := HR1.out.lt; simp; omega)).trans (heap_alloc_new w1 _)
  have HG12 := Lib.hid (grown_trans (grown_alloc (World.grownBy.refl w1 (some r)) _) hg2)
  have HB2 := Lib.hid hb2; have HF2 := Lib.hid hf2; have HR2 := Lib.hid hr2; have HSb2 := Lib.hid hsb
  have hc0 := cell_of_row w2 w1.heap.size 0 _ _ (0, 0) hsb
  have hz1 : w2.frozen? ⟨w1.heap.size, 1, none⟩ = false := by unfold World.frozen?; rw [hsb]; simp
  have hc1 : w2.cell? ⟨w1.heap.size, 1, none⟩ = some (.slice none 0 0) := by rw [cell_of_row w2 w1.heap.size 1 _ _ (0, 0) hsb]; rfl
  clear hb2 hf2 hr2 hg2 hsb hc0
  go_wp2_with fail
  clear hz1 hc1
  have HG13 := Lib.hid (grown_new HG12.out (Nat.le_refl _) 1 (.slice A2 n2 c2))
  have HB3 := Lib.hid (HB2.out.grownF (grown_setCell w2 w1.heap.size 1 (.slice A2 n2 c2)) (fun hn a ha => by
    obtain ⟨b, off, e1, e2⟩ := HF2.out hn
    rw [ha] at e1; injection e1 with e1; subst e1
    simp at e2 ⊢; omega))
  have HSb3 : Hid ((w2.setCell ⟨w1.heap.size, 1, none⟩ (.slice A2 n2 c2)).heap[w1.heap.size]? = some (.cells #[.int .u8 t, .slice A2 n2 c2] 24)) := by
    show _ = _
    simp only [World.setCell, Array.getElem?_modify]
    rw [if_pos trivial, HSb2.out]
    rfl
  have HR3 : Hid (Rd (w2.setCell ⟨w1.heap.size, 1, none⟩ (.slice A2 n2 c2)) r A n c q) := by
    show _ = _
    rw [Below.heap_setCell _ _ _ _ (by have := HR1.out.lt; simp only; omega)]
    exact HR2.out
  generalize w2.setCell ⟨w1.heap.size, 1, none⟩ (.slice A2 n2 c2) = w3 at *
  have HA3 := Lib.hid (HB1.out.grownR HR1.out HG13.out)
  obtain ⟨A4, c4, hsl, hb4⟩ := HA3.out.slice 22 undBytes sizeByte (j : Int) (q : Int) j (q - j) rfl (by omega) (by omega)
  have HB4 := Lib.hid hb4
  have HL := Lib.hid HR3.out.lt; have C0 := Lib.hid HR3.out.cell0; have C1 := Lib.hid HR3.out.cell1
  clear hb4
  refine wp_region_noPanic ?_
  refine wp_region_held_drew (S := (fun wv => Below w3.heap.size w3 wv)) (by kernel_rfl) ((Below.refl w3.heap.size w3).drew) (fun hS => ?_)
  refine wpAnyH_take (i := 0) (oi := ⟨some 16, .move (.tmp 0), 70, "reader.go:37", #[], none⟩) (v := ?_) rfl (by kernel_rfl) (by kernel_rfl) (by kernel_rfl) (fun _ _ _ h => h) (Or.inl ⟨by rfl, ?_⟩) hS ?_
  rotate_left
  · intro wv _; go_simp; try with_reducible rfl
  try simp only [Act.put, List.setIfInBounds_toArray, List.set_cons_zero, List.set_cons_succ]
  refine wpAnyH_take (i := 1) (oi := ⟨some 17, .nilCheck (.tmp 16), 0, "reader.go:37", #[⟨0, .data⟩], none⟩) (v := ?_) rfl (by kernel_rfl) (by kernel_rfl) (by kernel_rfl) (fun _ _ _ h => h) (Or.inl ⟨by rfl, ?_⟩) hS ?_
  rotate_left
  · intro wv _; go_simp; try with_reducible rfl
  try simp only [Act.put, List.setIfInBounds_toArray, List.set_cons_zero, List.set_cons_succ]
  refine wpAnyH_take (i := 2) (oi := ⟨some 18, .fieldAddr 54 (.tmp 17) 0, 0, "reader.go:37", #[⟨1, .data⟩], none⟩) (v := ?_) rfl (by kernel_rfl) (by kernel_rfl) (by kernel_rfl) (fun _ _ _ h => h) (Or.inl ⟨by rfl, ?_⟩) hS ?_
  rotate_left
  · intro wv _; go_simp; try with_reducible rfl
  try simp only [Act.put, List.setIfInBounds_toArray, List.set_cons_zero, List.set_cons_succ]
  refine wpAnyH_take (i := 3) (oi := ⟨some 19, .load 22 (.tmp 18), 22, "reader.go:37", #[⟨2, .data⟩], none⟩) (v := ?_) rfl (by kernel_rfl) (by kernel_rfl) (by kernel_rfl) (fun _ _ _ h => h) (Or.inl ⟨by rfl, ?_⟩) hS ?_
  rotate_left
  · intro wv hS; have hrun := (hS.cell (p := ⟨_, _, none⟩) HL.out).trans C0.out; go_simp; try with_reducible rfl
  try simp only [Act.put, List.setIfInBounds_toArray, List.set_cons_zero, List.set_cons_succ]
  refine wpAnyH_take (i := 4) (oi := ⟨some 20, .move (.tmp 3), 3, "reader.go:37", #[], none⟩) (v := ?_) rfl (by kernel_rfl) (by kernel_rfl) (by kernel_rfl) (fun _ _ _ h => h) (Or.inl ⟨by rfl, ?_⟩) hS ?_
  rotate_left
  · intro wv _; go_simp; try with_reducible rfl
  try simp only [Act.put, List.setIfInBounds_toArray, List.set_cons_zero, List.set_cons_succ]
  refine wpAnyH_take (i := 5) (oi := ⟨some 21, .move (.tmp 0), 70, "reader.go:37", #[], none⟩) (v := ?_) rfl (by kernel_rfl) (by kernel_rfl) (by kernel_rfl) (fun _ _ _ h => h) (Or.inl ⟨by rfl, ?_⟩) hS ?_
  rotate_left
  · intro wv _; go_simp; try with_reducible rfl
  try simp only [Act.put, List.setIfInBounds_toArray, List.set_cons_zero, List.set_cons_succ]
  refine wpAnyH_take (i := 6) (oi := ⟨some 22, .nilCheck (.tmp 21), 0, "reader.go:37", #[⟨5, .data⟩], none⟩) (v := ?_) rfl (by kernel_rfl) (by kernel_rfl) (by kernel_rfl) (fun _ _ _ h => h) (Or.inl ⟨by rfl, ?_⟩) hS ?_
  rotate_left
  · intro wv _; go_simp; try with_reducible rfl
  try simp only [Act.put, List.setIfInBounds_toArray, List.set_cons_zero, List.set_cons_succ]
  refine wpAnyH_take (i := 7) (oi := ⟨some 23, .fieldAddr 54 (.tmp 22) 1, 0, "reader.go:37", #[⟨6, .data⟩], none⟩) (v := ?_) rfl (by kernel_rfl) (by kernel_rfl) (by kernel_rfl) (fun _ _ _ h => h) (Or.inl ⟨by rfl, ?_⟩) hS ?_
  rotate_left
  · intro wv _; go_simp; try with_reducible rfl
  try simp only [Act.put, List.setIfInBounds_toArray, List.set_cons_zero, List.set_cons_succ]
  refine wpAnyH_take (i := 8) (oi := ⟨some 24, .load 3 (.tmp 23), 3, "reader.go:37", #[⟨7, .data⟩], none⟩) (v := ?_) rfl (by kernel_rfl) (by kernel_rfl) (by kernel_rfl) (fun _ _ _ h => h) (Or.inl ⟨by rfl, ?_⟩) hS ?_
  rotate_left
  · intro wv hS; have hrun := (hS.cell (p := ⟨_, _, none⟩) HL.out).trans C1.out; go_simp; try with_reducible rfl
  try simp only [Act.put, List.setIfInBounds_toArray, List.set_cons_zero, List.set_cons_succ]
  refine wpAnyH_take (i := 9) (oi := ⟨some 25, .slice 22 (.tmp 19) (some (.tmp 20)) (some (.tmp 24)) none, 22, "reader.go:37", #[⟨3, .data⟩, ⟨4, .data⟩, ⟨8, .data⟩], none⟩) (v := ?_) rfl (by kernel_rfl) (by kernel_rfl) (by kernel_rfl) (fun _ _ _ h => h) (Or.inl ⟨by rfl, ?_⟩) hS ?_
  rotate_left
  · intro wv _; go_simp; try with_reducible rfl
  try simp only [Act.put, List.setIfInBounds_toArray, List.set_cons_zero, List.set_cons_succ]
  refine wpAnyH_ready (rs := [10]) (by kernel_rfl) (by simp) (AllReadyH.cons (o := ⟨some 26, .call { callee := .value (.func 37), args := #[.tmp 25], argTypes := #[22] }, 51, "reader.go:37", #[⟨9, .data⟩], none⟩) rfl (fun K hK => ?_) AllReadyH.nil)
  go_simp
  refine (HSM.out _ _ _ (HB4.out.below hS)).mono ?_; rintro e w4 ⟨rfl, hw4⟩
  have HW4 := Lib.hid (hS.trans (hw4.mono hS.size))
  replace hS := hS.trans (hw4.mono hS.size)
  clear hw4
  go_wp2_with fail
  refine Shut.out hK _ _ hS (fun _ => ?_)
  clear hK K
  try simp only [Act.put, List.setIfInBounds_toArray, List.set_cons_zero, List.set_cons_succ]
  refine wpAnyH_take (i := 11) (oi := ⟨some 5, .assign (.tmp 26), 51, "reader.go:37", #[⟨10, .data⟩, ⟨10, .chain⟩, ⟨0, .phase⟩, ⟨1, .phase⟩, ⟨2, .phase⟩, ⟨3, .phase⟩, ⟨4, .phase⟩, ⟨5, .phase⟩, ⟨6, .phase⟩, ⟨7, .phase⟩, ⟨8, .phase⟩, ⟨9, .phase⟩, ⟨10, .phase⟩], none⟩) (v := ?_) rfl (by kernel_rfl) (by kernel_rfl) (by kernel_rfl) (fun _ _ _ h => h) (Or.inl ⟨by rfl, ?_⟩) hS ?_
  rotate_left
  · intro wv _; go_simp; try with_reducible rfl
  try simp only [Act.put, List.setIfInBounds_toArray, List.set_cons_zero, List.set_cons_succ]
  refine wpAnyH_done (by kernel_rfl) ?_ _
  refine NoPanic.normal ?_
  go_wp2_with fail
  have HR4 := Lib.hid (HR3.out.below HW4.out)
  refine (N.out _ (HA3.out.below HW4.out) HR4.out).mono ?_; rintro e w5 ⟨rfl, hg5⟩
  have HG5 := Lib.hid hg5
  clear hg5 hsl
  go_wp2_with fail
  exact ⟨rfl, rfl, grown_trans (grown_alloc (World.grownBy.refl w (some r)) _) (grown_trans HG1.out (grown_trans HG13.out (grown_trans (grown_below HW4.out) HG5.out)))⟩
theorem sec_err4 (r : Nat) (A : Option Addr) (n c : Nat) (bs : List Int) (j q : Nat) (t x k' : Int) (body : List Int) (w : World) (hb : Bs w A n c bs) (hr : Rd w r A n c j) (hn : n ≤ 16384)
    (ht : tagS bs j = (t, ((j + 1 : Nat) : Int), 0)) (hbd : bodyS bs ((j + 1 : Nat) : Int) = (body, (q : Int), 0)) (hjq : j ≤ q) (hq : q ≤ bs.length) (h : takeS bs q 4 = (x, k', 0)) (he : x ≠ sumS ((bs.drop j).take (q - j))) :
    Calls Try.prog 28 #[.pointer (some ⟨r, 0, none⟩)] w fun e w' => e = .panicked [PE 5] ∧ w.grownBy w' (some r) := by
  have hlen := hb.len
  have c1 := hr.cell1
  have HLR := Lib.hid hr.lt
  have hca : ∀ o, (w.alloc o).cell? ⟨r, 1, none⟩ = some (.int .i64 (j : Int)) := fun o => (World.cell?_alloc_lt w o ⟨r, 1, none⟩ HLR.out).trans c1
  have HB := Lib.hid hb; have HR := Lib.hid hr
  have T := Lib.hid (fun w h1 h2 => tag_ok r A n c bs j t _ w h1 h2 hn ht)
  have B := Lib.hid (fun w h1 h2 => body_ok r A n c bs _ body _ w h1 h2 hn hbd)
  have N := Lib.hid (fun w h1 h2 => number_ok r A n c bs q 4 x k' w h1 h2 hn h)
  have hsm := fun w A2 c2 (h : Bs w A2 (q - j) c2 ((bs.drop j).take (q - j))) => sum_any A2 (q - j) c2 _ w h (by omega)
  have hsl : sumS ((bs.drop j).take (q - j)) ≤ 4294967295 := by unfold sumS; omega
  generalize sumS ((bs.drop j).take (q - j)) = sm at hsm hsl he
  have HSM := Lib.hid hsm
  have hxw : IntKind.u64.wrap (sm : Int) = sm := by rw [IntKind.wrap_u64]; omega
  obtain ⟨y, hy⟩ : ∃ y : Int, y = (sm : Int) := ⟨_, rfl⟩
  rw [← hy] at hxw he
  have hd : (x != y) = true := by simpa using he
  have HY := Lib.hid hy
  clear hb hr ht hbd h he hsm hsl
  go_enter Try.func28, Try.ntmps28
  go_wp2_with fail
  have HRA := Lib.hid (HR.out.below ((Below.refl w.heap.size w).alloc (Nat.le_refl _) (.cells #[.int .u8 0, .slice none 0 0] 24)))
  refine (T.out _ (HB.out.alloc _) HRA.out).mono ?_; rintro e w1 ⟨rfl, hr1, hg1⟩
  have hres := (hg1.block w.heap.size (by simp) (by have := HLR.out; simp; omega)).trans (heap_alloc_new w _)
  have HB1 := Lib.hid ((HB.out.alloc _).grownR HRA.out hg1)
  have HR1 := Lib.hid hr1; have HG1 := Lib.hid hg1; have HRes1 := Lib.hid hres
  clear hr1 hg1 hres hca
  go_wp2_with fail
  have HRA1 := Lib.hid (HR1.out.below ((Below.refl w1.heap.size w1).alloc (Nat.le_refl _) (.cells #[.int .u8 t, .slice none 0 0] 24)))
  refine (B.out _ (HB1.out.alloc _) HRA1.out).mono ?_; rintro e w2 ⟨A2, n2, c2, rfl, hb2, hf2, hr2, hg2⟩
  have hsb := (hg2.block w1.heap.size (by simp) (by have := HR1.out.lt; simp; omega)).trans (heap_alloc_new w1 _)
  have HG12 := Lib.hid (grown_trans (grown_alloc (World.grownBy.refl w1 (some r)) _) hg2)
  have HB2 := Lib.hid hb2; have HF2 := Lib.hid hf2; have HR2 := Lib.hid hr2; have HSb2 := Lib.hid hsb
  have hc0 := cell_of_row w2 w1.heap.size 0 _ _ (0, 0) hsb
  have hz1 : w2.frozen? ⟨w1.heap.size, 1, none⟩ = false := by unfold World.frozen?; rw [hsb]; simp
  have hc1 : w2.cell? ⟨w1.heap.size, 1, none⟩ = some (.slice none 0 0) := by rw [cell_of_row w2 w1.heap.size 1 _ _ (0, 0) hsb]; rfl
  clear hb2 hf2 hr2 hg2 hsb hc0
  go_wp2_with fail
  clear hz1 hc1
  have HG13 := Lib.hid (grown_new HG12.out (Nat.le_refl _) 1 (.slice A2 n2 c2))
  have HB3 := Lib.hid (HB2.out.grownF (grown_setCell w2 w1.heap.size 1 (.slice A2 n2 c2)) (fun hn a ha => by
    obtain ⟨b, off, e1, e2⟩ := HF2.out hn
    rw [ha] at e1; injection e1 with e1; subst e1
    simp at e2 ⊢; omega))
  have HSb3 : Hid ((w2.setCell ⟨w1.heap.size, 1, none⟩ (.slice A2 n2 c2)).heap[w1.heap.size]? = some (.cells #[.int .u8 t, .slice A2 n2 c2] 24)) := by
    show _ = _
    simp only [World.setCell, Array.getElem?_modify]
    rw [if_pos trivial, HSb2.out]
    rfl
  have HR3 : Hid (Rd (w2.setCell ⟨w1.heap.size, 1, none⟩ (.slice A2 n2 c2)) r A n c q) := by
    show _ = _
    rw [Below.heap_setCell _ _ _ _ (by have := HR1.out.lt; simp only; omega)]
    exact HR2.out
  generalize w2.setCell ⟨w1.heap.size, 1, none⟩ (.slice A2 n2 c2) = w3 at *
  have HA3 := Lib.hid (HB1.out.grownR HR1.out HG13.out)
  obtain ⟨A4, c4, hsl, hb4⟩ := HA3.out.slice 22 undBytes sizeByte (j : Int) (q : Int) j (q - j) rfl (by omega) (by omega)
  have HB4 := Lib.hid hb4
  have HL := Lib.hid HR3.out.lt; have C0 := Lib.hid HR3.out.cell0; have C1 := Lib.hid HR3.out.cell1
  clear hb4
  refine wp_region_noPanic ?_
  refine wp_region_held_drew (S := (fun wv => Below w3.heap.size w3 wv)) (by kernel_rfl) ((Below.refl w3.heap.size w3).drew) (fun hS => ?_)
  refine wpAnyH_take (i := 0) (oi := ⟨some 16, .move (.tmp 0), 70, "reader.go:37", #[], none⟩) (v := ?_) rfl (by kernel_rfl) (by kernel_rfl) (by kernel_rfl) (fun _ _ _ h => h) (Or.inl ⟨by rfl, ?_⟩) hS ?_
  rotate_left
  · intro wv _; go_simp; try with_reducible rfl
  try simp only [Act.put, List.setIfInBounds_toArray, List.set_cons_zero, List.set_cons_succ]
  refine wpAnyH_take (i := 1) (oi := ⟨some 17, .nilCheck (.tmp 16), 0, "reader.go:37", #[⟨0, .data⟩], none⟩) (v := ?_) rfl (by kernel_rfl) (by kernel_rfl) (by kernel_rfl) (fun _ _ _ h => h) (Or.inl ⟨by rfl, ?_⟩) hS ?_
  rotate_left
  · intro wv _; go_simp; try with_reducible rfl
  try simp only [Act.put, List.setIfInBounds_toArray, List.set_cons_zero, List.set_cons_succ]
  refine wpAnyH_take (i := 2) (oi := ⟨some 18, .fieldAddr 54 (.tmp 17) 0, 0, "reader.go:37", #[⟨1, .data⟩], none⟩) (v := ?_) rfl (by kernel_rfl) (by kernel_rfl) (by kernel_rfl) (fun _ _ _ h => h) (Or.inl ⟨by rfl, ?_⟩) hS ?_
  rotate_left
  · intro wv _; go_simp; try with_reducible rfl
  try simp only [Act.put, List.setIfInBounds_toArray, List.set_cons_zero, List.set_cons_succ]
  refine wpAnyH_take (i := 3) (oi := ⟨some 19, .load 22 (.tmp 18), 22, "reader.go:37", #[⟨2, .data⟩], none⟩) (v := ?_) rfl (by kernel_rfl) (by kernel_rfl) (by kernel_rfl) (fun _ _ _ h => h) (Or.inl ⟨by rfl, ?_⟩) hS ?_
  rotate_left
  · intro wv hS; have hrun := (hS.cell (p := ⟨_, _, none⟩) HL.out).trans C0.out; go_simp; try with_reducible rfl
  try simp only [Act.put, List.setIfInBounds_toArray, List.set_cons_zero, List.set_cons_succ]
  refine wpAnyH_take (i := 4) (oi := ⟨some 20, .move (.tmp 3), 3, "reader.go:37", #[], none⟩) (v := ?_) rfl (by kernel_rfl) (by kernel_rfl) (by kernel_rfl) (fun _ _ _ h => h) (Or.inl ⟨by rfl, ?_⟩) hS ?_
  rotate_left
  · intro wv _; go_simp; try with_reducible rfl
  try simp only [Act.put, List.setIfInBounds_toArray, List.set_cons_zero, List.set_cons_succ]
  refine wpAnyH_take (i := 5) (oi := ⟨some 21, .move (.tmp 0), 70, "reader.go:37", #[], none⟩) (v := ?_) rfl (by kernel_rfl) (by kernel_rfl) (by kernel_rfl) (fun _ _ _ h => h) (Or.inl ⟨by rfl, ?_⟩) hS ?_
  rotate_left
  · intro wv _; go_simp; try with_reducible rfl
  try simp only [Act.put, List.setIfInBounds_toArray, List.set_cons_zero, List.set_cons_succ]
  refine wpAnyH_take (i := 6) (oi := ⟨some 22, .nilCheck (.tmp 21), 0, "reader.go:37", #[⟨5, .data⟩], none⟩) (v := ?_) rfl (by kernel_rfl) (by kernel_rfl) (by kernel_rfl) (fun _ _ _ h => h) (Or.inl ⟨by rfl, ?_⟩) hS ?_
  rotate_left
  · intro wv _; go_simp; try with_reducible rfl
  try simp only [Act.put, List.setIfInBounds_toArray, List.set_cons_zero, List.set_cons_succ]
  refine wpAnyH_take (i := 7) (oi := ⟨some 23, .fieldAddr 54 (.tmp 22) 1, 0, "reader.go:37", #[⟨6, .data⟩], none⟩) (v := ?_) rfl (by kernel_rfl) (by kernel_rfl) (by kernel_rfl) (fun _ _ _ h => h) (Or.inl ⟨by rfl, ?_⟩) hS ?_
  rotate_left
  · intro wv _; go_simp; try with_reducible rfl
  try simp only [Act.put, List.setIfInBounds_toArray, List.set_cons_zero, List.set_cons_succ]
  refine wpAnyH_take (i := 8) (oi := ⟨some 24, .load 3 (.tmp 23), 3, "reader.go:37", #[⟨7, .data⟩], none⟩) (v := ?_) rfl (by kernel_rfl) (by kernel_rfl) (by kernel_rfl) (fun _ _ _ h => h) (Or.inl ⟨by rfl, ?_⟩) hS ?_
  rotate_left
  · intro wv hS; have hrun := (hS.cell (p := ⟨_, _, none⟩) HL.out).trans C1.out; go_simp; try with_reducible rfl
  try simp only [Act.put, List.setIfInBounds_toArray, List.set_cons_zero, List.set_cons_succ]
  refine wpAnyH_take (i := 9) (oi := ⟨some 25, .slice 22 (.tmp 19) (some (.tmp 20)) (some (.tmp 24)) none, 22, "reader.go:37", #[⟨3, .data⟩, ⟨4, .data⟩, ⟨8, .data⟩], none⟩) (v := ?_) rfl (by kernel_rfl) (by kernel_rfl) (by kernel_rfl) (fun _ _ _ h => h) (Or.inl ⟨by rfl, ?_⟩) hS ?_
  rotate_left
  · intro wv _; go_simp; try with_reducible rfl
  try simp only [Act.put, List.setIfInBounds_toArray, List.set_cons_zero, List.set_cons_succ]
  refine wpAnyH_ready (rs := [10]) (by kernel_rfl) (by simp) (AllReadyH.cons (o := ⟨some 26, .call { callee := .value (.func 37), args := #[.tmp 25], argTypes := #[22] }, 51, "reader.go:37", #[⟨9, .data⟩], none⟩) rfl (fun K hK => ?_) AllReadyH.nil)
  go_simp
  refine (HSM.out _ _ _ (HB4.out.below hS)).mono ?_; rintro e w4 ⟨rfl, hw4⟩
  have HW4 := Lib.hid (hS.trans (hw4.mono hS.size))
  replace hS := hS.trans (hw4.mono hS.size)
  clear hw4
  go_wp2_with fail
  refine Shut.out hK _ _ hS (fun _ => ?_)
  clear hK K
  try simp only [Act.put, List.setIfInBounds_toArray, List.set_cons_zero, List.set_cons_succ]
  refine wpAnyH_take (i := 11) (oi := ⟨some 5, .assign (.tmp 26), 51, "reader.go:37", #[⟨10, .data⟩, ⟨10, .chain⟩, ⟨0, .phase⟩, ⟨1, .phase⟩, ⟨2, .phase⟩, ⟨3, .phase⟩, ⟨4, .phase⟩, ⟨5, .phase⟩, ⟨6, .phase⟩, ⟨7, .phase⟩, ⟨8, .phase⟩, ⟨9, .phase⟩, ⟨10, .phase⟩], none⟩) (v := ?_) rfl (by kernel_rfl) (by kernel_rfl) (by kernel_rfl) (fun _ _ _ h => h) (Or.inl ⟨by rfl, ?_⟩) hS ?_
  rotate_left
  · intro wv _; go_simp; try with_reducible rfl
  try simp only [Act.put, List.setIfInBounds_toArray, List.set_cons_zero, List.set_cons_succ]
  refine wpAnyH_done (by kernel_rfl) ?_ _
  refine NoPanic.normal ?_
  go_wp2_with fail
  have HR4 := Lib.hid (HR3.out.below HW4.out)
  refine (N.out _ (HA3.out.below HW4.out) HR4.out).mono ?_; rintro e w5 ⟨rfl, hr5, hg5⟩
  have HG5 := Lib.hid hg5
  clear hg5 hr5 hsl
  have hxw2 : IntKind.u64.wrap (sm : Int) = y := by rw [← HY.out]; exact hxw
  go_wp2_with (go_at_call 45; refine (end_any _ _).mono ?_; rintro e w6 ⟨rfl, rfl⟩)
  exact ⟨rfl, rfl, grown_trans (grown_alloc (World.grownBy.refl w (some r)) _) (grown_trans HG1.out (grown_trans HG13.out (grown_trans (grown_below HW4.out) HG5.out)))⟩
theorem section_err (r : Nat) (A : Option Addr) (n c : Nat) (bs : List Int) (k : Int) (p : (Int × List Int) × Int × Int) (w : World) (hb : Bs w A n c bs) (hr : Rd w r A n c k) (hn : n ≤ 16384) (h : secS bs k = p) (he : p.2.2 ≠ 0) :
    Calls Try.prog 28 #[.pointer (some ⟨r, 0, none⟩)] w fun e w' => e = .panicked [PE p.2.2] ∧ w.grownBy w' (some r) := by
  by_cases h1 : (tagS bs k).2.2 = 0
  · obtain ⟨j, hj, hjl, ht, t1, t2⟩ := tagS_inv hb.byte rfl h1
    subst hj
    have e1 : (tagS bs (j : Int)).2.1 = ((j + 1 : Nat) : Int) := by rw [ht]
    by_cases h2 : (bodyS bs (tagS bs j).2.1).2.2 = 0
    · have h2' := h2
      rw [e1] at h2'
      obtain ⟨y, m, hq, _, hm, hl, _, _⟩ := bodyS_inv (k := j + 1) hb.byte (by omega) rfl h2'
      have e2 : (bodyS bs ((j + 1 : Nat) : Int)).2.1 = ((j + 1 + m + y : Nat) : Int) := by rw [hq]
      by_cases h3 : (takeS bs (bodyS bs (tagS bs j).2.1).2.1 4).2.2 = 0
      · by_cases h4 : (takeS bs (bodyS bs (tagS bs j).2.1).2.1 4).1 = sumS ((bs.drop (j : Int).toNat).take ((bodyS bs (tagS bs j).2.1).2.1 - j).toNat)
        · rw [secS_ok rfl h1 rfl h2 rfl h3 h4] at h
          rw [← h] at he; exact absurd rfl he
        · have hp : p.2.2 = 5 := by rw [← h, secS_sum rfl h1 rfl h2 rfl h3 h4]
          rw [hp]
          rw [e1, e2] at h3 h4
          have : (((j + 1 + m + y : Nat) : Int) - (j : Int)).toNat = j + 1 + m + y - j := by omega
          rw [this, Int.toNat_natCast] at h4
          exact sec_err4 r A n c bs j (j + 1 + m + y) _ _ (takeS bs ((j + 1 + m + y : Nat) : Int) 4).2.1 _ w hb hr hn ht hq (by omega) hl (Prod.ext rfl (Prod.ext rfl h3)) h4
      · have hp : p.2.2 = (takeS bs (bodyS bs (tagS bs j).2.1).2.1 4).2.2 := by rw [← h, secS_short rfl h1 rfl h2 rfl h3]
        rw [hp]
        rw [e1, e2] at h3 ⊢
        exact sec_err3 r A n c bs j (j + 1 + m + y) _ _ _ w hb hr hn ht hq (by omega) hl rfl h3
    · have hp : p.2.2 = (bodyS bs (tagS bs j).2.1).2.2 := by rw [← h, secS_body rfl h1 rfl h2]
      rw [hp]
      exact sec_err2 r A n c bs j (tagS bs j).1 (tagS bs j).2.1 _ w hb hr hn (Prod.ext rfl (Prod.ext rfl h1)) rfl h2
  · have hp : p.2.2 = (tagS bs k).2.2 := by rw [← h, secS_tag rfl h1]
    rw [hp]
    exact sec_err1 r A n c bs k _ w hb hr hn rfl h1
end Go.Proofs.Ytipjbgmikbbkoaa
