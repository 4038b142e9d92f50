/- What the program's Read answers; for bytes up to 16384. -/
import Derived.Test.YtipjbgmikbbkoaaSecD
namespace Go.Proofs.Ytipjbgmikbbkoaa
set_option linter.unusedVariables false
set_option linter.unusedSimpArgs false
open Go.RowKit

/-- the world is as it was but for the blocks of S. -/
structure But (S : Nat → Prop) (w w' : World) : Prop where
  os : w'.os = w.os
  tape : w'.tape = w.tape
  output : w'.output = w.output
  size : w.heap.size ≤ w'.heap.size
  block : ∀ k, k < w.heap.size → ¬ S k → w'.heap[k]? = w.heap[k]?
section
variable {S : Nat → Prop} {w w' w2 : World}
theorem But.refl (S : Nat → Prop) (w : World) : But S w w := ⟨rfl, rfl, rfl, Nat.le_refl _, fun _ _ _ => rfl⟩
theorem But.of_grown {r : Nat} (h : w.grownBy w' (some r)) (hS : S r) : But S w w' := ⟨h.os, h.tape, h.output, h.size, fun k hk hn => h.block k hk (fun e => hn (by injection e with e; rw [e]; exact hS))⟩
theorem But.of_below (h : Below w.heap.size w w') : But S w w' := ⟨h.os, h.tape, h.output, h.size, fun k hk _ => h.block k hk⟩
theorem But.trans (h : But S w w') (g : But S w' w2) : But S w w2 :=
  ⟨g.os.trans h.os, g.tape.trans h.tape, g.output.trans h.output, Nat.le_trans h.size g.size, fun k hk hn => (g.block k (by have := h.size; omega) hn).trans (h.block k hk hn)⟩
theorem But.mono {S' : Nat → Prop} (h : But S w w') (hS : ∀ k, k < w.heap.size → S k → S' k) : But S' w w' := ⟨h.os, h.tape, h.output, h.size, fun k hk hn => h.block k hk (fun hs => hn (hS k hk hs))⟩
theorem But.setCell (h : But S w w') {b : Nat} (hb : S b ∨ w.heap.size ≤ b) (o : Nat) (v : Value) : But S w (w'.setCell ⟨b, o, none⟩ v) :=
  ⟨h.os, h.tape, h.output, by simpa [World.setCell] using h.size, fun k hk hn => (Below.heap_setCell _ _ _ _ (by
    simp only; rintro rfl
    rcases hb with hb | hb
    · exact hn hb
    · omega)).trans (h.block k hk hn)⟩
theorem But.alloc (h : But S w w') (o : Obj) : But S w (w'.alloc o) :=
  ⟨h.os, h.tape, h.output, by have := h.size; simp; omega, fun k hk hn => (Below.heap_alloc _ _ _ (by have := h.size; omega)).trans (h.block k hk hn)⟩
theorem But.drew (h : But S w w') : But S w w'.drew := ⟨h.os, h.tape, h.output, h.size, h.block⟩
theorem But.below (h : But S w w') {B : Nat} (hB : B ≤ w.heap.size) (hS : ∀ k, k < B → ¬ S k) : Below B w w' := ⟨h.os, h.tape, h.output, h.size, fun k hk => h.block k (by omega) (hS k hk)⟩
end

theorem secS_err0 {bs : List Int} {k : Int} {p : (Int × List Int) × Int × Int} (h : secS bs k = p) (he : p.2.2 ≠ 0) : p.1 = (0, []) ∧ p.2.1 = 0 := by
  unfold secS at h
  split at h
  · subst h; exact ⟨rfl, rfl⟩
  · split at h
    · subst h; exact ⟨rfl, rfl⟩
    · split at h
      · subst h; exact ⟨rfl, rfl⟩
      · split at h
        · subst h; exact ⟨rfl, rfl⟩
        · subst h; exact absurd rfl he

theorem readCl_err (r sb : Nat) (A : Option Addr) (n c : Nat) (bs : List Int) (k : Int) (p : (Int × List Int) × Int × Int) (w : World) (hb : Bs w A n c bs) (hr : Rd w r A n c k) (hn : n ≤ 16384) (h : secS bs k = p) (he : p.2.2 ≠ 0) :
    Calls Try.prog 27 #[.pointer (some ⟨r, 0, none⟩), .pointer (some ⟨sb, 0, none⟩)] w fun e w' => e = .panicked [PE p.2.2] ∧ w.grownBy w' (some r) := by
  have N := Lib.hid (section_err r A n c bs k p w hb hr hn h he)
  clear hb hr h he
  go_enter Try.func27, Try.ntmps27
  go_wp2_with (go_at_call 28; refine N.out.mono ?_; rintro e w1 ⟨rfl, hg1⟩; have HG1 := Lib.hid hg1; clear hg1)
  exact ⟨rfl, rfl, HG1.out⟩
theorem readCl_ok (r sb : Nat) (A : Option Addr) (n c : Nat) (bs : List Int) (k : Int) (s : Int × List Int) (k' : Int) (x0 : Int) (A0 : Option Addr) (n0 c0 : Nat) (w : World) (hb : Bs w A n c bs) (hr : Rd w r A n c k) (hn : n ≤ 16384) (h : secS bs k = (s, k', 0))
    (hs : w.heap[sb]? = some (.cells #[.int .u8 x0, .slice A0 n0 c0] 24)) (hne : sb ≠ r) :
    Calls Try.prog 27 #[.pointer (some ⟨r, 0, none⟩), .pointer (some ⟨sb, 0, none⟩)] w fun e w' => e = .returned (.tuple #[]) ∧ But (fun k => k = r ∨ k = sb) w w' ∧ Rd w' r A n c k' ∧
      ∃ A2 n2 c2, w'.heap[sb]? = some (.cells #[.int .u8 s.1, .slice A2 n2 c2] 24) ∧ Bs w' A2 n2 c2 s.2 ∧ Fresh w.heap.size A2 n2 := by
  have N := Lib.hid (section_ok r A n c bs k s k' w hb hr hn h)
  have HS := Lib.hid hs; have HNE := Lib.hid hne
  clear hb hr h hs hne
  go_enter Try.func27, Try.ntmps27
  go_wp2_with fail
  refine N.out.mono ?_; rintro e w1 ⟨A2, n2, c2, rfl, hb1, hf1, hr1, hg1⟩
  have hs1 := (hg1.block sb (heap_lt HS.out) (by have := HNE.out; simpa using this)).trans HS.out
  have h0 := pair0 hs1; have h1 := pair1 hs1; have z0 := row_z hs1 0; have z1 := row_z hs1 1
  have HB1 := Lib.hid hb1; have HF1 := Lib.hid hf1; have HR1 := Lib.hid hr1; have HG1 := Lib.hid hg1; have HS1 := Lib.hid hs1
  clear hb1 hf1 hr1 hg1 hs1
  go_wp2
  go_end0
  have hlt := heap_lt HS.out
  have hne2 : ∀ (hn : 0 < n2) a, A2 = some a → some a.block ≠ some sb := fun hn a ha => by
    obtain ⟨b, off, e1, e2⟩ := HF1.out hn
    rw [ha] at e1; injection e1 with e1; subst e1
    simp; omega
  refine ⟨rfl, ((But.of_grown HG1.out (Or.inl rfl)).setCell (Or.inl (Or.inr rfl)) _ _).setCell (Or.inl (Or.inr rfl)) _ _, ?_, A2, n2, c2, heap_pair HS1.out _ _, (HB1.out.grownF (grown_setCell _ _ _ _) hne2).grownF (grown_setCell _ _ _ _) hne2, HF1.out⟩
  have hne := HNE.out
  show _ = _
  rw [Below.heap_setCell _ _ _ _ (by simp only; omega), Below.heap_setCell _ _ _ _ (by simp only; omega)]
  exact HR1.out

/-- a section, the place behind it and an error as the answer. -/
def SecPost (w : World) (p : (Int × List Int) × Int × Int) (e : Ending) (w' : World) : Prop :=
  ∃ A2 n2 c2, e = .returned (.tuple #[.agg #[.int .u8 p.1.1, .slice A2 n2 c2], .int .i64 p.2.1, .int .i64 p.2.2]) ∧ Bs w' A2 n2 c2 p.1.2 ∧ Fresh w.heap.size A2 n2 ∧ Below w.heap.size w w'
theorem hd0 (w2 : World) {o : Obj} : Below w2.heap.size w2 (w2.alloc o) := (Below.refl _ _).alloc (Nat.le_refl _) _
theorem secRead_any (A : Option Addr) (n c : Nat) (bs : List Int) (at_ : Int) (w : World) (hb : Bs w A n c bs) (hn : n ≤ 16384) :
    Calls Try.prog 11 #[.slice A n c, .int .i64 at_] w (SecPost w (secS bs at_)) := by
  have hmf : ∀ (fn : Fn) (first cap : Array Value) (w : World), (Instr.makeFunc fn first cap).run Try.prog w = .ok (.func fn first cap) w := fun _ _ _ _ => rfl
  by_cases he : (secS bs at_).2.2 = 0
  · have HB := Lib.hid hb
    clear hb
    go_enter Try.func11, Try.ntmps11
    go_wp2_with fail
    obtain ⟨s, k', hp⟩ : ∃ s k', secS bs at_ = (s, k', 0) := ⟨(secS bs at_).1, (secS bs at_).2.1, Prod.ext rfl (Prod.ext rfl he)⟩
    have HRes := Lib.hid hp
    have hrd : Rd ((w.alloc (.cells #[.int .u8 0, .slice none 0 0] 24)).alloc (.cells #[.slice A n c, .int .i64 at_] 54)) (w.heap.size + 1) A n c at_ := by
      have h := heap_alloc_new (w.alloc (.cells #[.int .u8 0, .slice none 0 0] 24)) (.cells #[.slice A n c, .int .i64 at_] 54)
      have e : (w.alloc (.cells #[.int .u8 0, .slice none 0 0] 24)).heap.size = w.heap.size + 1 := by simp
      rw [e] at h; exact h
    have hsb : ((w.alloc (.cells #[.int .u8 0, .slice none 0 0] 24)).alloc (.cells #[.slice A n c, .int .i64 at_] 54)).heap[w.heap.size]? = some (.cells #[.int .u8 0, .slice none 0 0] 24) := by
      rw [heap_alloc_old _ _ (by simp)]; exact heap_alloc_new w _
    have hbw : Below w.heap.size w ((w.alloc (.cells #[.int .u8 0, .slice none 0 0] 24)).alloc (.cells #[.slice A n c, .int .i64 at_] 54)) := ((Below.refl _ _).alloc (Nat.le_refl _) _).alloc (by simp) _
    have hsz : ((w.alloc (.cells #[.int .u8 0, .slice none 0 0] 24)).alloc (.cells #[.slice A n c, .int .i64 at_] 54)).heap.size = w.heap.size + 2 := by simp
    generalize ((w.alloc (.cells #[.int .u8 0, .slice none 0 0] 24)).alloc (.cells #[.slice A n c, .int .i64 at_] 54)) = w2 at *
    have hb2 := HB.out.below hbw
    have hd3 : Below w2.heap.size w2 (w2.alloc (.cells #[.int .i64 0] 26)) := (Below.refl _ _).alloc (Nat.le_refl _) _
    have hcl := readCl_ok (w.heap.size + 1) w.heap.size A n c bs at_ s k' 0 none 0 0 (w2.alloc (.cells #[.int .i64 0] 26)) (hb2.below hd3) (hrd.below hd3) hn hp (by rw [heap_alloc_old _ _ (by omega)]; exact hsb) (by omega)
    have hca := caught_ok 27 #[.pointer (some ⟨w.heap.size + 1, 0, none⟩), .pointer (some ⟨w.heap.size, 0, none⟩)] w2 _ (fun W => by rfl)
      (hcl.mono fun e w' ⟨h1, h2, h3⟩ => ⟨h1, (h2.block w2.heap.size (by simp) (by omega)).trans (heap_alloc_new w2 _), And.intro h2 h3⟩)
    have HBW := Lib.hid hbw; have HSZ := Lib.hid hsz
    clear hrd hsb hbw hb2 hd3 hcl hsz
    refine hca.mono ?_; rintro e wq ⟨rfl, w1, ⟨hbut, hrd, A2, n2, c2, hpair, hb2, hf2⟩, rfl⟩
    clear hca
    have hsz := HSZ.out
    have hszb := hbut.size
    have e3 : (w2.alloc (.cells #[.int .i64 0] 26)).heap.size = w.heap.size + 3 := by simp; omega
    rw [e3] at hszb
    have hrd' : Rd (w1.setCell ⟨w2.heap.size, 0, none⟩ (.int .i64 0)) (w.heap.size + 1) A n c k' := by
      show _ = _
      rw [Below.heap_setCell _ _ _ _ (by simp only; omega)]; exact hrd
    have hpair' : (w1.setCell ⟨w2.heap.size, 0, none⟩ (.int .i64 0)).heap[w.heap.size]? = some (.cells #[.int .u8 s.1, .slice A2 n2 c2] 24) := by
      rw [Below.heap_setCell _ _ _ _ (by simp only; omega)]; exact hpair
    have hb2' : Bs (w1.setCell ⟨w2.heap.size, 0, none⟩ (.int .i64 0)) A2 n2 c2 s.2 := hb2.grownF (grown_setCell _ _ _ _) fun hn a ha => by
      obtain ⟨b, off, e1, e2⟩ := hf2 hn
      rw [ha] at e1; injection e1 with e1; subst e1
      simp at e2 ⊢; omega
    have hbw' : Below w.heap.size w (w1.setCell ⟨w2.heap.size, 0, none⟩ (.int .i64 0)) :=
      (HBW.out.trans (((hd0 w2).mono (by omega)).trans (hbut.below (by simp; omega) (fun k hk hn => by omega)))).setCell (by simp only; omega) _
    have HF := Lib.hid (hf2.mono (m' := w.heap.size) (by simp; omega))
    have HF2 := Lib.hid (hf2.mono (m' := w.heap.size + 1) (by simp; omega))
    generalize w1.setCell ⟨w2.heap.size, 0, none⟩ (.int .i64 0) = w4 at *
    have s0 := pair0 hpair'; have s1 := pair1 hpair'; have z0 := row_z hpair' 0; have z1 := row_z hpair' 1; have r1 := hrd'.cell1
    have HP := Lib.hid hpair'; have HB4 := Lib.hid hb2'; have HBW4 := Lib.hid hbw'
    clear hbut hrd hpair hb2 hf2 hrd' hpair' hb2' hbw' hsz hszb
    go_wp2
    go_region
    all_goals go_wp2
    have hp := heap_pair HP.out (.int .u8 s.1) (.slice A2 n2 c2)
    have hne : ∀ (hn : 0 < n2) a, A2 = some a → some a.block ≠ some w.heap.size := fun hn a ha => by
      obtain ⟨b, off, e1, e2⟩ := HF2.out hn
      rw [ha] at e1; injection e1 with e1; subst e1
      simp at e2 ⊢; omega
    refine bodyPost_ret (results_css Try.results11 (by rfl) (load_sec (w := World.drew _) hp)) rfl ?_
    rw [HRes.out]
    exact ⟨A2, n2, c2, rfl, ((HB4.out.grownF (grown_setCell _ _ _ _) hne).grownF (grown_setCell _ _ _ _) hne).drew, HF.out, ((HBW4.out.setCell (by simp) _).setCell (by simp) _).drew⟩
  · have HB := Lib.hid hb
    clear hb
    go_enter Try.func11, Try.ntmps11
    go_wp2_with fail
    obtain ⟨k, hk⟩ : ∃ k, (secS bs at_).2.2 = k := ⟨_, rfl⟩
    have h0 := secS_err0 rfl he
    have HRes := Lib.hid (show secS bs at_ = ((0, []), 0, k) from Prod.ext h0.1 (Prod.ext h0.2 hk))
    have hke : k ≠ 0 := by rw [← hk]; exact he
    have hd : (k != 0) = true := by simpa using hke
    have hrd : Rd ((w.alloc (.cells #[.int .u8 0, .slice none 0 0] 24)).alloc (.cells #[.slice A n c, .int .i64 at_] 54)) (w.heap.size + 1) A n c at_ := by
      have h := heap_alloc_new (w.alloc (.cells #[.int .u8 0, .slice none 0 0] 24)) (.cells #[.slice A n c, .int .i64 at_] 54)
      have e : (w.alloc (.cells #[.int .u8 0, .slice none 0 0] 24)).heap.size = w.heap.size + 1 := by simp
      rw [e] at h; exact h
    have hsb : ((w.alloc (.cells #[.int .u8 0, .slice none 0 0] 24)).alloc (.cells #[.slice A n c, .int .i64 at_] 54)).heap[w.heap.size]? = some (.cells #[.int .u8 0, .slice none 0 0] 24) := by
      rw [heap_alloc_old _ _ (by simp)]; exact heap_alloc_new w _
    have hbw : Below w.heap.size w ((w.alloc (.cells #[.int .u8 0, .slice none 0 0] 24)).alloc (.cells #[.slice A n c, .int .i64 at_] 54)) := ((Below.refl _ _).alloc (Nat.le_refl _) _).alloc (by simp) _
    have hsz : ((w.alloc (.cells #[.int .u8 0, .slice none 0 0] 24)).alloc (.cells #[.slice A n c, .int .i64 at_] 54)).heap.size = w.heap.size + 2 := by simp
    generalize ((w.alloc (.cells #[.int .u8 0, .slice none 0 0] 24)).alloc (.cells #[.slice A n c, .int .i64 at_] 54)) = w2 at *
    have hb2 := HB.out.below hbw
    have hd3 : Below w2.heap.size w2 (w2.alloc (.cells #[.int .i64 0] 26)) := (Below.refl _ _).alloc (Nat.le_refl _) _
    have hcl := readCl_err (w.heap.size + 1) w.heap.size A n c bs at_ _ (w2.alloc (.cells #[.int .i64 0] 26)) (hb2.below hd3) (hrd.below hd3) hn HRes.out hke
    have hca := caught_err 27 #[.pointer (some ⟨w.heap.size + 1, 0, none⟩), .pointer (some ⟨w.heap.size, 0, none⟩)] w2 k _ (fun W => by rfl)
      (hcl.mono fun e w' ⟨h1, h2⟩ => ⟨h1, (h2.block w2.heap.size (by simp) (by simp; omega)).trans (heap_alloc_new w2 _), h2⟩)
    have HBW := Lib.hid hbw; have HSZ := Lib.hid hsz; have HSB := Lib.hid hsb
    clear hrd hsb hbw hb2 hd3 hcl hsz h0 hk he hke
    refine hca.mono ?_; rintro e wq ⟨rfl, w1, hbut, rfl⟩
    clear hca
    have hsz := HSZ.out
    have hpair' : (w1.setCell ⟨w2.heap.size, 0, none⟩ (.int .i64 k)).heap[w.heap.size]? = some (.cells #[.int .u8 0, .slice none 0 0] 24) := by
      rw [Below.heap_setCell _ _ _ _ (by simp only; omega)]
      exact (hbut.block _ (by simp; omega) (by simp)).trans ((heap_alloc_old _ _ (by omega)).trans HSB.out)
    have hbw' : Below w.heap.size w (w1.setCell ⟨w2.heap.size, 0, none⟩ (.int .i64 k)) :=
      (HBW.out.trans (((hd0 w2).mono (by omega)).trans ((But.of_grown (S := fun k => k = w.heap.size + 1) hbut rfl).below (by simp; omega) (fun k hk hn => by omega)))).setCell (by simp only; omega) _
    generalize w1.setCell ⟨w2.heap.size, 0, none⟩ (.int .i64 k) = w4 at *
    have s0 := pair0 hpair'; have s1 := pair1 hpair'; have z0 := row_z hpair' 0; have z1 := row_z hpair' 1
    have HP := Lib.hid hpair'; have HBW4 := Lib.hid hbw'
    clear hbut hpair' hbw' hsz
    go_wp2
    have hp := heap_pair HP.out (.int .u8 0) (.slice none 0 0)
    refine bodyPost_ret (results_css Try.results11 (by rfl) (load_sec hp)) rfl ?_
    rw [HRes.out]
    exact ⟨none, 0, 0, rfl, Bs.nil _ _ _, Fresh.zero, (HBW4.out.setCell (by simp) _).setCell (by simp) _⟩
end Go.Proofs.Ytipjbgmikbbkoaa
