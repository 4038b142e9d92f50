/- What a reader's sections, and List, answer; for bytes up to 16384. -/
import Derived.Test.YtipjbgmikbbkoaaSecI
import Derived.LoopTactic
import Derived.BigQuiet
import Derived.Deep.QuietTactic
namespace Go.Proofs.Ytipjbgmikbbkoaa
set_option linter.unusedVariables false
set_option linter.unusedSimpArgs false
open Go.RowKit

theorem listA_end {bs : List Int} {f k : Nat} {acc : List (Int × List Int)} (h : bs.length ≤ k) : listA bs f k acc = (acc, 0) := by
  cases f with
  | zero => rfl
  | succ f => rw [listA, if_pos h]
theorem listA_err {bs : List Int} {f k : Nat} {acc : List (Int × List Int)} (h : k < bs.length) (he : (secS bs k).2.2 ≠ 0) : listA bs (f + 1) k acc = ([], (secS bs k).2.2) := by
  rw [listA, if_neg (by omega), if_pos he]
theorem listA_form {bs : List Int} {f k : Nat} {acc : List (Int × List Int)} {s : Int × List Int} {k' : Int} (h : k < bs.length) (he : secS bs k = (s, k', 0)) (ht : s.1 ≤ lastT acc) : listA bs (f + 1) k acc = ([], 3) := by
  rw [listA, if_neg (by omega), he, if_neg (by simp), if_pos ht]
theorem listA_next {bs : List Int} {f k : Nat} {acc : List (Int × List Int)} {s : Int × List Int} {k' : Nat} (h : k < bs.length) (he : secS bs k = (s, (k' : Int), 0)) (ht : ¬ s.1 ≤ lastT acc) : listA bs (f + 1) k acc = listA bs f k' (acc ++ [s]) := by
  rw [listA, if_neg (by omega), he, if_neg (by simp), if_neg ht]; simp
theorem lastT_snoc (acc : List (Int × List Int)) (s : Int × List Int) : lastT (acc ++ [s]) = s.1 := by simp [lastT]
theorem lastT_nil : lastT [] = 0 := rfl
theorem grown_drewN {w w2 : World} {row : Option Nat} (h : w.grownBy w2 row) (k : Nat) : w.grownBy (w2.drewN k) row := ⟨h.os, h.tape, h.output, h.size, h.block⟩
theorem grown_own {w w2 w3 : World} {row q : Option Nat} (h : w.grownBy w2 row) (g : w2.grownBy w3 q) (hq : ∀ k, q = some k → w.heap.size ≤ k) : w.grownBy w3 row :=
  ⟨g.os.trans h.os, g.tape.trans h.tape, g.output.trans h.output, Nat.le_trans h.size g.size, fun k hk hne => (g.block k (by have := h.size; omega) (fun e => by have := hq k e.symm; omega)).trans (h.block k hk hne)⟩
/-- how far a reader is. -/
def posOf (w : World) (r : Nat) : Nat := match w.cell? ⟨r, 1, none⟩ with | some (.int _ q) => q.toNat | _ => 0
theorem posOf_rd {w : World} {r : Nat} {A : Option Addr} {n c k : Nat} (h : Rd w r A n c k) : posOf w r = k := by unfold posOf; rw [h.cell1]; simp
/-- all sections as the answer of a method, or the panic. -/
def SecsPost (w : World) (r : Nat) (R : List (Int × List Int) × Int) (e : Ending) (w' : World) : Prop :=
  w.grownBy w' (some r) ∧ ((R.2 = 0 ∧ ∃ v, e = .returned v ∧ OwnSs w' w.heap.size v R.1) ∨ (R.2 ≠ 0 ∧ e = .panicked [PE R.2]))

set_option maxHeartbeats 1000000 in
theorem sections_any (r : Nat) (A : Option Addr) (n c : Nat) (bs : List Int) (w : World) (hb : Bs w A n c bs) (hr : Rd w r A n c ((0 : Nat) : Int)) (hn : n ≤ 16384) :
    Calls Try.prog 33 #[.pointer (some ⟨r, 0, none⟩)] w (SecsPost w r (listS bs)) := by
  obtain ⟨R, hR⟩ : ∃ R, listS bs = R := ⟨_, rfl⟩
  have hlen := hb.len
  have HL := Lib.hid (show listA bs n 0 [] = R by rw [← hR, listS, hlen])
  rw [hR]
  have HB := Lib.hid hb; have HR := Lib.hid hr; have HLen := Lib.hid hlen
  clear hb hr hlen hR
  go_enter Try.func33, Try.ntmps33
  go_wp2
  go_loopw [3, 4] (fun v t wr => ∃ (k f : Nat) (acc : List (Int × List Int)) (la : Int), k ≤ n ∧ n ≤ k + f ∧ acc.length ≤ k ∧ t = .int .u8 la ∧ Hid (lastT acc = la) ∧ Rd wr r A n c (k : Int) ∧ w.grownBy wr (some r) ∧ OwnSs wr w.heap.size v acc ∧ Hid (listA bs f k acc = R)) (fun _ _ wr => n - posOf wr r)
  case atStart => exact ⟨0, n, [], 0, by omega, by omega, by simp, rfl, rfl, HR.out, World.grownBy.refl _ _, OwnSs.nil _ _, HL.out⟩
  case round =>
    obtain ⟨k, f, acc, la, hk, hf, hal, rfl, hla, hrd, hgr, hos, hd⟩ := hrel
    have c0 := hrd.cell0; have c1 := hrd.cell1
    have HLa := Lib.hid hla; have HRd := Lib.hid hrd; have HGr := Lib.hid hgr; have HOs := Lib.hid hos; have HD := Lib.hid hd
    have hpos := posOf_rd hrd
    clear hla hrd hgr hos hd
    by_cases hlt : k < n
    · obtain ⟨f, rfl⟩ : ∃ f', f = f' + 1 := ⟨f - 1, by omega⟩
      have hd1 : decide ((k : Int) < (n : Int)) = true := by simpa using hlt
      have hkl : k < bs.length := by rw [HLen.out]; exact hlt
      by_cases he : (secS bs k).2.2 = 0
      · obtain ⟨s, k', hp⟩ : ∃ s k', secS bs (k : Int) = (s, k', 0) := ⟨(secS bs k).1, (secS bs k).2.1, Prod.ext rfl (Prod.ext rfl he)⟩
        obtain ⟨j, q, _, hj, hjq, hq, hk', _, _, _, _, s1, s2⟩ := secS_inv HB.out.byte hp
        obtain ⟨kn, hkn⟩ : ∃ kn : Nat, q + 4 = kn := ⟨_, rfl⟩
        rw [hkn] at hk' hq
        subst hk'
        have hkk : k < kn := by omega
        have hknn : kn ≤ n := by rw [← HLen.out]; exact hq
        have N := fun w2 h1 h2 => section_ok r A n c bs k s kn w2 h1 h2 hn hp
        obtain ⟨t, body⟩ := s
        simp only at s1 s2
        have HP := Lib.hid hp; have N := Lib.hid N
        clear hp hj hjq hq hkn
        by_cases ht : t ≤ la
        · have HE := Lib.hid (show R = ([], 3) by rw [← HD.out.out, listA_form hkl HP.out (by rw [HLa.out.out]; exact ht)])
          have hd2 : decide (t ≤ la) = true := by simpa using ht
          clear he hkl
          go_wp2
          go_quiet (fail)
          clear c0 c1
          have HB1 := Lib.hid ((HB.out.grownR HR.out HGr.out).drewN nq); have HRd1 := Lib.hid (HRd.out.drewN nq); have HGr1 := Lib.hid (grown_drewN HGr.out nq)
          generalize wr.drewN nq = w1 at *
          go_wp2_with fail
          refine (N.out _ HB1.out HRd1.out).mono ?_; rintro e w2 ⟨A2, n2, c2, rfl, hb2, hf2, hr2, hg2⟩
          have HG2 := Lib.hid (grown_alloc (grown_trans HGr1.out hg2) (.cells #[.int .u8 t, .slice A2 n2 c2] 24))
          clear hb2 hf2 hr2 hg2
          go_wp2_with (go_at_call 45; refine (end_any _ _).mono ?_; rintro e w6 ⟨rfl, rfl⟩)
          refine ⟨rfl, HG2.out, Or.inr ?_⟩
          rw [HE.out]; exact ⟨by decide, rfl⟩
        · have HE := Lib.hid (show listA bs f kn (acc ++ [(t, body)]) = R by rw [← HD.out.out, listA_next hkl HP.out (by rw [HLa.out.out]; exact ht)])
          have hd2 : decide (t ≤ la) = false := by simpa using ht
          clear he hkl
          go_wp2
          go_quiet (fail)
          clear c0 c1
          have HB1 := Lib.hid ((HB.out.grownR HR.out HGr.out).drewN nq); have HRd1 := Lib.hid (HRd.out.drewN nq); have HGr1 := Lib.hid (grown_drewN HGr.out nq)
          have HOs1 := Lib.hid (HOs.out.turn (q := none) (grown_drewN (World.grownBy.refl wr none) nq) (by simp))
          generalize wr.drewN nq = w1 at *
          go_wp2_with fail
          refine (N.out _ HB1.out HRd1.out).mono ?_; rintro e w2 ⟨A2, n2, c2, rfl, hb2, hf2, hr2, hg2⟩
          have hrl := HR.out.lt
          have hsz := HGr1.out.size
          have hos2 := HOs1.out.turn hg2 (fun q hq => by injection hq with hq; omega)
          have hne2 : 0 < n2 → ∀ a, A2 = some a → w.heap.size ≤ a.block ∧ w1.heap.size ≤ a.block ∧ a.block < w2.heap.size := fun hn a ha => by
            obtain ⟨b, off, e1, e2⟩ := hf2 hn
            obtain ⟨b', off', e3, e4, _⟩ := hb2.mem hn
            rw [ha] at e1 e3; injection e1 with e1; injection e3 with e3; subst e1; injection e3 with e3; subst e3
            exact ⟨by simp only; omega, e2, e4⟩
          have HG2 := Lib.hid (grown_trans HGr1.out hg2)
          have hs3 := heap_alloc_new w2 (.cells #[.int .u8 t, .slice A2 n2 c2] 24)
          have HOs3 := Lib.hid (hos2.turn (q := none) (grown_alloc (World.grownBy.refl w2 none) (.cells #[.int .u8 t, .slice A2 n2 c2] 24)) (by simp))
          have HG3 := Lib.hid (grown_alloc HG2.out (.cells #[.int .u8 t, .slice A2 n2 c2] 24))
          have HR3 := Lib.hid (hr2.below (hd0 w2 (o := .cells #[.int .u8 t, .slice A2 n2 c2] 24)))
          have HB3 := Lib.hid (hb2.alloc (.cells #[.int .u8 t, .slice A2 n2 c2] 24))
          have hbk := hos2.block
          have hsz2 := hg2.size
          have e3 : (w2.alloc (.cells #[.int .u8 t, .slice A2 n2 c2] 24)).heap.size = w2.heap.size + 1 := by simp
          obtain ⟨v4, w4, hap, hos4, hg4, A4, n4, c4, rfl⟩ := HOs3.out.app (by rw [e3]; omega) (by omega) (t := t) (body := body) HB3.out ⟨by omega, s2⟩ (fun hn a ha => ⟨(hne2 hn a ha).1, fun h => by
            have h1 := (HOs1.out.block _ h.symm).2
            have h2 := (hne2 hn a ha).2.1
            omega⟩) 32
          rw [e3] at hap
          have hs4 := (hg4.block w2.heap.size (by rw [e3]; omega) (fun h => by have h1 := (HOs1.out.block _ h.symm).2; have h2 := hg2.size; omega)).trans hs3
          have k0 := pair0 hs4
          have HR4 : Hid (Rd w4 r A n c (kn : Int)) := (hg4.block r (by rw [e3]; have := hg2.size; omega) (fun h => by have h1 := (HOs1.out.block _ h.symm).1; omega)).trans HR3.out
          have HG4 := Lib.hid (grown_own HG3.out hg4 (fun q hq => (HOs1.out.block _ hq).1))
          have HOs4 := Lib.hid hos4
          clear hb2 hf2 hr2 hg2 hrl hsz hsz2 hos2 hne2 hs3 hbk e3 hos4 hg4 hs4
          go_wp2_with (at_builtin; refine wpl_app_run rfl rfl rfl rfl hap ?_)
          go_roundw
          case rel => exact ⟨kn, f, acc ++ [(t, body)], t, hknn, by omega, by simp; omega, rfl, lastT_snoc _ _, HR4.out, HG4.out, HOs4.out, HE.out⟩
          case measure => rw [hpos, posOf_rd HR4.out]; omega
      · have HE := Lib.hid (show R = ([], (secS bs k).2.2) by rw [← HD.out.out, listA_err hkl he])
        have N := fun w2 h1 h2 => section_err r A n c bs k _ w2 h1 h2 hn rfl he
        generalize (secS bs k).2.2 = e0 at *
        have HN := Lib.hid N; have HHe := Lib.hid he
        clear N he hkl
        go_wp2
        go_quiet (fail)
        clear c0 c1
        have HB1 := Lib.hid ((HB.out.grownR HR.out HGr.out).drewN nq); have HRd1 := Lib.hid (HRd.out.drewN nq); have HGr1 := Lib.hid (grown_drewN HGr.out nq)
        generalize wr.drewN nq = w1 at *
        go_wp2_with fail
        refine (HN.out _ HB1.out HRd1.out).mono ?_; rintro e w2 ⟨rfl, hg2⟩
        have HG2 := Lib.hid (grown_trans HGr1.out hg2)
        clear hg2
        go_wp2_with fail
        refine ⟨rfl, HG2.out, Or.inr ?_⟩
        rw [HE.out]; exact ⟨HHe.out, rfl⟩
    · have HE := Lib.hid (show R = (acc, 0) by rw [← HD.out.out, listA_end (by rw [HLen.out]; omega)])
      have hd1 : decide ((k : Int) < (n : Int)) = false := by simpa using hlt
      go_wp2
      go_quiet (fail)
      go_wp2
      go_ret
      refine ⟨grown_drewN HGr.out nq, Or.inl ?_⟩
      rw [HE.out]
      exact ⟨rfl, _, rfl, HOs.out.turn (q := none) (grown_drewN (World.grownBy.refl wr none) nq) (by simp)⟩
end Go.Proofs.Ytipjbgmikbbkoaa
