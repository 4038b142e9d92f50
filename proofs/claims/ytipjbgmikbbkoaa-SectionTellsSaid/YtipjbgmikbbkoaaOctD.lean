/- What Take (the program's, and the document's own) answers; for slices of up to 4096 bytes. -/
import Derived.Test.YtipjbgmikbbkoaaOctC
import Derived.LoopTactic
import Derived.Laws.BitsAllLaws
namespace Go.Proofs.Ytipjbgmikbbkoaa
set_option linter.unusedVariables false
set_option linter.unusedSimpArgs false
open Go.RowKit

/-- what Take answers. -/
def takeS (bs : List Int) (at_ m : Int) : Int × Int × Int :=
  if m < 1 ∨ 8 < m then (0, 0, 1) else if (cutS bs at_ m).2.2 ≠ 0 then (0, 0, (cutS bs at_ m).2.2) else (num (cutS bs at_ m).1, (cutS bs at_ m).2.1, 0)
theorem takeS_err {bs : List Int} {at_ m x : Int} (h0 : ¬ (m < 1 ∨ 8 < m)) (hc : cutS bs at_ m = ([], 0, x)) (hx : x ≠ 0) : takeS bs at_ m = (0, 0, x) := by
  unfold takeS; rw [if_neg h0, hc]; simp [hx]
theorem takeS_ok {bs p : List Int} {at_ m x : Int} (h0 : ¬ (m < 1 ∨ 8 < m)) (hc : cutS bs at_ m = (p, x, 0)) : takeS bs at_ m = (num p, x, 0) := by
  unfold takeS; rw [if_neg h0, hc]; simp
def TakePost (w : World) (p : Int × Int × Int) (e : Ending) (w' : World) : Prop :=
  e = .returned (.tuple #[.int .u64 p.1, .int .i64 p.2.1, .int .i64 p.2.2]) ∧ Below w.heap.size w w'
theorem take_post {bs : List Int} {at_ m : Int} {p : Int × Int × Int} (h : takeS bs at_ m = p) {w w' : World} (hw : Below w.heap.size w w') :
    TakePost w (takeS bs at_ m) (.returned (.tuple #[.int .u64 p.1, .int .i64 p.2.1, .int .i64 p.2.2])) w' := by
  subst h; exact ⟨rfl, hw⟩

theorem take_step (X b : Int) (hX0 : 0 ≤ X) (hX : X < 72057594037927936) (hb0 : 0 ≤ b) (hb : b ≤ 255) : bits .or .u64 (X * 256) b = b + 256 * X := by
  rw [u64_or _ _ (by omega) (by omega) hb0 (by omega), Nat.or_comm, nat_join8' _ _ (by omega) (by omega)]
  omega
theorem num_facts (p : List Int) (q j : Nat) (hq : q ≤ 8) (hp : p.length = q) (hb : ∀ x ∈ p, 0 ≤ x ∧ x ≤ 255) (hj : j < q) :
    0 ≤ num (p.drop (j + 1)) ∧ num (p.drop (j + 1)) < 72057594037927936 ∧ 0 ≤ p.getD j 0 ∧ p.getD j 0 ≤ 255 ∧ num (p.drop j) = p.getD j 0 + 256 * num (p.drop (j + 1)) := by
  have h1 : ∀ x ∈ p.drop (j + 1), 0 ≤ x ∧ x ≤ 255 := fun x hx => hb x (List.mem_of_mem_drop hx)
  have h2 := num_lt 7 (p.drop (j + 1)) (by rw [List.length_drop]; omega) h1
  have h3 := hb (p.getD j 0) (by simp [List.getD, List.getElem?_eq_getElem (show j < p.length by omega)])
  exact ⟨num_nonneg _ h1, by simpa using h2, h3.1, h3.2, num_drop p j (by omega)⟩

theorem take_any (A : Option Addr) (n c : Nat) (bs : List Int) (at_ m : Int) (w : World) (hb : Bs w A n c bs) (hn : n ≤ 16384) :
    Calls Try.prog 56 #[.slice A n c, .int .i64 at_, .int .i64 m] w (TakePost w (takeS bs at_ m)) := by
  have hlen := hb.len
  by_cases h0 : m < 1 ∨ 8 < m
  · have R := take_post (w := w) (w' := w) (show takeS bs at_ m = (0, 0, 1) by simp [takeS, h0]) (Below.refl _ _)
    have HL := Lib.hid hlen; clear hlen hb
    go_enter Try.func56, Try.ntmps56
    go_wp2_with (go_at_call 47; refine (isWidth_no _ _ h0).mono ?_; rintro e w' ⟨rfl, rfl⟩)
    go_ret3
    exact R
  · by_cases h1 : at_ < 0 ∨ (n : Int) < at_
    · have R := take_post (w := w) (w' := w) (takeS_err (bs := bs) (at_ := at_) h0 (x := 1) (by simp [cutS, hlen, h1]) (by decide)) (Below.refl _ _)
      have R1 := Lib.hid (show roomS n at_ m = 1 by simp [roomS, h1])
      have HL := Lib.hid hlen; clear hlen hb h1
      go_enter Try.func56, Try.ntmps56
      go_wp2_with (first | (go_at_call 47; refine (isWidth_yes _ _ (by omega) (by omega)).mono ?_; rintro e w' ⟨rfl, rfl⟩) | (go_at_call 61; refine (room_any _ _ _ _ _ _ (by omega)).mono ?_; rw [R1.out]; rintro e w' ⟨rfl, rfl⟩))
      go_ret3
      exact R
    · by_cases h2 : (n : Int) - at_ < m
      · have R := take_post (w := w) (w' := w) (takeS_err (bs := bs) (at_ := at_) h0 (x := 2) (by rw [cutS, hlen, if_neg (by omega), if_pos h2]) (by decide)) (Below.refl _ _)
        have R1 := Lib.hid (show roomS n at_ m = 2 by simp [roomS, h1, h2])
        have HL := Lib.hid hlen; clear hlen hb h1
        go_enter Try.func56, Try.ntmps56
        go_wp2_with (first | (go_at_call 47; refine (isWidth_yes _ _ (by omega) (by omega)).mono ?_; rintro e w' ⟨rfl, rfl⟩) | (go_at_call 61; refine (room_any _ _ _ _ _ _ (by omega)).mono ?_; rw [R1.out]; rintro e w' ⟨rfl, rfl⟩))
        go_ret3
        exact R
      · have R1 := Lib.hid (show roomS n at_ m = 0 by simp [roomS, h1, h2])
        obtain ⟨k, rfl⟩ : ∃ k : Nat, at_ = k := ⟨at_.toNat, by omega⟩
        obtain ⟨q, rfl⟩ : ∃ q : Nat, m = q := ⟨m.toNat, by omega⟩
        have hkq : k + q ≤ n := by omega
        have hq8 : q ≤ 8 := by omega
        have hq1 : 1 ≤ q := by omega
        have hcut : cutS bs k q = ((bs.drop k).take q, (k : Int) + q, 0) := by rw [cutS, hlen]; rw [if_neg (by omega), if_neg (by omega)]; simp
        have hR : takeS bs k q = (num ((bs.drop k).take q), (k : Int) + q, 0) := takeS_ok h0 hcut
        obtain ⟨b, off, rfl, hbl, hcell⟩ := hb.mem (by omega)
        have hby := hb.byte
        obtain ⟨p, hp⟩ : ∃ p, p = (bs.drop k).take q := ⟨_, rfl⟩
        have hpl : p.length = q := by rw [hp]; simp [hlen]; omega
        have hpb : ∀ x ∈ p, 0 ≤ x ∧ x ≤ 255 := fun x hx => hby x (List.mem_of_mem_drop (List.mem_of_mem_take (hp ▸ hx)))
        have hpc : ∀ j, j < q → w.cell? ⟨b, off + (k + j), none⟩ = some (.int .u8 (p.getD j 0)) := fun j hj => by
          rw [hcell (k + j) (by omega), hp]; simp [List.getD, List.getElem?_take, hj, List.getElem?_drop]
        rw [← hp] at hR
        have R := Lib.hid (take_post (w := w) (w' := w) hR (Below.refl _ _))
        have HL := Lib.hid hlen; have HP := Lib.hid hpl; have HC := Lib.hid hpc; have HB := Lib.hid hpb
        clear hlen hb h1 hcut hR hcell hby hp hpl hpc hpb
        go_enter Try.func56, Try.ntmps56
        go_wp2_with (first | (go_at_call 47; refine (isWidth_yes _ _ (by omega) (by omega)).mono ?_; rintro e w' ⟨rfl, rfl⟩) | (go_at_call 61; refine (room_any _ _ _ _ _ _ (by omega)).mono ?_; rw [R1.out]; rintro e w' ⟨rfl, rfl⟩))
        go_loop [6, 9] (fun x i => ∃ j : Nat, j ≤ q ∧ i = .int .i64 ((k : Int) + j - 1) ∧ x = .int .u64 (num (p.drop j))) (fun _ i => (intOf i + 1 - k).toNat)
        case atStart => exact ⟨q, Nat.le_refl _, by go_num, by rw [List.drop_of_length_le (by rw [HP.out]; exact Nat.le_refl _)]; rfl⟩
        case round =>
          obtain ⟨j, hj, rfl, rfl⟩ := hrel
          cases j with
          | zero =>
            go_wp2
            go_ret3
            exact R.out
          | succ j =>
            have hc1 := HC.out j (by omega)
            obtain ⟨f1, f2, f3, f4, f5⟩ := num_facts p q j hq8 HP.out HB.out (by omega)
            have e1 : (k : Int) + (j + 1 : Nat) - 1 = ((k + j : Nat) : Int) := by omega
            rw [e1]
            have F5 := Lib.hid f5
            clear e1 f5
            simp only [List.getD_eq_getElem?_getD] at f3 f4
            go_wp2
            go_round
            case rel => exact ⟨j, by omega, rfl, by rw [take_step _ _ f1 f2 f3 f4, F5.out]; simp⟩
            case measure => simp [intOf]; omega

theorem refTake_any (A : Option Addr) (n c : Nat) (bs : List Int) (at_ m : Int) (w : World) (hb : Bs w A n c bs) (hn : n ≤ 16384) :
    Calls Try.prog 31 #[.slice A n c, .int .i64 at_, .int .i64 m] w (TakePost w (takeS bs at_ m)) := by
  have hlen := hb.len
  by_cases h1 : m < 1
  · have R := take_post (w := w) (w' := w) (show takeS bs at_ m = (0, 0, 1) by simp [takeS, h1]) (Below.refl _ _)
    have HL := Lib.hid hlen; clear hlen hb
    go_enter Try.func31, Try.ntmps31
    go_wp2
    go_ret3
    exact R
  · by_cases h2 : 8 < m
    · have R := take_post (w := w) (w' := w) (show takeS bs at_ m = (0, 0, 1) by simp [takeS, h2]) (Below.refl _ _)
      have HL := Lib.hid hlen; clear hlen hb
      have hd : decide (8 < m) = true := by simpa using h2
      go_enter Try.func31, Try.ntmps31
      go_wp2
      go_ret3
      exact R
    · have hd : decide (8 < m) = false := by simpa using h2
      have h0 : ¬ (m < 1 ∨ 8 < m) := by omega
      have HH := Lib.hid hb
      obtain ⟨x, hx⟩ : ∃ x, cutS bs at_ m = x := ⟨_, rfl⟩
      obtain ⟨p, nx, er⟩ := x
      have hcall := refCut_any A n c bs at_ m w hb hn
      rw [hx] at hcall
      have hcases : (p = [] ∧ nx = 0 ∧ er ≠ 0) ∨ (p.length ≤ 8 ∧ er = 0 ∧ ∀ b ∈ p, 0 ≤ b ∧ b ≤ 255) := by
        revert hx; unfold cutS
        split
        · intro hx; injection hx with e1 e2; injection e2 with e2 e3; exact .inl ⟨e1.symm, e2.symm, by omega⟩
        · split
          · intro hx; injection hx with e1 e2; injection e2 with e2 e3; exact .inl ⟨e1.symm, e2.symm, by omega⟩
          · intro hx; injection hx with e1 e2; injection e2 with e2 e3
            refine .inr ⟨by rw [← e1, List.length_take]; omega, e3.symm, fun b hb' => hb.byte b ?_⟩
            rw [← e1] at hb'
            exact List.mem_of_mem_drop (List.mem_of_mem_take hb')
      have HC := Lib.hid hcall
      have HX := Lib.hid hx
      have HL := Lib.hid hlen; clear hlen hb hcall hx HH
      rcases hcases with ⟨rfl, rfl, her⟩ | ⟨hp8, rfl, hpb⟩
      · have R := Lib.hid fun w' (hw' : Below w.heap.size w w') => take_post (w := w) (takeS_err h0 HX.out her) hw'
        have her' : (er == 0) = false := by simpa using her
        go_enter Try.func31, Try.ntmps31
        go_wp2_with (go_at_call 30; refine HC.out.mono ?_; rintro e w' ⟨A', n', c', rfl, hb', hw'⟩)
        go_ret3
        exact R.out _ hw'
      · have R := Lib.hid fun w' (hw' : Below w.heap.size w w') => take_post (w := w) (takeS_ok h0 HX.out) hw'
        have HB := Lib.hid hpb
        obtain ⟨q, hq⟩ : ∃ q, p.length = q := ⟨_, rfl⟩
        rw [hq] at hp8
        have HC3 := Lib.hid (HC.out.mono (fun e w' h => by
          obtain ⟨A', n', c', rfl, hb', hw'⟩ := h
          obtain rfl : q = n' := hq.symm.trans hb'.len
          exact ⟨A', c', rfl, hb', hw'⟩ : ∀ e w', _ → ∃ A' c', e = .returned (.tuple #[.slice A' q c', .int .i64 nx, .int .i64 0]) ∧ Bs w' A' q c' p ∧ Below w.heap.size w w'))
        have HQ := Lib.hid hq
        clear hpb hq HC
        go_enter Try.func31, Try.ntmps31
        go_wp2_with (go_at_call 30; refine HC3.out.mono ?_; rintro e w' ⟨A', c', rfl, hb', hw'⟩)
        have HW := Lib.hid hw'
        have HB' := Lib.hid hb'
        clear hw' hb'
        go_loop [12, 13] (fun x i => ∃ j : Nat, j ≤ q ∧ i = .int .i64 ((j : Int) - 1) ∧ x = .int .u64 (num (p.drop j))) (fun _ i => (intOf i + 1).toNat)
        case atStart => exact ⟨q, Nat.le_refl _, by go_num, by rw [List.drop_of_length_le (by rw [HQ.out]; exact Nat.le_refl _)]; rfl⟩
        case round =>
          obtain ⟨j, hj, rfl, rfl⟩ := hrel
          cases j with
          | zero =>
            go_wp2
            go_ret3
            exact R.out _ HW.out
          | succ j =>
            obtain ⟨b, off, rfl, hbl, hcell⟩ := HB'.out.mem (by omega)
            have hc1 := hcell j (by omega)
            obtain ⟨f1, f2, f3, f4, f5⟩ := num_facts p q j hp8 HQ.out HB.out (by omega)
            have e1 : ((j + 1 : Nat) : Int) - 1 = (j : Int) := by omega
            rw [e1]
            have F5 := Lib.hid f5
            have HCc := Lib.hid hcell
            clear e1 f5 hcell
            simp only [List.getD_eq_getElem?_getD] at f3 f4
            go_wp2
            go_round
            case rel => exact ⟨j, by omega, rfl, by rw [F5.out]; simp only [List.getD_eq_getElem?_getD]; go_num⟩
            case measure => simp [intOf]
end Go.Proofs.Ytipjbgmikbbkoaa
