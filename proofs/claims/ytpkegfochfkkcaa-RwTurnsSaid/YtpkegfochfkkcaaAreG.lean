/- What the document's own Same, Make and Ints answer; for slices of up to 16384. -/
import Derived.Test.YtpkegfochfkkcaaAreF
import Derived.Laws.StructEq
namespace Go.Proofs.Ytpkegfochfkkcaa
set_option linter.unusedVariables false
set_option linter.unusedSimpArgs false
open Go.RowKit

def recV (r : Rec3) : Value := .agg #[.int .i64 r.1, .int .i64 r.2.1, .int .i64 r.2.2]
theorem Rs.drop_rec {w : World} {A : Option Addr} {n c : Nat} {rs : List Rec3} (h : Rs w A n c rs) (i : Nat) (hi : i < n) : rs.drop i = recAt rs i :: rs.drop (i + 1) := by
  have hl : i < rs.length := by have := h.len; omega
  rw [drop_at hl]
  unfold recAt
  rw [Int.toNat_natCast]
  simp [List.getD, List.getElem?_eq_getElem hl]
set_option maxHeartbeats 1000000 in
theorem refInts_any (A : Option Addr) (n c : Nat) (xs : List Int) (B : Option Addr) (m d : Nat) (ys : List Int) (w : World) (hx : Is w A n c xs) (hy : Is w B m d ys) (hn : n ≤ 16384) :
    Calls Try.prog 30 #[.slice A n c, .slice B m d] w fun e w' => e = .returned (.bool (decide (xs = ys))) ∧ Below w.heap.size w w' := by
  have HX := Lib.hid hx; have HY := Lib.hid hy
  obtain ⟨R, hR⟩ : ∃ R, decide (xs = ys) = R := ⟨_, rfl⟩
  rw [hR]
  have HR := Lib.hid hR
  clear hx hy hR
  by_cases hl : n = m
  · subst hl
    go_enter Try.func30, Try.ntmps30
    go_wp2
    go_loopw [5] (fun iv wr => ∃ (i : Nat), i ≤ n ∧ iv = .int .i64 (i : Int) ∧ Below w.heap.size w wr ∧ Hid (xs.take i = ys.take i)) (fun iv _ => n - (intOf iv).toNat)
    case atStart => exact ⟨0, by omega, rfl, Below.refl _ _, by simp [Hid]⟩
    case round =>
      obtain ⟨i, hi, rfl, hbl, hd⟩ := hrel
      have HBl := Lib.hid hbl; have HD := Lib.hid hd
      clear hbl hd
      by_cases hlt : i < n
      · have hd1 : decide ((i : Int) < (n : Int)) = true := by simpa using hlt
        obtain ⟨b, off, s, rfl, hb0, hc0, hdr⟩ := HX.out.look i hlt
        obtain ⟨b', off', s', rfl, hb0', hc0', hdr'⟩ := HY.out.look i hlt
        have h0 := (HBl.out.cell (p := ⟨_, _, none⟩) hb0).trans hc0
        have h0' := (HBl.out.cell (p := ⟨_, _, none⟩) hb0').trans hc0'
        have HDr := Lib.hid hdr; have HDr' := Lib.hid hdr'
        have hib1 : (0 : Int) ≤ (i : Int) := by omega
        have hib2 : (i : Int) < (n : Int) := by omega
        clear hb0 hc0 hdr hb0' hc0' hdr'
        have hfin : ∀ nq, Below w.heap.size w (wr.drewN nq) := fun nq => ⟨HBl.out.os, HBl.out.tape, HBl.out.output, HBl.out.size, HBl.out.block⟩
        have HF := Lib.hid hfin
        clear hfin
        by_cases ht : s = s'
        · subst ht
          have hne : (s != s) = false := by simp
          have HE := Lib.hid (show xs.take (i + 1) = ys.take (i + 1) by rw [take_step HDr.out, take_step HDr'.out, HD.out.out])
          go_wp2
          go_quiet (fail)
          go_wp2
          go_roundw
          case rel => exact ⟨i + 1, by omega, by go_num, HF.out _, HE.out⟩
          case measure => simp [intOf]; omega
        · have hne : (s != s') = true := by simpa using ht
          have HE := Lib.hid (show R = false by rw [← HR.out]; simp only [decide_eq_false_iff_not]; exact unlike_at HDr.out HDr'.out ht)
          clear ht
          go_wp2
          go_quiet (fail)
          go_wp2
          go_ret
          rw [HE.out]
          exact ⟨rfl, HF.out _⟩
      · obtain rfl : i = n := by omega
        have hd1 : decide ((i : Int) < (i : Int)) = false := by simp
        have HE := Lib.hid (show R = true by
          rw [← HR.out]
          have h1 := HX.out.len; have h2 := HY.out.len
          have h3 := HD.out.out
          rw [List.take_of_length_le (by omega), List.take_of_length_le (by omega)] at h3
          exact decide_eq_true h3)
        go_wp2
        go_ret
        rw [HE.out]
        exact ⟨rfl, HBl.out⟩
  · have HE := Lib.hid (show R = false by
      rw [← HR.out]
      have h1 := HX.out.len; have h2 := HY.out.len
      exact decide_eq_false fun h => hl (by rw [← h1, ← h2, h]))
    have hne : ((n : Int) != (m : Int)) = true := by simp; omega
    go_enter Try.func30, Try.ntmps30
    go_wp2
    go_ret
    rw [HE.out]
    exact ⟨rfl, Below.refl _ _⟩
end Go.Proofs.Ytpkegfochfkkcaa
