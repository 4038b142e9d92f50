/- What Great, Clone, Find and Same answer; for slices of sections up to 16384. -/
import Derived.Test.YtipjbgmikbbkoaaSecO
namespace Go.Proofs.Ytipjbgmikbbkoaa
set_option linter.unusedVariables false
set_option linter.unusedSimpArgs false
open Go.RowKit

/-- how much they are: a body's bytes, and one. -/
def tot1 : List (Int × List Int) → Nat
  | [] => 0
  | s :: r => s.2.length + 1 + tot1 r
theorem tot1_append : ∀ xs ys, tot1 (xs ++ ys) = tot1 xs + tot1 ys
  | [], ys => by simp [tot1]
  | x :: xs, ys => by simp only [List.cons_append, tot1, tot1_append xs ys]; omega
theorem take_next {α : Type} {ss : List α} {i : Nat} {s : α} (h : ss.drop i = s :: ss.drop (i + 1)) : ss.take (i + 1) = ss.take i ++ [s] := by
  have h1 : ss.take (i + 1) = ss.take i ++ (ss.drop i).take 1 := by rw [← List.take_add]
  rw [h1, h]; rfl
theorem tot_tot1 : ∀ ss : List (Int × List Int), tot ss ≤ 8 * tot1 ss
  | [] => Nat.zero_le _
  | s :: r => by have := tot_tot1 r; simp only [tot, tot1]; omega
theorem len_tot1 : ∀ ss : List (Int × List Int), ss.length ≤ tot1 ss
  | [] => Nat.zero_le _
  | s :: r => by have := len_tot1 r; simp only [List.length_cons, tot1]; omega

def GreatPost (ss : List (Int × List Int)) (e : Ending) : Prop := ∃ g, e = .returned (.bool g) ∧ (g = false → tot1 ss ≤ 1000)
theorem great_any (A : Option Addr) (n c : Nat) (ss : List (Int × List Int)) (w : World) (hs : Ss w A n c ss) :
    Calls Try.prog 16 #[.slice A n c] w fun e w' => GreatPost ss e ∧ w = w' := by
  have HS := Lib.hid hs
  clear hs
  go_enter Try.func16, Try.ntmps16
  go_wp2
  go_loop [3, 4] (fun x iv => ∃ (i m : Nat), iv = .int .i64 (i : Int) ∧ x = .int .i64 (m : Int) ∧ i ≤ n ∧ i ≤ m ∧ m ≤ 71001 ∧ Hid (m ≤ 1000 → tot1 (ss.take i) = m)) (fun _ iv => n - (intOf iv).toNat)
  case atStart => exact ⟨0, 0, rfl, rfl, by omega, by omega, by omega, by simp [Hid, tot1]⟩
  case round =>
    obtain ⟨i, m, rfl, rfl, hi, him, hm, hd⟩ := hrel
    have HD := Lib.hid hd
    clear hd
    by_cases hlt : i < n
    · have hd1 : decide ((i : Int) < (n : Int)) = true := by simpa using hlt
      by_cases h1 : m ≤ 1000
      · have hd2 : decide ((m : Int) ≤ 1000) = true := by simp; omega
        obtain ⟨b, off, s, B, l, d, rfl, hb0, hc0, hc1, hbb, ⟨s0, s1⟩, hdr, hget⟩ := HS.out.look i hlt
        have HMl := Lib.hid hbb.len; have HDr := Lib.hid hdr
        obtain ⟨q, hq⟩ : ∃ q : Nat, min (l : Int) 70000 = (q : Int) := ⟨min l 70000, by omega⟩
        have hq2 : q ≤ 70000 := by omega
        have HQ := Lib.hid (show q < 70000 → q = l by omega)
        have hmin : ∀ (W : World) (ts : Array TypeId) (t : TypeId), (Builtin.min_ ts t #[.int .i64 (l : Int), .int .i64 70000]).run Try.prog W = .ok (.int .i64 (q : Int)) W := by
          intro W ts t
          rw [Lib.run_min_ints, hq]
        clear hbb hdr hget hq
        go_wp2
        go_round
        case rel =>
          refine ⟨i + 1, m + 1 + q, by go_num, by go_num, by omega, by omega, by omega, ?_⟩
          intro h9
          rw [take_next HDr.out, tot1_append, HD.out.out h1]
          have h10 := HQ.out (by omega)
          have h11 := HMl.out
          simp only [tot1]; omega
        case measure => simp [intOf]; omega
      · have hd2 : decide ((m : Int) ≤ 1000) = false := by simp; omega
        have hd3 : decide ((1000 : Int) < (m : Int)) = true := by simp; omega
        go_wp2
        go_ret
        exact ⟨⟨_, rfl, by simp⟩, rfl⟩
    · have hd1 : decide ((i : Int) < (n : Int)) = false := by simpa using hlt
      by_cases h1 : m ≤ 1000
      · have hd3 : decide ((1000 : Int) < (m : Int)) = false := by simp; omega
        have HT := Lib.hid (show tot1 ss ≤ 1000 by
          have := HD.out.out h1
          rw [List.take_of_length_le (by rw [HS.out.len]; omega)] at this
          omega)
        go_wp2
        go_ret
        exact ⟨⟨_, rfl, fun _ => HT.out⟩, rfl⟩
      · have hd3 : decide ((1000 : Int) < (m : Int)) = true := by simp; omega
        go_wp2
        go_ret
        exact ⟨⟨_, rfl, by simp⟩, rfl⟩

theorem clone_any (A : Option Addr) (n c : Nat) (bs : List Int) (w : World) (hb : Bs w A n c bs) (hn : n ≤ 16384) :
    Calls Try.prog 34 #[.slice A n c] w (BytesOnly w bs) := by
  cases A with
  | none =>
    have h0 : n = 0 := by
      rcases Nat.eq_zero_or_pos n with h0 | h0
      · exact h0
      · obtain ⟨b, off, e, _⟩ := hb.mem h0; cases e
    subst h0
    obtain rfl : bs = [] := List.eq_nil_of_length_eq_zero hb.len
    have hq : ∀ W : World, (binOp .eql 22 (.slice none 0 c) (.slice none 0 0)).run Try.prog W = .ok (.bool true) W := fun _ => by kernel_rfl
    go_enter Try.func34, Try.ntmps34
    go_wp2
    go_ret
    exact ⟨none, 0, 0, rfl, Bs.nil _ _ _, Below.refl _ _⟩
  | some ad =>
    obtain ⟨i5, hi5, hz0, hz1, hz2⟩ := info_parts infoByte
    obtain ⟨A3, c3, w1, hap, hown1, hb3, hbel⟩ := app_lit0 (P := Try.prog) w 22 22 5 i5 _ Try.underlying22 hi5 hz0 hz1 hz2 rfl (some ad) n c _ hb (by omega)
    have HB3 := Lib.hid hb3; have HBl := Lib.hid hbel
    clear hown1 hb3 hbel hi5 hz0 hz1 hz2 hb
    have hq : ∀ W : World, (binOp .eql 22 (.slice (some ad) n c) (.slice none 0 0)).run Try.prog W = .ok (.bool false) W := fun _ => by kernel_rfl
    go_enter Try.func34, Try.ntmps34
    go_wp2_with (at_builtin; refine wpl_app_run rfl rfl rfl rfl hap ?_)
    go_ret
    exact ⟨_, _, _, rfl, HB3.out, HBl.out⟩

theorem findS_next {ss : List (Int × List Int)} {i : Nat} {s : Int × List Int} {t : Int} (h : ss.drop i = s :: ss.drop (i + 1)) (ht : s.1 ≠ t) : findS (ss.drop i) t = findS (ss.drop (i + 1)) t := by
  rw [h]; simp [findS, List.find?_cons, ht]
theorem findS_here {ss : List (Int × List Int)} {i : Nat} {s : Int × List Int} {t : Int} (h : ss.drop i = s :: ss.drop (i + 1)) (ht : s.1 = t) : findS (ss.drop i) t = (s.2, true) := by
  rw [h]; simp [findS, List.find?_cons, ht]
theorem find_mk {w w' : World} {R : List Int × Bool} {l : List Int} {e : Bool} (h : R = (l, e)) {A : Option Addr} {n c : Nat} (hb : Bs w' A n c l) (hw : Below w.heap.size w w') :
    BytesPost w R.1 [.bool R.2] (.returned (.tuple #[.slice A n c, .bool e])) w' := by subst h; exact ⟨A, n, c, rfl, hb, hw⟩
theorem find_any (A : Option Addr) (n c : Nat) (ss : List (Int × List Int)) (t : Int) (w : World) (hs : Ss w A n c ss) (hn : n ≤ 16384) (htot : tot ss ≤ 8192) :
    Calls Try.prog 19 #[.slice A n c, .int .u8 t] w (BytesPost w (findS ss t).1 [.bool (findS ss t).2]) := by
  obtain ⟨R, hR⟩ : ∃ R, findS ss t = R := ⟨_, rfl⟩
  have HL := Lib.hid (show findS (ss.drop 0) t = R by rw [← hR]; rfl)
  rw [hR]
  have HS := Lib.hid hs
  clear hs hR
  go_enter Try.func19, Try.ntmps19
  go_wp2
  go_loopw [10] (fun iv wr => ∃ (i : Nat), i ≤ n ∧ iv = .int .i64 (i : Int) ∧ tot (ss.drop i) ≤ 8192 ∧ Below w.heap.size w wr ∧ Hid (findS (ss.drop i) t = R)) (fun iv _ => n - (intOf iv).toNat)
  case atStart => exact ⟨0, by omega, rfl, by simpa using htot, Below.refl _ _, HL.out⟩
  case round =>
    obtain ⟨i, hi, rfl, ht, hbl, hd⟩ := hrel
    have HT := Lib.hid ht; have HBl := Lib.hid hbl; have HD := Lib.hid hd
    clear ht hbl hd
    by_cases hlt : i < n
    · have hd1 : decide ((i : Int) < (n : Int)) = true := by simpa using hlt
      obtain ⟨b, off, s, B, m, d, rfl, hb0, hc0, hc1, hbb, ⟨s0, s1⟩, hdr, hget⟩ := HS.out.look i hlt
      have h0 := (HBl.out.cell (p := ⟨_, _, none⟩) hb0).trans hc0
      have h1 := (HBl.out.cell (p := ⟨_, _, none⟩) hb0).trans hc1
      have HBB := Lib.hid (hbb.below HBl.out)
      have HTd := Lib.hid (tot_drop hdr); have HMl := Lib.hid hbb.len; have HDr := Lib.hid hdr
      obtain ⟨u, body⟩ := s
      have hm : m ≤ 8184 := by have h6 := HT.out; have h7 : tot (ss.drop i) = body.length + 8 + tot (ss.drop (i + 1)) := HTd.out; have h9 : body.length = m := HMl.out; omega
      simp only at s0 s1
      clear hb0 hc0 hc1 hbb hdr hget
      have h2 := hd0 wr (o := .cells #[.int .u8 u, .slice B m d] 24)
      have H2 := Lib.hid h2
      have H3 := Lib.hid (HBl.out.alloc HBl.out.size (.cells #[.int .u8 u, .slice B m d] 24))
      clear h2
      cases hu : (u == t) with
      | true =>
        have HE := Lib.hid (show R = (body, true) by rw [← HD.out.out]; exact findS_here HDr.out (by simpa using hu))
        go_wp2_with fail
        refine (clone_any B m d body _ (HBB.out.below H2.out) (by omega)).mono ?_; rintro e w2 ⟨A5, n5, c5, rfl, hb5, hw5⟩
        have HB5 := Lib.hid hb5; have HW5 := Lib.hid (H3.out.trans (hw5.mono H3.out.size))
        clear hb5 hw5
        go_wp2_with fail
        go_ret2
        exact find_mk HE.out HB5.out HW5.out
      | false =>
        have HE := Lib.hid (show findS (ss.drop (i + 1)) t = R by rw [← HD.out.out]; exact (findS_next HDr.out (by simpa using hu)).symm)
        go_wp2
        go_roundw
        case rel => exact ⟨i + 1, by omega, by go_num, by have h6 := HT.out; have h7 : tot (ss.drop i) = body.length + 8 + tot (ss.drop (i + 1)) := HTd.out; omega, H3.out, HE.out⟩
        case measure => simp [intOf]; omega
    · have hd1 : decide ((i : Int) < (n : Int)) = false := by simpa using hlt
      have HE := Lib.hid (show R = ([], false) by
        rw [← HD.out.out, List.drop_of_length_le (by rw [HS.out.len]; omega)]; rfl)
      go_wp2
      go_ret2
      exact find_mk HE.out (Bs.nil _ _ _) HBl.out
end Go.Proofs.Ytipjbgmikbbkoaa
