/- What the document's own All and Great, and Find, answer; for sections whose bytes are few. -/
import Derived.Test.YtipjbgmikbbkoaaSecN
import Derived.Lib.MinMax
namespace Go.Proofs.Ytipjbgmikbbkoaa
set_option linter.unusedVariables false
set_option linter.unusedSimpArgs false
open Go.RowKit

/-- the tag ahead of the i-th. -/
def prevT (ss : List (Int × List Int)) (i : Nat) : Int := if i = 0 then 0 else (ss.getD (i - 1) (0, [])).1
set_option maxHeartbeats 2000000 in
theorem refSecAll_any (A : Option Addr) (n c : Nat) (ss : List (Int × List Int)) (w : World) (hs : Ss w A n c ss) (hn : n ≤ 16384) (htot : tot ss ≤ 8192) :
    Calls Try.prog 18 #[.slice A n c] w (AllPost w (allS ss)) := by
  obtain ⟨R, hR⟩ : ∃ R, allS ss = R := ⟨_, rfl⟩
  have HL := Lib.hid (show allA (ss.drop 0) (prevT ss 0) [] = R by rw [← hR]; rfl)
  rw [hR]
  have HS := Lib.hid hs
  clear hs hR
  go_enter Try.func18, Try.ntmps18
  go_wp2
  go_loopw [4, 5] (fun v iv wr => ∃ (i k : Nat) (acc : List Int) (A3 : Option Addr) (c3 : Nat), i ≤ n ∧ iv = .int .i64 (i : Int) ∧ v = .slice A3 k c3 ∧ Bs wr A3 k c3 acc ∧ k + tot (ss.drop i) ≤ 8192 ∧ Below w.heap.size w wr ∧ Hid (allA (ss.drop i) (prevT ss i) acc = R)) (fun _ iv _ => n - (intOf iv).toNat)
  case atStart => exact ⟨0, 0, [], none, 0, by omega, rfl, rfl, Bs.nil _ _ _, by simpa using htot, Below.refl _ _, HL.out⟩
  case round =>
    obtain ⟨i, k, acc, A3, c3, hi, rfl, rfl, hbs, ht, hbl, hd⟩ := hrel
    have HBs := Lib.hid hbs; have HT := Lib.hid ht; have HBl := Lib.hid hbl; have HD := Lib.hid hd
    clear hbs ht hbl hd
    by_cases hlt : i < n
    · have hd1 : decide ((i : Int) < (n : Int)) = true := by simpa using hlt
      obtain ⟨b, off, s, B, m, d, hA, hb0, hc0, hc1, hbb, ⟨s0, s1⟩, hdr, hget⟩ := HS.out.look i hlt
      have h0 := (HBl.out.cell (p := ⟨_, _, none⟩) hb0).trans hc0
      have h1 := (HBl.out.cell (p := ⟨_, _, none⟩) hb0).trans hc1
      have HBB := Lib.hid (hbb.below HBl.out)
      have HTd := Lib.hid (tot_drop hdr); have HMl := Lib.hid hbb.len; have HDr := Lib.hid hdr
      have hnx : prevT ss (i + 1) = s.1 := by unfold prevT; rw [if_neg (by omega), Nat.add_sub_cancel, hget]
      have HNx := Lib.hid hnx
      obtain ⟨t, body⟩ := s
      simp only at s0 s1
      have hm : m ≤ 8184 := by have h6 := HT.out; have h7 : tot (ss.drop i) = body.length + 8 + tot (ss.drop (i + 1)) := HTd.out; have h9 : body.length = m := HMl.out; omega
      have hib1 : (0 : Int) ≤ (i : Int) := by omega
      have hib2 : (i : Int) < (n : Int) := by omega
      clear hbb hdr hget hnx
      obtain ⟨la, hla⟩ : ∃ la, prevT ss i = la := ⟨_, rfl⟩
      rw [hla] at HD
      -- whatever is ahead: the tag is refused
      by_cases htl : t ≤ la
      · have HE := Lib.hid (show R = ([], 3) by rw [← HD.out.out]; exact allA_form HDr.out htl)
        by_cases h00 : t = 0
        · have hd2 : (t == 0) = true := by simpa using h00
          subst hA
          go_wp2
          go_quiet (fail)
          go_wp2
          go_ret2
          exact all_mk HE.out (Bs.nil _ _ _) ⟨HBl.out.os, HBl.out.tape, HBl.out.output, HBl.out.size, HBl.out.block⟩
        · have hd2 : (t == 0) = false := by simpa using h00
          rcases Nat.eq_zero_or_pos i with hi0 | hi0
          · subst hi0
            rw [show prevT ss 0 = 0 from rfl] at hla
            omega
          · obtain ⟨l, hl⟩ : ∃ l, i = l + 1 := ⟨i - 1, by omega⟩
            have hg0 : decide ((0 : Int) < (i : Int)) = true := by simpa using hi0
            have hlw : IntKind.i64.wrap ((i : Int) - 1) = (l : Int) := by rw [IntKind.wrap_i64]; omega
            obtain ⟨b', off', s', B', m', d', hA', _, hc0', _, _, _, _, hget'⟩ := HS.out.look l (by omega)
            rw [hA] at hA'; injection hA' with hA'; injection hA' with e1 e2; subst e1; subst e2
            have h0' := (HBl.out.cell (p := ⟨_, _, none⟩) hb0).trans hc0'
            have hla2 : s'.1 = la := by rw [← hla, prevT, if_neg (by omega), hl, Nat.add_sub_cancel, hget']
            rw [hla2] at h0'
            have hlb1 : (0 : Int) ≤ (l : Int) := by omega
            have hlb2 : (l : Int) < (n : Int) := by omega
            have hd3 : decide (t ≤ la) = true := by simpa using htl
            have HLl := Lib.hid hl
            subst hA
            clear hc0' hget' hla2 hla hl
            go_wp2
            go_quiet (fail)
            go_wp2
            go_ret2
            exact all_mk HE.out (Bs.nil _ _ _) ⟨HBl.out.os, HBl.out.tape, HBl.out.output, HBl.out.size, HBl.out.block⟩
      · have hm65 : body.length ≤ 65535 := by have h9 : body.length = m := HMl.out; omega
        have hla0 : 0 ≤ la := by
          rw [← hla]; unfold prevT
          split
          · omega
          · have h5 : ss.getD (i - 1) (0, []) ∈ ss := by
              have := HS.out.len
              simp [List.getD, List.getElem?_eq_getElem (show i - 1 < ss.length by omega)]
            exact (HS.out.tag _ h5).1
        have HE := Lib.hid (show allA (ss.drop (i + 1)) (prevT ss (i + 1)) (acc ++ secB (t, body)) = R by rw [← HD.out.out, HNx.out]; exact (allA_next HDr.out htl hm65).symm)
        have hd2 : (t == 0) = false := by simp; omega
        have hap : appS acc (t, body) = (acc ++ secB (t, body), 0) := by
          have := wrS_ok (s := (t, body)) (by simp only; omega) hm65
          simp [appS, this]
        have W := Lib.hid (fun w2 h2 h3 => refAppend_any A3 k c3 acc t B m d body w2 h2 h3 (by have := HT.out; omega) (by omega) s0 s1)
        rw [hap] at W
        have HSl := Lib.hid (secB_len (t, body) hm65)
        obtain ⟨sb, hsb⟩ : ∃ sb, secB (t, body) = sb := ⟨_, rfl⟩
        rw [hsb] at HE W HSl
        rcases Nat.eq_zero_or_pos i with hi0 | hi0
        · have hg0 : decide (0 < i) = false := by simp; omega
          subst hA
          clear hm65 hla hap hsb hi0
          go_wp2
          go_quiet (fail)
          have HBl1 := Lib.hid (show Below w.heap.size w (wr.drewN nq) from ⟨HBl.out.os, HBl.out.tape, HBl.out.output, HBl.out.size, HBl.out.block⟩)
          go_wp2_with fail
          refine (W.out _ (HBs.out.drewN nq) (HBB.out.drewN nq)).mono ?_; rintro e w2 ⟨A5, n5, c5, rfl, hb5, hw5⟩
          have HBl2 := Lib.hid (HBl1.out.trans (hw5.mono HBl1.out.size)); have HB5 := Lib.hid hb5
          have HN5 := Lib.hid hb5.len
          clear hb5 hw5
          go_wp2_with fail
          go_roundw
          case rel =>
            refine ⟨i + 1, n5, acc ++ sb, A5, c5, by omega, by go_num, rfl, HB5.out, ?_, HBl2.out, HE.out⟩
            have h6 := HT.out; have h7 : tot (ss.drop i) = body.length + 8 + tot (ss.drop (i + 1)) := HTd.out; have h9 : body.length = m := HMl.out
            have h8 : sb.length ≤ body.length + 8 := HSl.out
            have h10 := HN5.out
            have h11 := HBs.out.len
            rw [List.length_append] at h10
            omega
          case measure => simp [intOf]; omega
        · obtain ⟨l, hl⟩ : ∃ l, i = l + 1 := ⟨i - 1, by omega⟩
          have hg0 : decide ((0 : Int) < (i : Int)) = true := by simpa using hi0
          have hlw : IntKind.i64.wrap ((i : Int) - 1) = (l : Int) := by rw [IntKind.wrap_i64]; omega
          obtain ⟨b', off', s', B', m', d', hA', _, hc0', _, _, _, _, hget'⟩ := HS.out.look l (by omega)
          rw [hA] at hA'; injection hA' with hA'; injection hA' with e1 e2; subst e1; subst e2
          have h0' := (HBl.out.cell (p := ⟨_, _, none⟩) hb0).trans hc0'
          have hla2 : s'.1 = la := by rw [← hla, prevT, if_neg (by omega), hl, Nat.add_sub_cancel, hget']
          rw [hla2] at h0'
          have hlb1 : (0 : Int) ≤ (l : Int) := by omega
          have hlb2 : (l : Int) < (n : Int) := by omega
          have hd3 : decide (t ≤ la) = false := by simpa using htl
          have HLl := Lib.hid hl
          subst hA
          clear hc0' hget' hla2 hla hl hm65 hap hsb
          go_wp2
          go_quiet (fail)
          have HBl1 := Lib.hid (show Below w.heap.size w (wr.drewN nq) from ⟨HBl.out.os, HBl.out.tape, HBl.out.output, HBl.out.size, HBl.out.block⟩)
          go_wp2_with fail
          refine (W.out _ (HBs.out.drewN nq) (HBB.out.drewN nq)).mono ?_; rintro e w2 ⟨A5, n5, c5, rfl, hb5, hw5⟩
          have HBl2 := Lib.hid (HBl1.out.trans (hw5.mono HBl1.out.size)); have HB5 := Lib.hid hb5
          have HN5 := Lib.hid hb5.len
          clear hb5 hw5
          go_wp2_with fail
          go_roundw
          case rel =>
            refine ⟨i + 1, n5, acc ++ sb, A5, c5, by omega, by go_num, rfl, HB5.out, ?_, HBl2.out, HE.out⟩
            have h6 := HT.out; have h7 : tot (ss.drop i) = body.length + 8 + tot (ss.drop (i + 1)) := HTd.out; have h9 : body.length = m := HMl.out
            have h8 : sb.length ≤ body.length + 8 := HSl.out
            have h10 := HN5.out
            have h11 := HBs.out.len
            rw [List.length_append] at h10
            omega
          case measure => simp [intOf]; omega
    · have hd1 : decide ((i : Int) < (n : Int)) = false := by simpa using hlt
      have HE := Lib.hid (show R = (acc, 0) by
        rw [← HD.out.out, List.drop_of_length_le (by rw [HS.out.len]; omega)]; rfl)
      go_wp2
      go_ret2
      exact all_mk HE.out HBs.out HBl.out
end Go.Proofs.Ytipjbgmikbbkoaa
