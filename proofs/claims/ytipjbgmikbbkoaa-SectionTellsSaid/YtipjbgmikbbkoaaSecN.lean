/- What All (the program's and the document's own) answers; for sections whose bytes are few. -/
import Derived.Test.YtipjbgmikbbkoaaSecM
namespace Go.Proofs.Ytipjbgmikbbkoaa
set_option linter.unusedVariables false
set_option linter.unusedSimpArgs false
open Go.RowKit

/-- how much the sections are, with what is written beside them. -/
def tot : List (Int × List Int) → Nat
  | [] => 0
  | s :: r => s.2.length + 8 + tot r
theorem tot_drop {ss : List (Int × List Int)} {i : Nat} {s : Int × List Int} (h : ss.drop i = s :: ss.drop (i + 1)) : tot (ss.drop i) = s.2.length + 8 + tot (ss.drop (i + 1)) := by rw [h]; rfl
theorem allA_form {ss : List (Int × List Int)} {i : Nat} {s : Int × List Int} {la : Int} {acc : List Int} (h : ss.drop i = s :: ss.drop (i + 1)) (ht : s.1 ≤ la) : allA (ss.drop i) la acc = ([], 3) := by
  rw [h, allA, if_pos ht]
theorem allA_next {ss : List (Int × List Int)} {i : Nat} {s : Int × List Int} {la : Int} {acc : List Int} (h : ss.drop i = s :: ss.drop (i + 1)) (ht : ¬ s.1 ≤ la) (hl : s.2.length ≤ 65535) : allA (ss.drop i) la acc = allA (ss.drop (i + 1)) s.1 (acc ++ secB s) := by
  rw [h, allA, if_neg ht, if_neg (by omega)]
theorem wrS_ok {s : Int × List Int} (h : s.1 ≠ 0) (hl : s.2.length ≤ 65535) : wrS s = (secB s, 0) := by unfold wrS; rw [if_neg h, if_neg (by omega)]
theorem secB_len (s : Int × List Int) (h : s.2.length ≤ 65535) : (secB s).length ≤ s.2.length + 8 := by
  have := headS_len s h
  simp only [secB, List.length_append, digs_len]; omega
theorem secB_byte {s : Int × List Int} (h0 : 0 ≤ s.1 ∧ s.1 ≤ 255) (hb : ∀ b ∈ s.2, 0 ≤ b ∧ b ≤ 255) : ∀ b ∈ secB s, 0 ≤ b ∧ b ≤ 255 := by
  intro b h
  simp only [secB, headS, List.mem_append, List.mem_cons] at h
  rcases h with (rfl | h | h) | h
  · exact h0
  · exact vb_byte _ b h
  · exact hb b h
  · exact digs_byte _ _ b h
def AllPost (w : World) (R : List Int × Int) (e : Ending) (w' : World) : Prop := BytesPost w R.1 [.int .i64 R.2] e w'
theorem all_mk {w w' : World} {R : List Int × Int} {l : List Int} {e : Int} (h : R = (l, e)) {A : Option Addr} {n c : Nat} (hb : Bs w' A n c l) (hw : Below w.heap.size w w') :
    AllPost w R (.returned (.tuple #[.slice A n c, .int .i64 e])) w' := by subst h; exact ⟨A, n, c, rfl, hb, hw⟩

set_option maxHeartbeats 1000000 in
theorem secAll_any (A : Option Addr) (n c : Nat) (ss : List (Int × List Int)) (w : World) (hs : Ss w A n c ss) (hn : n ≤ 16384) (htot : tot ss ≤ 8192) :
    Calls Try.prog 17 #[.slice A n c] w (AllPost w (allS ss)) := by
  obtain ⟨R, hR⟩ : ∃ R, allS ss = R := ⟨_, rfl⟩
  have HL := Lib.hid (show allA (ss.drop 0) 0 [] = R by rw [← hR]; rfl)
  rw [hR]
  have HS := Lib.hid hs
  clear hs hR
  go_enter Try.func17, Try.ntmps17
  go_wp2
  go_loopw [4, 5, 12] (fun v t iv wr => ∃ (i k : Nat) (acc : List Int) (la : Int), i ≤ n ∧ iv = .int .i64 (i : Int) ∧ t = .int .u8 la ∧ 0 ≤ la ∧ wr.ownsRow w.heap.size 5 1 v k (acc.map (Value.int .u8)) ∧ Hid (acc.length = k) ∧ k + tot (ss.drop i) ≤ 8192 ∧ Hid (∀ b ∈ acc, 0 ≤ b ∧ b ≤ 255) ∧ Below w.heap.size w wr ∧ Hid (allA (ss.drop i) la acc = R)) (fun _ _ iv _ => n - (intOf iv).toNat)
  case atStart => exact ⟨0, 0, [], 0, by omega, rfl, rfl, by omega, World.ownsRow_nil _ _ _ _, rfl, by simpa using htot, by simp [Hid], Below.refl _ _, HL.out⟩
  case round =>
    obtain ⟨i, k, acc, la, hi, rfl, rfl, hla, hown, hk, ht, hby, hbl, hd⟩ := hrel
    have HO := Lib.hid hown; have HK := Lib.hid hk; have HT := Lib.hid ht; have HBy := Lib.hid hby; have HBl := Lib.hid hbl; have HD := Lib.hid hd
    clear hown hk ht hby hbl hd
    by_cases hlt : i < n
    · obtain ⟨b, off, s, B, m, d, rfl, hb0, hc0, hc1, hbb, ⟨s0, s1⟩, hdr, hget⟩ := HS.out.look i hlt
      have h0 := (HBl.out.cell (p := ⟨_, _, none⟩) hb0).trans hc0
      have h1 := (HBl.out.cell (p := ⟨_, _, none⟩) hb0).trans hc1
      have HBB := Lib.hid (hbb.below HBl.out)
      have htd := tot_drop hdr
      have hml := hbb.len
      have HTd := Lib.hid htd; have HMl := Lib.hid hml; have HDr := Lib.hid hdr
      have hm : m ≤ 8184 := by have := HT.out; omega
      obtain ⟨t, body⟩ := s
      simp only at s0 s1
      clear hb0 hc0 hc1 hbb hdr hget htd hml
      by_cases htl : t ≤ la
      · have HE := Lib.hid (show R = ([], 3) by rw [← HD.out.out]; exact allA_form HDr.out htl)
        have hd2 : decide (t ≤ la) = true := by simpa using htl
        go_wp2_with fail
        go_ret2
        exact all_mk HE.out (Bs.nil _ _ _) (HBl.out.alloc HBl.out.size _)
      · have hd2 : decide (t ≤ la) = false := by simpa using htl
        have hm65 : body.length ≤ 65535 := by rw [HMl.out]; omega
        have HE := Lib.hid (show allA (ss.drop (i + 1)) t (acc ++ secB (t, body)) = R by rw [← HD.out.out]; exact (allA_next HDr.out htl hm65).symm)
        have W := Lib.hid (fun w2 h2 => written_any t B m d body w2 h2 (by omega) s0 s1)
        rw [wrS_ok (s := (t, body)) (by simp only; omega) hm65] at W
        have hsl := secB_len (t, body) hm65
        have HSb := Lib.hid (secB_byte (s := (t, body)) ⟨s0, s1⟩ HBB.out.byte)
        rw [HMl.out] at hsl
        have HSl := Lib.hid hsl
        obtain ⟨sb, hsb⟩ : ∃ sb, secB (t, body) = sb := ⟨_, rfl⟩
        rw [hsb] at HE W HSl HSb
        have h2 := hd0 wr (o := .cells #[.int .u8 t, .slice B m d] 24)
        have h3 := heap_alloc_new wr (.cells #[.int .u8 t, .slice B m d] 24)
        have H2 := Lib.hid h2; have H3 := Lib.hid h3
        clear hm65 hsl hsb h2 h3
        go_wp2_with fail
        refine (W.out _ (HBB.out.below H2.out)).mono ?_; rintro e w2 ⟨A2, n2, c2, rfl, hb2, hw2⟩
        have hn2 := hb2.len
        have hbw2 := (HBl.out.alloc HBl.out.size (.cells #[.int .u8 t, .slice B m d] 24)).trans (hw2.mono (by simp; exact Nat.le_succ_of_le HBl.out.size))
        have hp2 := (hw2.block _ (by simp)).trans H3.out
        have hown2 := own_below (HO.out.alloc (.cells #[.int .u8 t, .slice B m d] 24)) hw2
        obtain ⟨i5, hi5, hz0, hz1, hz2⟩ := info_parts infoByte
        obtain ⟨v4, w4, hap4, hown4, hgr4, _⟩ := app_own (P := Try.prog) w2 w.heap.size 22 22 5 i5 _ Try.underlying22 hi5 hz0 hz1 hz2 rfl _ k acc hown2 A2 n2 c2 sb hb2 (by have h6 := HT.out; have h7 : tot (ss.drop i) = body.length + 8 + tot (ss.drop (i + 1)) := HTd.out; have h8 := HSl.out; have h9 : body.length = m := HMl.out; omega) hbw2.size
        have hp4 := (hgr4.block _ (heap_lt hp2) (fun h => by
          have h5 := (HO.out.lt _ h.symm).2
          omega)).trans hp2
        have k0 := pair0 hp4
        have HB4 := Lib.hid (hbw2.grown hgr4 hbw2.size (fun k hk => (hown2.lt k hk).1)); have HO4 := Lib.hid hown4; have HN2 := Lib.hid hn2
        clear hb2 hw2 hn2 hbw2 hp2 hown2 hi5 hz0 hz1 hz2 hown4 hgr4 hp4
        go_wp2_with (at_builtin; refine wpl_app_run rfl rfl rfl rfl hap4 ?_)
        clear hap4
        go_roundw
        case rel =>
          refine ⟨i + 1, k + n2, acc ++ sb, t, by omega, by go_num, rfl, by omega, HO4.out, ?_, ?_, ?_, HB4.out, HE.out⟩
          · show _ = _
            rw [List.length_append, HK.out.out, HN2.out]
          · have h6 := HT.out; have h7 : tot (ss.drop i) = body.length + 8 + tot (ss.drop (i + 1)) := HTd.out; have h8 := HSl.out; have h9 : body.length = m := HMl.out; have h10 := HN2.out
            omega
          · intro x hx
            rcases List.mem_append.1 hx with h | h
            · exact HBy.out.out x h
            · exact HSb.out x h
        case measure => simp [intOf]; omega
    · obtain rfl : i = n := by omega
      have HE := Lib.hid (show R = (acc, 0) by
        rw [← HD.out.out, List.drop_of_length_le (by rw [HS.out.len]; omega)]; rfl)
      obtain ⟨A3, c3, rfl, hb3⟩ := Bs.of_own HO.out HBy.out.out
      have HB3 := Lib.hid hb3
      clear hb3
      go_wp2
      go_ret2
      exact all_mk HE.out HB3.out HBl.out
end Go.Proofs.Ytipjbgmikbbkoaa
