/- What Read and ReadInt (the program's, and the document's own) answer; for slices of up to 16384 bytes. -/
import Derived.Test.YtkoodhnfphmbnaaVarB
namespace Go.Proofs.Ytkoodhnfphmbnaa
set_option linter.unusedVariables false
set_option linter.unusedSimpArgs false
open Go.RowKit

/-- a number read, the place, the error. -/
def ReadPost (w : World) (p : Int × Int × Int) (e : Ending) (w' : World) : Prop :=
  e = .returned (.tuple #[.int .u64 p.1, .int .i64 p.2.1, .int .i64 p.2.2]) ∧ w = w'
theorem read_post {p q : Int × Int × Int} (h : p = q) {w : World} : ReadPost w p (.returned (.tuple #[.int .u64 q.1, .int .i64 q.2.1, .int .i64 q.2.2])) w := by
  subst h; exact ⟨rfl, rfl⟩

theorem read_post3 {p : Int × Int × Int} {x n e x' n' e' : Int} (h : p = (x', n', e')) (hx : x = x') (hn : n = n') (he : e = e') {w : World} : ReadPost w p (.returned (.tuple #[.int .u64 x, .int .i64 n, .int .i64 e])) w := by
  subst hx; subst hn; subst he; exact read_post h
theorem andNot128 : ∀ n : Fin 256, bits .andNot .u8 (n.val : Int) 128 = ((n.val % 128 : Nat) : Int) := by decide +kernel
theorem andNot_of (c : Int) (h0 : 0 ≤ c) (h1 : c ≤ 255) : bits .andNot .u8 c 128 = c % 128 := by
  have h := andNot128 ⟨c.toNat, by omega⟩
  simp only at h
  have e : ((c.toNat : Nat) : Int) = c := by omega
  rw [e] at h
  rw [h]; omega
theorem or_step {i : Nat} {acc u c : Int} (h : UnitOk i acc u) (hi : i ≤ 9) (c0 : 0 ≤ c) (c1 : c ≤ 255) (h9 : ¬ (i = 9 ∧ 1 < c)) :
    bits .or .u64 acc (IntKind.u64.wrap (IntKind.u64.wrap (bits .andNot .u8 c 128) * 2 ^ (7 * i))) = acc + c % 128 * u := by
  obtain ⟨t0, t1, t2⟩ := unit_term h hi c0 h9
  obtain ⟨u0, u1, a0, a1, _⟩ := unit_bound (c := c) h hi
  obtain ⟨hu, _, _⟩ := h
  have e7 : (2 : Int) ^ (7 * i) = u := by rw [hu, Int.pow_mul]; rfl
  have ew : ∀ y : Int, 0 ≤ y → y < 18446744073709551616 → IntKind.u64.wrap y = y := fun y h0 h1 => by rw [IntKind.wrap_u64]; omega
  rw [andNot_of c c0 c1, ew (c % 128) (by omega) (by omega), e7, ew _ t0 (by omega)]
  refine bits_join_low .u64 64 (by decide) wraps_u64 (7 * i) acc _ a0 ?_ (by omega) t0 ?_ (by omega)
  · rw [e7]; exact a1
  · rw [e7, Int.mul_emod_left]
theorem varRead_any (A : Option Addr) (n c : Nat) (bs : List Int) (at_ : Int) (w : World) (hb : Bs w A n c bs) (hn : n ≤ 16384) :
    Calls Try.prog 60 #[.slice A n c, .int .i64 at_] w (ReadPost w (readS bs at_)) := by
  have hlen := hb.len
  by_cases h0 : at_ < 0
  · have R := Lib.hid (read_post (w := w) (show readS bs at_ = (0, 0, 1) by simp [readS, h0]))
    clear hb hlen
    go_enter Try.func60, Try.ntmps60
    go_wp2
    go_ret3
    exact R.out
  · by_cases h1 : (n : Int) < at_
    · have R := Lib.hid (read_post (w := w) (show readS bs at_ = (0, 0, 1) by simp [readS, hlen, h1]))
      have hd : decide ((n : Int) < at_) = true := by simpa using h1
      clear hb hlen
      go_enter Try.func60, Try.ntmps60
      go_wp2
      go_ret3
      exact R.out
    · have hd : decide ((n : Int) < at_) = false := by simpa using h1
      obtain ⟨k, rfl⟩ : ∃ k : Nat, at_ = k := ⟨at_.toNat, by omega⟩
      have hk : k ≤ n := by omega
      obtain ⟨A2, c2, hsl, hb2⟩ := hb.slicel 28 undBytes sizeByte (k : Int) k rfl hk
      have hR : readS bs k = rdl (bs.drop k) k 0 0 1 := by rw [readS, if_neg (by omega)]; rfl
      obtain ⟨m, hm⟩ : ∃ m, n - k = m := ⟨_, rfl⟩
      rw [hm] at hb2 hsl
      have HR := Lib.hid hR; have HB := Lib.hid hb2
      have HM := Lib.hid hm
      clear hlen hb hb2 hR hm
      go_enter Try.func60, Try.ntmps60
      go_wp2
      go_loop [4, 21] (fun x iv => ∃ (i : Nat) (acc u : Int), iv = .int .i64 i ∧ x = .int .u64 acc ∧ i ≤ m ∧ i ≤ 9 ∧ Hid (UnitOk i acc u) ∧ Hid (readS bs k = rdl ((bs.drop k).drop i) (k + i) i acc u)) (fun _ iv => m - (intOf iv).toNat)
      case atStart => exact ⟨0, 0, 1, rfl, rfl, by omega, by omega, unit0, HR.out⟩
      case round =>
        obtain ⟨i, acc, u, rfl, rfl, hi, hi9, hu, hr⟩ := hrel
        obtain ⟨u0, u1, a0, a1, u2⟩ := unit_bound (c := 0) hu.out hi9
        clear u2
        by_cases him : i < m
        · obtain ⟨b, off, cc, rfl, hbl, hc1, c0, c1, hdrop, _⟩ := HB.out.look i him
          have HD := Lib.hid hdrop
          clear hdrop
          by_cases h9 : i = 9 ∧ 1 < cc
          · obtain ⟨rfl, h9⟩ := h9
            have R := Lib.hid (read_post (w := w) (show readS bs k = (0, 0, 4) by rw [hr.out, HD.out, rdl_long h9]))
            clear hr
            go_wp2
            go_ret3
            exact R.out
          · have HV := Lib.hid (or_step hu.out hi9 c0 c1 h9)
            by_cases hmore : 128 ≤ cc
            · have hi8 : i < 9 := by omega
              have HS := Lib.hid (show readS bs k = rdl ((bs.drop k).drop (i + 1)) (k + (i + 1)) (i + 1) (acc + cc % 128 * u) (u * 128) by
                rw [hr.out, HD.out, rdl_more h9 (by omega)]; rfl)
              clear hr
              go_wp2
              go_round
              case rel => exact ⟨i + 1, _, _, by go_num, by rw [HV.out], by omega, by omega, unit_step hu.out c0, HS.out⟩
              case measure => simp [intOf]; omega
            · have hdm : decide (128 ≤ cc) = false := by simpa using hmore
              have nine : ∃ b : Bool, ((i : Int) == 9) = b ∧ (b = true → decide (1 < cc) = false) := ⟨_, rfl, fun h => by
                simp at h; simp; omega⟩
              obtain ⟨b9, hd9, hb9⟩ := nine
              by_cases hz : cc = 0
              · have hdz : (cc == 0) = true := by simpa using hz
                by_cases hp : 0 < i
                · have R := Lib.hid (read_post (w := w) (show readS bs k = (0, 0, 3) by rw [hr.out, HD.out, hz, rdl_form hp]))
                  have hdp : decide (0 < i) = true := by simpa using hp
                  clear hr HV hz hp hmore h9
                  cases b9 with
                  | false =>
                    clear hb9
                    go_wp2
                    go_ret3
                    exact R.out
                  | true =>
                    have hd1 := hb9 rfl
                    clear hb9
                    go_wp2
                    go_ret3
                    exact R.out
                · have R := Lib.hid (show readS bs k = (acc + cc % 128 * u, ((k + i : Nat) : Int) + 1, 0) by rw [hr.out, HD.out, rdl_last h9 (by omega) (by omega)])
                  have hdp : decide (0 < i) = false := by simpa using hp
                  clear hr hz hp hmore h9
                  cases b9 with
                  | false =>
                    clear hb9
                    go_wp2
                    go_ret3
                    exact read_post3 R.out HV.out (by omega) rfl
                  | true =>
                    have hd1 := hb9 rfl
                    clear hb9
                    go_wp2
                    go_ret3
                    exact read_post3 R.out HV.out (by omega) rfl
              · have R := Lib.hid (show readS bs k = (acc + cc % 128 * u, ((k + i : Nat) : Int) + 1, 0) by rw [hr.out, HD.out, rdl_last h9 (by omega) (by omega)])
                have hdz : (cc == 0) = false := by simpa using hz
                clear hr hz hmore h9
                cases b9 with
                | false =>
                  clear hb9
                  go_wp2
                  go_ret3
                  exact read_post3 R.out HV.out (by omega) rfl
                | true =>
                  have hd1 := hb9 rfl
                  clear hb9
                  go_wp2
                  go_ret3
                  exact read_post3 R.out HV.out (by omega) rfl
        · obtain rfl : i = m := by omega
          have R := Lib.hid (read_post (w := w) (show readS bs k = (0, 0, 2) by
            have := HB.out.len
            rw [hr.out, List.drop_of_length_le (by omega), rdl_nil]))
          clear hr
          go_wp2
          go_ret3
          exact R.out

theorem ref_step {i : Nat} {acc u c : Int} (h : UnitOk i acc u) (hi : i ≤ 9) (c0 : 0 ≤ c) (c1 : c ≤ 255) (h9 : ¬ (i = 9 ∧ 1 < c)) :
    IntKind.u64.wrap (acc + IntKind.u64.wrap (c % 128 * u)) = acc + c % 128 * u := by
  obtain ⟨t0, t1, t2⟩ := unit_term h hi c0 h9
  obtain ⟨u0, u1, a0, a1, _⟩ := unit_bound (c := c) h hi
  have ew : ∀ y : Int, 0 ≤ y → y < 18446744073709551616 → IntKind.u64.wrap y = y := fun y h0 h1 => by rw [IntKind.wrap_u64]; omega
  rw [ew _ t0 (by omega), ew _ (by omega) t1]

theorem refVarRead_any (A : Option Addr) (n c : Nat) (bs : List Int) (at_ : Int) (w : World) (hb : Bs w A n c bs) (hn : n ≤ 16384) :
    Calls Try.prog 56 #[.slice A n c, .int .i64 at_] w (ReadPost w (readS bs at_)) := by
  have hlen := hb.len
  by_cases h0 : at_ < 0
  · have R := Lib.hid (read_post (w := w) (show readS bs at_ = (0, 0, 1) by simp [readS, h0]))
    clear hb hlen
    go_enter Try.func56, Try.ntmps56
    go_wp2
    go_ret3
    exact R.out
  · by_cases h1 : (n : Int) < at_
    · have R := Lib.hid (read_post (w := w) (show readS bs at_ = (0, 0, 1) by simp [readS, hlen, h1]))
      have hd : decide ((n : Int) < at_) = true := by simpa using h1
      clear hb hlen
      go_enter Try.func56, Try.ntmps56
      go_wp2
      go_ret3
      exact R.out
    · have hd : decide ((n : Int) < at_) = false := by simpa using h1
      obtain ⟨k, rfl⟩ : ∃ k : Nat, at_ = k := ⟨at_.toNat, by omega⟩
      have hk : k ≤ n := by omega
      have hR : readS bs k = rdl (bs.drop k) k 0 0 1 := by rw [readS, if_neg (by omega)]; rfl
      have HR := Lib.hid hR; have HB := Lib.hid hb; have HL := Lib.hid hlen
      clear hlen hb hR
      go_enter Try.func56, Try.ntmps56
      go_wp2
      go_loop [7, 8, 9] (fun x uv iv => ∃ (i : Nat) (acc u : Int), iv = .int .i64 i ∧ uv = .int .u64 u ∧ x = .int .u64 acc ∧ k + i ≤ n ∧ i ≤ 9 ∧ Hid (UnitOk i acc u) ∧ Hid (readS bs k = rdl (bs.drop (k + i)) (k + i) i acc u)) (fun _ _ iv => n - k - (intOf iv).toNat)
      case atStart => exact ⟨0, 0, 1, rfl, rfl, rfl, by omega, by omega, unit0, HR.out⟩
      case round =>
        obtain ⟨i, acc, u, rfl, rfl, rfl, hi, hi9, hu, hr⟩ := hrel
        obtain ⟨u0, u1, a0, a1, u2⟩ := unit_bound (c := 0) hu.out hi9
        clear u2
        by_cases him : k + i = n
        · have R := Lib.hid (read_post (w := w) (show readS bs k = (0, 0, 2) by
            rw [hr.out, List.drop_of_length_le (by have := HL.out; omega), rdl_nil]))
          have hd2 : ((k : Int) + (i : Int) == (n : Int)) = true := by simp; omega
          clear hr
          go_wp2
          go_ret3
          exact R.out
        · obtain ⟨b, off, cc, rfl, hbl, hc1, c0, c1, hdrop, _⟩ := HB.out.look (k + i) (by omega)
          have HD := Lib.hid hdrop
          have hd2 : ((k : Int) + (i : Int) == (n : Int)) = false := by simp; omega
          have hlt : k + i < n := by omega
          clear hdrop him
          by_cases h9 : i = 9 ∧ 1 < cc
          · obtain ⟨rfl, h9⟩ := h9
            have R := Lib.hid (read_post (w := w) (show readS bs k = (0, 0, 4) by rw [hr.out, HD.out, rdl_long h9]))
            clear hr
            go_wp2
            go_ret3
            exact R.out
          · have HV := Lib.hid (ref_step hu.out hi9 c0 c1 h9)
            by_cases hmore : 127 < cc
            · have hi8 : i < 9 := by omega
              have HS := Lib.hid (show readS bs k = rdl (bs.drop (k + (i + 1))) (k + (i + 1)) (i + 1) (acc + cc % 128 * u) (u * 128) by
                rw [hr.out, HD.out, rdl_more h9 (by omega)]; rfl)
              clear hr
              go_wp2
              go_round
              case rel =>
                have hu8 := (unit_bound (c := 0) hu.out hi9).2.2.2.2 hi8
                exact ⟨i + 1, _, u * 128, by go_num, by rw [IntKind.wrap_u64, Int.emod_eq_of_lt (by omega) (by omega)], by rw [HV.out], by omega, by omega, unit_step hu.out c0, HS.out⟩
              case measure => simp [intOf]; omega
            · have hdm : decide (127 < cc) = false := by simpa using hmore
              have nine : ∃ b : Bool, ((i : Int) == 9) = b ∧ (b = true → decide (1 < cc) = false) := ⟨_, rfl, fun h => by
                simp at h; simp; omega⟩
              obtain ⟨b9, hd9, hb9⟩ := nine
              by_cases hz : cc = 0
              · have hdz : (cc == 0) = true := by simpa using hz
                by_cases hp : 0 < i
                · have R := Lib.hid (read_post (w := w) (show readS bs k = (0, 0, 3) by rw [hr.out, HD.out, hz, rdl_form hp]))
                  have hdp : decide (0 < i) = true := by simpa using hp
                  clear hr HV hz hp hmore h9
                  cases b9 with
                  | false =>
                    clear hb9
                    go_wp2
                    go_ret3
                    exact R.out
                  | true =>
                    have hd1 := hb9 rfl
                    clear hb9
                    go_wp2
                    go_ret3
                    exact R.out
                · have R := Lib.hid (show readS bs k = (acc + cc % 128 * u, ((k + i : Nat) : Int) + 1, 0) by rw [hr.out, HD.out, rdl_last h9 (by omega) (by omega)])
                  have hdp : decide (0 < i) = false := by simpa using hp
                  clear hr hz hp hmore h9
                  cases b9 with
                  | false =>
                    clear hb9
                    go_wp2
                    go_ret3
                    exact read_post3 R.out HV.out (by omega) rfl
                  | true =>
                    have hd1 := hb9 rfl
                    clear hb9
                    go_wp2
                    go_ret3
                    exact read_post3 R.out HV.out (by omega) rfl
              · have R := Lib.hid (show readS bs k = (acc + cc % 128 * u, ((k + i : Nat) : Int) + 1, 0) by rw [hr.out, HD.out, rdl_last h9 (by omega) (by omega)])
                have hdz : (cc == 0) = false := by simpa using hz
                clear hr hz hmore h9
                cases b9 with
                | false =>
                  clear hb9
                  go_wp2
                  go_ret3
                  exact read_post3 R.out HV.out (by omega) rfl
                | true =>
                  have hd1 := hb9 rfl
                  clear hb9
                  go_wp2
                  go_ret3
                  exact read_post3 R.out HV.out (by omega) rfl

theorem rdl_range : ∀ (l : List Int) (p i : Nat) (acc u : Int), (∀ b ∈ l, 0 ≤ b ∧ b ≤ 255) → i ≤ 9 → UnitOk i acc u → 0 ≤ (rdl l p i acc u).1 ∧ (rdl l p i acc u).1 ≤ 18446744073709551615
  | [], p, i, acc, u, _, _, _ => by rw [rdl_nil]; decide
  | c :: l, p, i, acc, u, hb, hi, hu => by
    have hc := hb c (by simp)
    by_cases h9 : i = 9 ∧ 1 < c
    · obtain ⟨rfl, h9⟩ := h9; rw [rdl_long h9]; decide
    · obtain ⟨t0, t1, t2⟩ := unit_term hu hi hc.1 h9
      obtain ⟨_, _, a0, _, _⟩ := unit_bound (c := c) hu hi
      by_cases h1 : 127 < c
      · rw [rdl_more h9 h1]
        exact rdl_range l _ _ _ _ (fun b hb' => hb b (by simp [hb'])) (by omega) (unit_step hu hc.1)
      · by_cases h0 : c = 0 ∧ 0 < i
        · obtain ⟨rfl, h0⟩ := h0; rw [rdl_form h0]; decide
        · rw [rdl_last h9 h1 h0]; exact ⟨by show 0 ≤ acc + _; omega, by show acc + _ ≤ _; omega⟩
theorem readS_range (bs : List Int) (at_ : Int) (hb : ∀ b ∈ bs, 0 ≤ b ∧ b ≤ 255) : 0 ≤ (readS bs at_).1 ∧ (readS bs at_).1 ≤ 18446744073709551615 := by
  unfold readS
  split
  · decide
  · exact rdl_range _ _ _ _ _ (fun b h => hb b (List.mem_of_mem_drop h)) (by omega) unit0
def ReadIntPost (w : World) (p : Int × Int × Int) (e : Ending) (w' : World) : Prop :=
  e = .returned (.tuple #[.int .i64 p.1, .int .i64 p.2.1, .int .i64 p.2.2]) ∧ w = w'
theorem readInt_post {p : Int × Int × Int} {x n e : Int} (h : p = (x, n, e)) {w : World} : ReadIntPost w p (.returned (.tuple #[.int .i64 x, .int .i64 n, .int .i64 e])) w := by
  subst h; exact ⟨rfl, rfl⟩
theorem varReadInt_any (A : Option Addr) (n c : Nat) (bs : List Int) (at_ : Int) (w : World) (hb : Bs w A n c bs) (hn : n ≤ 16384) :
    Calls Try.prog 54 #[.slice A n c, .int .i64 at_] w (ReadIntPost w (readIntS bs at_)) := by
  have hr := readS_range bs at_ hb.byte
  have P := varRead_any A n c bs at_ w hb hn
  obtain ⟨p, hp⟩ : ∃ p, readS bs at_ = p := ⟨_, rfl⟩
  obtain ⟨x, nx, er⟩ := p
  rw [hp] at hr P
  obtain ⟨x0, x1⟩ := hr
  simp only at x0 x1
  have R := Lib.hid (readInt_post (w := w) (show readIntS bs at_ = (zag x, nx, er) by simp [readIntS, hp]))
  clear hb hp
  go_enter Try.func54, Try.ntmps54
  go_wp2_with fail
  refine P.mono ?_; rintro e w1 ⟨rfl, rfl⟩
  go_wp2_with fail
  refine (zag_any _ _ x0 x1).mono ?_; rintro e w1 ⟨rfl, rfl⟩
  go_wp2_with fail
  go_ret3
  exact R.out
theorem refVarReadInt_any (A : Option Addr) (n c : Nat) (bs : List Int) (at_ : Int) (w : World) (hb : Bs w A n c bs) (hn : n ≤ 16384) :
    Calls Try.prog 52 #[.slice A n c, .int .i64 at_] w (ReadIntPost w (readIntS bs at_)) := by
  have hr := readS_range bs at_ hb.byte
  have P := refVarRead_any A n c bs at_ w hb hn
  obtain ⟨p, hp⟩ : ∃ p, readS bs at_ = p := ⟨_, rfl⟩
  obtain ⟨x, nx, er⟩ := p
  rw [hp] at hr P
  obtain ⟨x0, x1⟩ := hr
  simp only at x0 x1
  by_cases he : er = 0
  · subst he
    have R := Lib.hid (readInt_post (w := w) (show readIntS bs at_ = (zag x, nx, 0) by simp [readIntS, hp]))
    clear hb hp
    go_enter Try.func52, Try.ntmps52
    go_wp2_with fail
    refine P.mono ?_; rintro e w1 ⟨rfl, rfl⟩
    go_wp2_with fail
    refine (refZag_any _ _ x0 x1).mono ?_; rintro e w1 ⟨rfl, rfl⟩
    go_wp2_with fail
    go_ret3
    exact R.out
  · obtain ⟨rfl, rfl⟩ := readS_err bs at_ x nx er hp he
    have R := Lib.hid (readInt_post (w := w) (show readIntS bs at_ = (0, 0, er) by simp [readIntS, hp, zag0]))
    have hd : (er == 0) = false := by simpa using he
    clear hb hp
    go_enter Try.func52, Try.ntmps52
    go_wp2_with fail
    refine P.mono ?_; rintro e w1 ⟨rfl, rfl⟩
    go_wp2_with fail
    go_ret3
    exact R.out
end Go.Proofs.Ytkoodhnfphmbnaa
