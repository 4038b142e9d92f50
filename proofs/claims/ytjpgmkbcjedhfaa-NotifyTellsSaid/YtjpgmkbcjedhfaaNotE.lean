/- What the document's own Same of layer 11 answers of equal lists, and the statements' own has and without; for lists of up to 16384. -/
import Derived.Test.YtjpgmkbcjedhfaaNotD
namespace Go.Proofs.Ytjpgmkbcjedhfaa
set_option linter.unusedVariables false
set_option linter.unusedSimpArgs false
open Go.RowKit
/-- a list but for a number. -/
def wo11 (k : Int) : List Int → List Int
  | [] => []
  | x :: l => if x = k then wo11 k l else x :: wo11 k l
theorem wo11_add (k x : Int) : ∀ (l : List Int), wo11 k (l ++ [x]) = if x = k then wo11 k l else wo11 k l ++ [x]
  | [] => by show (if x = k then wo11 k [] else x :: wo11 k []) = _; split <;> rfl
  | y :: l => by
    show (if y = k then wo11 k (l ++ [x]) else y :: wo11 k (l ++ [x])) = _
    rw [wo11_add k x l]
    by_cases hy : y = k
    · rw [if_pos hy, show wo11 k (y :: l) = wo11 k l from if_pos hy]
    · rw [if_neg hy, show wo11 k (y :: l) = y :: wo11 k l from if_neg hy]
      split <;> rfl
theorem wo11_len (k : Int) : ∀ l, (wo11 k l).length ≤ l.length
  | [] => Nat.le_refl _
  | y :: l => by
    have := wo11_len k l
    unfold wo11
    split <;> simp <;> omega
def OwnN (w : World) (xs : List Int) (e : Ending) (w' : World) : Prop := ∃ A n c, e = .returned (.slice A n c) ∧ w'.ownsRow w.heap.size 3 1 (.slice A n c) n (intC xs) ∧ Below w.heap.size w w'
theorem ints_at {xs : List Int} {i : Nat} {x : Int} (h : xs.drop i = x :: xs.drop (i + 1)) : i < xs.length ∧ xs.take (i + 1) = xs.take i ++ [x] := by
  have hl : i < xs.length := by
    rcases Nat.lt_or_ge i xs.length with h1 | h1
    · exact h1
    · rw [List.drop_of_length_le h1] at h; cases h
  refine ⟨hl, ?_⟩
  have h2 := List.drop_eq_getElem_cons hl
  rw [h] at h2; injection h2 with h2 _
  rw [List.take_add_one, List.getElem?_eq_getElem hl, ← h2]; rfl
set_option maxRecDepth 100000 in
set_option maxHeartbeats 4000000 in
theorem refSame11_eq (A : Option Addr) (n c : Nat) (ws : List Wt) (wa to : Int) (B : Option Addr) (m d : Nat) (w : World) (hx : Wts w A n c ws) (hy : Wts w B m d ws) (hn : n ≤ 16384) :
    Calls Try.prog 13 #[.agg #[.int .u32 wa, .int .u32 to, .slice A n c], .agg #[.int .u32 wa, .int .u32 to, .slice B m d]] w (YesN w true) := by
  have hlen := hx.len
  have hm : m = n := by have := hy.len; omega
  subst hm
  have RX := Lib.hid hx; have RY := Lib.hid hy
  clear hx hy
  obtain ⟨v1, hv1⟩ : ∃ W, w.alloc (.cells #[.int .u32 wa, .int .u32 to, .slice A m c] 25) = W := ⟨_, rfl⟩
  have fr1 : Fr w v1 w.heap.size [.cells #[.int .u32 wa, .int .u32 to, .slice A m c] 25] := hv1 ▸ Fr.first w _
  have z1 : v1.heap.size = w.heap.size + 1 := by rw [← hv1, Fr.size1]
  obtain ⟨v2, hv2⟩ : ∃ W, v1.alloc (.cells #[.int .u32 wa, .int .u32 to, .slice B m d] 25) = W := ⟨_, rfl⟩
  have fr2 : Fr w v2 w.heap.size [.cells #[.int .u32 wa, .int .u32 to, .slice A m c] 25, .cells #[.int .u32 wa, .int .u32 to, .slice B m d] 25] := hv2 ▸ fr1.more z1 _
  have z2 : v2.heap.size = w.heap.size + 2 := by rw [← hv2, Fr.size1, z1]
  generalize hq : w.heap.size = q at *
  have FR := Lib.hid fr2
  clear fr1 fr2
  have e0 : (wa != wa) = false := by simp
  have e1 : (to != to) = false := by simp
  have e2 : ((m : Int) != (m : Int)) = false := by simp
  have e2n : (m != m) = false := by simp
  have c00 : v2.cell? ⟨q, 0, none⟩ = some (.int .u32 wa) := FR.out.cell 0 0 rfl rfl rfl
  have c01 : v2.cell? ⟨q, 1, none⟩ = some (.int .u32 to) := FR.out.cell 0 1 rfl rfl rfl
  have c02 : v2.cell? ⟨q, 2, none⟩ = some (.slice A m c) := FR.out.cell 0 2 rfl rfl rfl
  have c10 : v2.cell? ⟨q + 1, 0, none⟩ = some (.int .u32 wa) := FR.out.cell 1 0 rfl rfl rfl
  have c11 : v2.cell? ⟨q + 1, 1, none⟩ = some (.int .u32 to) := FR.out.cell 1 1 rfl rfl rfl
  have c12 : v2.cell? ⟨q + 1, 2, none⟩ = some (.slice B m d) := FR.out.cell 1 2 rfl rfl rfl
  go_enter Try.func13, Try.ntmps13
  go_wp2
  clear c00 c01 c02 c10 c11 c12
  clear hv1 hv2 z1 z2
  go_loopw [5] (fun iv wr => ∃ (i : Nat), iv = .int .i64 (i : Int) ∧ i ≤ m ∧ Hid (Fr w wr q [.cells #[.int .u32 wa, .int .u32 to, .slice A m c] 25, .cells #[.int .u32 wa, .int .u32 to, .slice B m d] 25])) (fun iv _ => m - (intOf iv).toNat)
  case atStart => exact ⟨0, rfl, by omega, FR.out⟩
  case round =>
    clear FR
    obtain ⟨i, rfl, hi, FR⟩ := hrel
    by_cases hlt : i < m
    · have c1 : decide ((i : Int) < (m : Int)) = true := by simpa using hlt
      have i0 : (0 : Int) ≤ (i : Int) := by omega
      have i1 : (i : Int) < (m : Int) := by omega
      obtain ⟨b, off, rfl, _, k0, k1⟩ := Wts.look (ws := ws) (FR.out.es RX.out) i hlt
      obtain ⟨b2, off2, rfl, _, g0, g1⟩ := Wts.look (ws := ws) (FR.out.es RY.out) i hlt
      have hne := wt_neq (wtAt ws i) (wtAt ws i)
      rw [decide_eq_false (fun h => h rfl)] at hne
      generalize wtAt ws i = r at *
      have c00 : wr.cell? ⟨q, 0, none⟩ = some (.int .u32 wa) := FR.out.cell 0 0 rfl rfl rfl
      have c01 : wr.cell? ⟨q, 1, none⟩ = some (.int .u32 to) := FR.out.cell 0 1 rfl rfl rfl
      have c02 : wr.cell? ⟨q, 2, none⟩ = some (.slice (some ⟨b, off, none⟩) m c) := FR.out.cell 0 2 rfl rfl rfl
      have c10 : wr.cell? ⟨q + 1, 0, none⟩ = some (.int .u32 wa) := FR.out.cell 1 0 rfl rfl rfl
      have c11 : wr.cell? ⟨q + 1, 1, none⟩ = some (.int .u32 to) := FR.out.cell 1 1 rfl rfl rfl
      have c12 : wr.cell? ⟨q + 1, 2, none⟩ = some (.slice (some ⟨b2, off2, none⟩) m d) := FR.out.cell 1 2 rfl rfl rfl
      go_wp2
      go_quiet (fail)
      go_wp2
      go_roundw
      case rel => exact ⟨i + 1, by go_num, by omega, ⟨FR.out.blk, bel_drewN FR.out.bel _, FR.out.sz, FR.out.q0⟩⟩
      case measure => simp [intOf]; omega
    · have en : i = m := by omega
      have c1 : decide ((i : Int) < (m : Int)) = false := by simp; omega
      have c1n : decide (i < m) = false := by simp; omega
      clear en hlt hi
      have c00 : wr.cell? ⟨q, 0, none⟩ = some (.int .u32 wa) := FR.out.cell 0 0 rfl rfl rfl
      have c01 : wr.cell? ⟨q, 1, none⟩ = some (.int .u32 to) := FR.out.cell 0 1 rfl rfl rfl
      have c02 : wr.cell? ⟨q, 2, none⟩ = some (.slice A m c) := FR.out.cell 0 2 rfl rfl rfl
      have c10 : wr.cell? ⟨q + 1, 0, none⟩ = some (.int .u32 wa) := FR.out.cell 1 0 rfl rfl rfl
      have c11 : wr.cell? ⟨q + 1, 1, none⟩ = some (.int .u32 to) := FR.out.cell 1 1 rfl rfl rfl
      have c12 : wr.cell? ⟨q + 1, 2, none⟩ = some (.slice B m d) := FR.out.cell 1 2 rfl rfl rfl
      go_wp2
      go_ret
      exact ⟨rfl, FR.out.out⟩
set_option maxRecDepth 100000 in
set_option maxHeartbeats 4000000 in
theorem has11_any (A : Option Addr) (n c : Nat) (l : List Int) (k : Int) (w : World) (hx : Is w A n c l) (hn : n ≤ 16384) :
    Calls Try.prog 23 #[.slice A n c, .int .i64 k] w (fun e w' => e = .returned (.bool (decide (k ∈ l))) ∧ w' = w) := by
  have hlen : l.length = n := hx.len
  have RX := Lib.hid hx
  have HL := Lib.hid hlen
  obtain ⟨R, hR⟩ : ∃ R, decide (k ∈ l) = R := ⟨_, rfl⟩
  rw [hR]
  clear hx hlen
  go_enter Try.func23, Try.ntmps23
  go_wp2
  go_loopw [5] (fun iv wr => ∃ (i : Nat), iv = .int .i64 (i : Int) ∧ i ≤ n ∧ Hid (k ∉ l.take i) ∧ wr = w) (fun iv _ => n - (intOf iv).toNat)
  case atStart => exact ⟨0, rfl, by omega, by first | exact Lib.hid trivial | exact Lib.hid (by simp), by first | trivial | rfl⟩
  case round =>
    obtain ⟨i, rfl, hi, HNI, hwr⟩ := hrel
    subst hwr
    by_cases hlt : i < n
    · have c1 : decide ((i : Int) < (n : Int)) = true := by simpa using hlt
      have i0 : (0 : Int) ≤ (i : Int) := by omega
      have i1 : (i : Int) < (n : Int) := by omega
      obtain ⟨lb, loff, x, rfl, _, hc, hd⟩ := RX.out.look i hlt
      by_cases h2 : x = k
      · have c2 : (x == k) = true := by simp [h2]
        have HE := Lib.hid (show R = true from by rw [← hR]; exact decide_eq_true (h2 ▸ mem_at hd))
        clear hR hd h2
        go_wp2
        go_ret
        rw [HE.out]
        exact ⟨rfl, rfl⟩
      · have c2 : (x == k) = false := by simp [h2]
        have HN2 := Lib.hid (show k ∉ l.take (i + 1) from by rw [(ints_at hd).2]; intro hm; rcases List.mem_append.1 hm with hm | hm; exact HNI.out hm; simp at hm; exact h2 hm.symm)
        clear hd h2 HNI
        go_wp2
        go_roundw
        case rel => exact ⟨i + 1, by go_num, by omega, HN2, by first | trivial | rfl⟩
        case measure => simp [intOf]; omega
    · have en : i = n := by omega
      have c1 : decide ((i : Int) < (n : Int)) = false := by simp; omega
      have c1n : decide (i < n) = false := by simp; omega
      have HE := Lib.hid (show R = false from by rw [← hR]; exact decide_eq_false (by have h := HNI.out; rw [List.take_of_length_le (by rw [HL.out]; omega)] at h; exact h))
      clear en hlt hi hR
      go_wp2
      go_ret
      rw [HE.out]
      exact ⟨rfl, rfl⟩
set_option maxRecDepth 100000 in
set_option maxHeartbeats 4000000 in
theorem without11_any (A : Option Addr) (n c : Nat) (l : List Int) (k : Int) (w : World) (hx : Is w A n c l) (hn : n ≤ 16384) :
    Calls Try.prog 24 #[.slice A n c, .int .i64 k] w (OwnN w (wo11 k l)) := by
  obtain ⟨i5, hi5, hz0, hz1, hz2⟩ := info_of infoInt
  have HI := Lib.hid hi5; have HZ0 := Lib.hid hz0; have HZ1 := Lib.hid hz1; have HZ2 := Lib.hid hz2
  clear hi5 hz0 hz1 hz2
  have hlen : l.length = n := hx.len
  have RX := Lib.hid hx
  have HL := Lib.hid hlen
  clear hx hlen
  go_enter Try.func24, Try.ntmps24
  go_wp2
  go_loopw [5, 6] (fun ov iv wr => ∃ (i m d : Nat) (B : Option Addr), ov = .slice B m d ∧ iv = .int .i64 (i : Int) ∧ i ≤ n ∧ m ≤ i ∧ Hid (wr.ownsRow w.heap.size 3 1 (.slice B m d) m (intC (wo11 k (l.take i)))) ∧ Hid (Below w.heap.size w wr)) (fun _ iv _ => n - (intOf iv).toNat)
  case atStart => exact ⟨0, 0, 0, none, rfl, rfl, by omega, by omega, World.ownsRow_nil _ _ _ _, Below.refl _ _⟩
  case round =>
    obtain ⟨i, m, d, B, rfl, rfl, hi, hmi, OW, HB⟩ := hrel
    by_cases hlt : i < n
    · have c1 : decide ((i : Int) < (n : Int)) = true := by simpa using hlt
      have i0 : (0 : Int) ≤ (i : Int) := by omega
      have i1 : (i : Int) < (n : Int) := by omega
      obtain ⟨lb, loff, x, rfl, hlb, hc0, hd⟩ := RX.out.look i hlt
      have hc := (HB.out.cell (p := ⟨lb, loff + i, none⟩) hlb).trans hc0
      have ha := wo11_add k x (l.take i)
      rw [← (ints_at hd).2] at ha
      clear hd hc0
      by_cases h2 : x = k
      · have c2 : (x != k) = false := by simp [h2]
        have HA := Lib.hid (show wo11 k (l.take (i + 1)) = wo11 k (l.take i) by rw [ha]; exact if_pos h2)
        clear ha h2
        go_wp2
        go_roundw
        case rel => exact ⟨i + 1, m, d, B, rfl, by go_num, by omega, by omega, by rw [HA.out]; exact OW.out, HB⟩
        case measure => simp [intOf]; omega
      · have c2 : (x != k) = true := by simp [h2]
        have HA := Lib.hid (show wo11 k (l.take (i + 1)) = wo11 k (l.take i) ++ [x] by rw [ha]; exact if_neg h2)
        clear ha h2
        obtain ⟨A4, c4, w9, hap4, hown4, hbel4⟩ := eapp_lit (P := Try.prog) (ty := 39) (w0 := wr) (base := w.heap.size) (W := wr) Try.underlying39 HI.out HZ0.out HZ1.out HZ2.out rfl (by decide) OW.out (intC_one _) (intC [x]) (intC_one _) (m := 1) rfl (by unfold maxLen; omega) (by omega) (Below.refl _ wr) HB.out.size
        rw [← intC_app, ← HA.out] at hown4
        have HO4 := Lib.hid hown4; have HB4 := Lib.hid (HB.out.trans hbel4)
        have d0 := (HB4.out.cell (p := ⟨lb, loff + i, none⟩) hlb).trans ((HB.out.cell (p := ⟨lb, loff + i, none⟩) hlb).symm.trans hc)
        clear hown4 hbel4 OW HA
        replace hap4 : (Builtin.append_ #[39, 39] 39 #[_, .slice (some ⟨wr.heap.size, 0, none⟩) 1 1]).run Try.prog (wr.alloc (.cells #[.int .i64 x] 3)) = _ := hap4
        go_wp2_with (at_builtin; refine eapp_run (by rfl) rfl rfl rfl hap4 ?_)
        go_roundw
        case rel => exact ⟨i + 1, m + 1, c4, A4, rfl, by go_num, by omega, by omega, HO4.out, HB4.out⟩
        case measure => simp [intOf]; omega
    · have en : i = n := by omega
      have c1 : decide ((i : Int) < (n : Int)) = false := by simp; omega
      have c1n : decide (i < n) = false := by simp; omega
      have OWn := Lib.hid (show wr.ownsRow w.heap.size 3 1 (.slice B m d) m (intC (wo11 k l)) from by have h := OW.out; rw [List.take_of_length_le (by rw [HL.out]; omega)] at h; exact h)
      clear en hlt hi OW
      go_wp2
      go_ret
      exact ⟨_, _, _, rfl, OWn.out, HB.out⟩
end Go.Proofs.Ytjpgmkbcjedhfaa
