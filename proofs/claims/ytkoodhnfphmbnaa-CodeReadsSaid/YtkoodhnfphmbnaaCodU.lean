/- What slices.Equal of instructions and of numbers, and the landed code's own Same answer; for lists of up to 16384. -/
import Derived.Test.YtkoodhnfphmbnaaCodG
import Derived.Deep.RegionHeld3
import Derived.BigQuiet
import Derived.Deep.QuietTactic
namespace Go.Proofs.Ytkoodhnfphmbnaa
set_option linter.unusedVariables false
set_option linter.unusedSimpArgs false
open Go.RowKit
theorem take_eq_int {l l2 : List Int} {i : Nat} {x : Int} (h : l.take i = l2.take i) (h1 : l.drop i = x :: l.drop (i + 1)) (h2 : l2.drop i = x :: l2.drop (i + 1)) : l.take (i + 1) = l2.take (i + 1) := by
  rw [take_step h1, take_step h2, h]
set_option maxRecDepth 100000 in
set_option maxHeartbeats 4000000 in
theorem equalI_any (A : Option Addr) (n c : Nat) (xs : List I4) (B : Option Addr) (m d : Nat) (ys : List I4) (w : World) (hx : I4s w A n c xs) (hy : I4s w B m d ys) (hn : n ≤ 16384) :
    Calls Try.prog 33 #[.slice A n c, .slice B m d] w (YesC w (decide (xs = ys))) := by
  have hlx : xs.length = n := hx.len
  have hly : ys.length = m := hy.len
  have RX := Lib.hid hx; have RY := Lib.hid hy
  have HLX := Lib.hid hlx; have HLY := Lib.hid hly
  obtain ⟨R, hR⟩ : ∃ R, decide (xs = ys) = R := ⟨_, rfl⟩
  rw [hR]
  have HNO := Lib.hid (show ¬ xs = ys → R = false from fun h => by rw [← hR]; exact decide_eq_false h)
  have HYES := Lib.hid (show xs = ys → R = true from fun h => by rw [← hR]; exact decide_eq_true h)
  clear hx hy hR hlx hly
  by_cases hnm : n = m
  rotate_left
  · have t0 : ((n : Int) != (m : Int)) = true := by simp; omega
    have t0n : (n != m) = true := by simp; omega
    have HE := Lib.hid (HNO.out (fun h => hnm (by rw [← HLX.out, ← HLY.out, h])))
    clear hnm
    go_enter Try.func33, Try.ntmps33
    go_wp2
    go_ret
    rw [HE.out]
    exact ⟨rfl, Below.refl _ _⟩
  subst hnm
  have t0 : ((n : Int) != (n : Int)) = false := by simp
  have t0n : (n != n) = false := by simp
  go_enter Try.func33, Try.ntmps33
  go_wp2
  go_loopw [13] (fun iv wr => ∃ (i : Nat), iv = .int .i64 (i : Int) ∧ i ≤ n ∧ Hid (xs.take i = ys.take i) ∧ Hid (Below w.heap.size w wr)) (fun iv _ => n - (intOf iv).toNat)
  case atStart => exact ⟨0, rfl, by omega, Lib.hid (by simp), Lib.hid (Below.refl _ _)⟩
  case round =>
    obtain ⟨i, rfl, hi, HTK, HB⟩ := hrel
    by_cases hlt : i < n
    · have c1 : decide ((i : Int) < (n : Int)) = true := by simpa using hlt
      have c1n : decide (i < n) = true := by simpa using hlt
      have i0 : (0 : Int) ≤ (i : Int) := by omega
      have i1 : (i : Int) < (n : Int) := by omega
      have HLT := Lib.hid hlt
      obtain ⟨b, off, rfl, _, u0, u1, u2, u3⟩ := I4s.look (l := xs) (Es.below RX.out HB.out) i hlt
      obtain ⟨b2, off2, rfl, _, g0, g1, g2, g3⟩ := I4s.look (l := ys) (Es.below RY.out HB.out) i hlt
      have hne := i4_neq (inAt xs i) (inAt ys i)
      by_cases he : inAt xs i = inAt ys i
      · have HT2 := Lib.hid (take_eq_step HTK.out (by have := HLX.out; omega) (by have := HLY.out; omega) he)
        rw [decide_eq_false (fun h => h he)] at hne
        clear he hlt
        generalize inAt xs i = r at *
        generalize inAt ys i = r2 at *
        go_wp2
        go_quiet (fail)
        replace HB := Lib.hid (show Below w.heap.size w (wr.drewN nq) from bel_drewN HB.out _)
        clear u0 u1 u2 u3 g0 g1 g2 g3 hne
        obtain ⟨wn, hwn⟩ : ∃ W, wr.drewN nq = W := ⟨_, rfl⟩
        rw [hwn] at HB ⊢
        clear hwn
        go_wp2
        go_roundw
        case rel => have := HLT.out; exact ⟨i + 1, by go_num, by omega, HT2, HB⟩
        case measure => have := HLT.out; simp [intOf]; omega
      · have HE := Lib.hid (HNO.out (fun h => he (by rw [h])))
        rw [decide_eq_true (p := inAt xs i ≠ inAt ys i) he] at hne
        clear he hlt
        generalize inAt xs i = r at *
        generalize inAt ys i = r2 at *
        go_wp2
        go_quiet (fail)
        replace HB := Lib.hid (show Below w.heap.size w (wr.drewN nq) from bel_drewN HB.out _)
        clear u0 u1 u2 u3 g0 g1 g2 g3 hne
        obtain ⟨wn, hwn⟩ : ∃ W, wr.drewN nq = W := ⟨_, rfl⟩
        rw [hwn] at HB ⊢
        clear hwn
        go_wp2
        go_ret
        rw [HE.out]
        exact ⟨rfl, HB.out⟩
    · have en : i = n := by omega
      have c1 : decide ((i : Int) < (n : Int)) = false := by simp; omega
      have c1n : decide (i < n) = false := by simp; omega
      have HE := Lib.hid (HYES.out (by have h := HTK.out; rw [List.take_of_length_le (by rw [HLX.out]; omega), List.take_of_length_le (by rw [HLY.out]; omega)] at h; exact h))
      clear en hlt hi
      go_wp2
      go_ret
      rw [HE.out]
      exact ⟨rfl, HB.out⟩
set_option maxRecDepth 100000 in
set_option maxHeartbeats 4000000 in
theorem equalN_any (A : Option Addr) (n c : Nat) (xs : List Int) (B : Option Addr) (m d : Nat) (ys : List Int) (w : World) (hx : Is w A n c xs) (hy : Is w B m d ys) (hn : n ≤ 16384) :
    Calls Try.prog 34 #[.slice A n c, .slice B m d] w (YesC w (decide (xs = ys))) := by
  have hlx : xs.length = n := hx.len
  have hly : ys.length = m := hy.len
  have RX := Lib.hid hx; have RY := Lib.hid hy
  have HLX := Lib.hid hlx; have HLY := Lib.hid hly
  obtain ⟨R, hR⟩ : ∃ R, decide (xs = ys) = R := ⟨_, rfl⟩
  rw [hR]
  have HNO := Lib.hid (show ¬ xs = ys → R = false from fun h => by rw [← hR]; exact decide_eq_false h)
  have HYES := Lib.hid (show xs = ys → R = true from fun h => by rw [← hR]; exact decide_eq_true h)
  clear hx hy hR hlx hly
  by_cases hnm : n = m
  rotate_left
  · have t0 : ((n : Int) != (m : Int)) = true := by simp; omega
    have t0n : (n != m) = true := by simp; omega
    have HE := Lib.hid (HNO.out (fun h => hnm (by rw [← HLX.out, ← HLY.out, h])))
    clear hnm
    go_enter Try.func34, Try.ntmps34
    go_wp2
    go_ret
    rw [HE.out]
    exact ⟨rfl, Below.refl _ _⟩
  subst hnm
  have t0 : ((n : Int) != (n : Int)) = false := by simp
  have t0n : (n != n) = false := by simp
  go_enter Try.func34, Try.ntmps34
  go_wp2
  go_loopw [13] (fun iv wr => ∃ (i : Nat), iv = .int .i64 (i : Int) ∧ i ≤ n ∧ Hid (xs.take i = ys.take i) ∧ Hid (Below w.heap.size w wr)) (fun iv _ => n - (intOf iv).toNat)
  case atStart => exact ⟨0, rfl, by omega, Lib.hid (by simp), Lib.hid (Below.refl _ _)⟩
  case round =>
    obtain ⟨i, rfl, hi, HTK, HB⟩ := hrel
    by_cases hlt : i < n
    · have c1 : decide ((i : Int) < (n : Int)) = true := by simpa using hlt
      have c1n : decide (i < n) = true := by simpa using hlt
      have i0 : (0 : Int) ≤ (i : Int) := by omega
      have i1 : (i : Int) < (n : Int) := by omega
      have HLT := Lib.hid hlt
      obtain ⟨b, off, x, rfl, _, u0, hdx⟩ := Is.look (xs := xs) (Es.below RX.out HB.out) i hlt
      obtain ⟨b2, off2, y, rfl, _, g0, hdy⟩ := Is.look (xs := ys) (Es.below RY.out HB.out) i hlt
      by_cases he : x = y
      · subst he
        have HT2 := Lib.hid (take_eq_int HTK.out hdx hdy)
        have hne : (x != x) = false := by simp
        clear hlt hdx hdy
        go_wp2
        go_quiet (fail)
        replace HB := Lib.hid (show Below w.heap.size w (wr.drewN nq) from bel_drewN HB.out _)
        clear u0 g0 hne
        obtain ⟨wn, hwn⟩ : ∃ W, wr.drewN nq = W := ⟨_, rfl⟩
        rw [hwn] at HB ⊢
        clear hwn
        go_wp2
        go_roundw
        case rel => have := HLT.out; exact ⟨i + 1, by go_num, by omega, HT2, HB⟩
        case measure => have := HLT.out; simp [intOf]; omega
      · have HE := Lib.hid (HNO.out (unlike_at hdx hdy he))
        have hne : (x != y) = true := by simp [he]
        clear he hlt hdx hdy
        go_wp2
        go_quiet (fail)
        replace HB := Lib.hid (show Below w.heap.size w (wr.drewN nq) from bel_drewN HB.out _)
        clear u0 g0 hne
        obtain ⟨wn, hwn⟩ : ∃ W, wr.drewN nq = W := ⟨_, rfl⟩
        rw [hwn] at HB ⊢
        clear hwn
        go_wp2
        go_ret
        rw [HE.out]
        exact ⟨rfl, HB.out⟩
    · have en : i = n := by omega
      have c1 : decide ((i : Int) < (n : Int)) = false := by simp; omega
      have c1n : decide (i < n) = false := by simp; omega
      have HE := Lib.hid (HYES.out (by have h := HTK.out; rw [List.take_of_length_le (by rw [HLX.out]; omega), List.take_of_length_le (by rw [HLY.out]; omega)] at h; exact h))
      clear en hlt hi
      go_wp2
      go_ret
      rw [HE.out]
      exact ⟨rfl, HB.out⟩
set_option maxRecDepth 100000 in
set_option maxHeartbeats 4000000 in
theorem sameL_any (A : Option Addr) (n c : Nat) (B : Option Addr) (m d : Nat) (C : Option Addr) (k f : Nat) (co : List I4) (ki si : List Int) (ce re pa : Int) (w : World) (hx : I4s w A n c co) (hy : Is w B m d ki) (hz : Is w C k f si) (hn : n ≤ 16384) (hm : m ≤ 16384) (hk : k ≤ 16384) (A2 : Option Addr) (n2 c2 : Nat) (B2 : Option Addr) (m2 d2 : Nat) (C2 : Option Addr) (k2 f2 : Nat) (co2 : List I4) (ki2 si2 : List Int) (ce2 re2 pa2 : Int) (hx2 : I4s w A2 n2 c2 co2) (hy2 : Is w B2 m2 d2 ki2) (hz2 : Is w C2 k2 f2 si2) :
    Calls Try.prog 15 #[.agg #[.slice A n c, .slice B m d, .slice C k f, .int .i64 ce, .int .i64 re, .int .i64 pa], .agg #[.slice A2 n2 c2, .slice B2 m2 d2, .slice C2 k2 f2, .int .i64 ce2, .int .i64 re2, .int .i64 pa2]] w (YesC w (sameB ⟨co, ki, si, ce, re, pa⟩ ⟨co2, ki2, si2, ce2, re2, pa2⟩)) := by
  have RX := Lib.hid hx; have RY := Lib.hid hy; have RZ := Lib.hid hz; have RX2 := Lib.hid hx2; have RY2 := Lib.hid hy2; have RZ2 := Lib.hid hz2
  have E1 := fun (W : World) (h1 : I4s W A n c co) (h2 : I4s W A2 n2 c2 co2) => equalI_any A n c co A2 n2 c2 co2 W h1 h2 hn
  have E2 := fun (W : World) (h1 : Is W B m d ki) (h2 : Is W B2 m2 d2 ki2) => equalN_any B m d ki B2 m2 d2 ki2 W h1 h2 hm
  have E3 := fun (W : World) (h1 : Is W C k f si) (h2 : Is W C2 k2 f2 si2) => equalN_any C k f si C2 k2 f2 si2 W h1 h2 hk
  have HO : sameB ⟨co, ki, si, ce, re, pa⟩ ⟨co2, ki2, si2, ce2, re2, pa2⟩ = (decide (co = co2) && (decide (ki = ki2) && (decide (si = si2) && ((ce == ce2) && ((re == re2) && (pa == pa2)))))) := by
    unfold sameB
    simp only [Bool.decide_and]
    rfl
  obtain ⟨R, hR⟩ : ∃ R, sameB ⟨co, ki, si, ce, re, pa⟩ ⟨co2, ki2, si2, ce2, re2, pa2⟩ = R := ⟨_, rfl⟩
  rw [hR] at HO
  rw [hR]
  clear hx hy hz hx2 hy2 hz2 hR
  obtain ⟨v1, hv1⟩ : ∃ W, w.alloc (.cells #[.slice A n c, .slice B m d, .slice C k f, .int .i64 ce, .int .i64 re, .int .i64 pa] 25) = W := ⟨_, rfl⟩
  have fr1 : Fr w v1 w.heap.size [.cells #[.slice A n c, .slice B m d, .slice C k f, .int .i64 ce, .int .i64 re, .int .i64 pa] 25] := hv1 ▸ Fr.first w _
  have z1 : v1.heap.size = w.heap.size + 1 := by rw [← hv1, Fr.size1]
  obtain ⟨v2, hv2⟩ : ∃ W, v1.alloc (.cells #[.slice A2 n2 c2, .slice B2 m2 d2, .slice C2 k2 f2, .int .i64 ce2, .int .i64 re2, .int .i64 pa2] 25) = W := ⟨_, rfl⟩
  have fr2 : Fr w v2 w.heap.size [.cells #[.slice A n c, .slice B m d, .slice C k f, .int .i64 ce, .int .i64 re, .int .i64 pa] 25, .cells #[.slice A2 n2 c2, .slice B2 m2 d2, .slice C2 k2 f2, .int .i64 ce2, .int .i64 re2, .int .i64 pa2] 25] := hv2 ▸ fr1.more z1 _
  have z2 : v2.heap.size = w.heap.size + 2 := by rw [← hv2, Fr.size1, z1]
  generalize hq : w.heap.size = q at *
  have FR := Lib.hid fr2
  clear fr1 fr2
  cases h1 : decide (co = co2)
  · rw [h1] at E1 HO
    replace E1 := Lib.hid E1
    have HE := Lib.hid (show R = false from HO.trans (by simp only [Bool.false_and, Bool.true_and]))
    clear HO h1 E2 E3
    go_enter Try.func15, Try.ntmps15
    have c00 : v2.cell? ⟨q, 0, none⟩ = some (.slice A n c) := FR.out.cell 0 0 rfl rfl rfl
    have c01 : v2.cell? ⟨q, 1, none⟩ = some (.slice B m d) := FR.out.cell 0 1 rfl rfl rfl
    have c02 : v2.cell? ⟨q, 2, none⟩ = some (.slice C k f) := FR.out.cell 0 2 rfl rfl rfl
    have c03 : v2.cell? ⟨q, 3, none⟩ = some (.int .i64 ce) := FR.out.cell 0 3 rfl rfl rfl
    have c04 : v2.cell? ⟨q, 4, none⟩ = some (.int .i64 re) := FR.out.cell 0 4 rfl rfl rfl
    have c05 : v2.cell? ⟨q, 5, none⟩ = some (.int .i64 pa) := FR.out.cell 0 5 rfl rfl rfl
    have c10 : v2.cell? ⟨q + 1, 0, none⟩ = some (.slice A2 n2 c2) := FR.out.cell 1 0 rfl rfl rfl
    have c11 : v2.cell? ⟨q + 1, 1, none⟩ = some (.slice B2 m2 d2) := FR.out.cell 1 1 rfl rfl rfl
    have c12 : v2.cell? ⟨q + 1, 2, none⟩ = some (.slice C2 k2 f2) := FR.out.cell 1 2 rfl rfl rfl
    have c13 : v2.cell? ⟨q + 1, 3, none⟩ = some (.int .i64 ce2) := FR.out.cell 1 3 rfl rfl rfl
    have c14 : v2.cell? ⟨q + 1, 4, none⟩ = some (.int .i64 re2) := FR.out.cell 1 4 rfl rfl rfl
    have c15 : v2.cell? ⟨q + 1, 5, none⟩ = some (.int .i64 pa2) := FR.out.cell 1 5 rfl rfl rfl
    go_wp2_with fail
    refine ((E1.out _ (FR.out.es RX.out) (FR.out.es RX2.out))).mono ?_
    rintro e w3 ⟨rfl, hb⟩
    clear c00 c01 c02 c03 c04 c05 c10 c11 c12 c13 c14 c15
    replace FR := Lib.hid (FR.out.step hb)
    clear hb
    have c00 : w3.cell? ⟨q, 0, none⟩ = some (.slice A n c) := FR.out.cell 0 0 rfl rfl rfl
    have c01 : w3.cell? ⟨q, 1, none⟩ = some (.slice B m d) := FR.out.cell 0 1 rfl rfl rfl
    have c02 : w3.cell? ⟨q, 2, none⟩ = some (.slice C k f) := FR.out.cell 0 2 rfl rfl rfl
    have c03 : w3.cell? ⟨q, 3, none⟩ = some (.int .i64 ce) := FR.out.cell 0 3 rfl rfl rfl
    have c04 : w3.cell? ⟨q, 4, none⟩ = some (.int .i64 re) := FR.out.cell 0 4 rfl rfl rfl
    have c05 : w3.cell? ⟨q, 5, none⟩ = some (.int .i64 pa) := FR.out.cell 0 5 rfl rfl rfl
    have c10 : w3.cell? ⟨q + 1, 0, none⟩ = some (.slice A2 n2 c2) := FR.out.cell 1 0 rfl rfl rfl
    have c11 : w3.cell? ⟨q + 1, 1, none⟩ = some (.slice B2 m2 d2) := FR.out.cell 1 1 rfl rfl rfl
    have c12 : w3.cell? ⟨q + 1, 2, none⟩ = some (.slice C2 k2 f2) := FR.out.cell 1 2 rfl rfl rfl
    have c13 : w3.cell? ⟨q + 1, 3, none⟩ = some (.int .i64 ce2) := FR.out.cell 1 3 rfl rfl rfl
    have c14 : w3.cell? ⟨q + 1, 4, none⟩ = some (.int .i64 re2) := FR.out.cell 1 4 rfl rfl rfl
    have c15 : w3.cell? ⟨q + 1, 5, none⟩ = some (.int .i64 pa2) := FR.out.cell 1 5 rfl rfl rfl
    go_wp2
    go_ret
    rw [HE.out]
    exact ⟨rfl, FR.out.out⟩
  · rw [h1] at E1 HO
    replace E1 := Lib.hid E1
    clear h1
    cases h2 : decide (ki = ki2)
    · rw [h2] at E2 HO
      replace E2 := Lib.hid E2
      have HE := Lib.hid (show R = false from HO.trans (by simp only [Bool.false_and, Bool.true_and]))
      clear HO h2 E3
      go_enter Try.func15, Try.ntmps15
      have c00 : v2.cell? ⟨q, 0, none⟩ = some (.slice A n c) := FR.out.cell 0 0 rfl rfl rfl
      have c01 : v2.cell? ⟨q, 1, none⟩ = some (.slice B m d) := FR.out.cell 0 1 rfl rfl rfl
      have c02 : v2.cell? ⟨q, 2, none⟩ = some (.slice C k f) := FR.out.cell 0 2 rfl rfl rfl
      have c03 : v2.cell? ⟨q, 3, none⟩ = some (.int .i64 ce) := FR.out.cell 0 3 rfl rfl rfl
      have c04 : v2.cell? ⟨q, 4, none⟩ = some (.int .i64 re) := FR.out.cell 0 4 rfl rfl rfl
      have c05 : v2.cell? ⟨q, 5, none⟩ = some (.int .i64 pa) := FR.out.cell 0 5 rfl rfl rfl
      have c10 : v2.cell? ⟨q + 1, 0, none⟩ = some (.slice A2 n2 c2) := FR.out.cell 1 0 rfl rfl rfl
      have c11 : v2.cell? ⟨q + 1, 1, none⟩ = some (.slice B2 m2 d2) := FR.out.cell 1 1 rfl rfl rfl
      have c12 : v2.cell? ⟨q + 1, 2, none⟩ = some (.slice C2 k2 f2) := FR.out.cell 1 2 rfl rfl rfl
      have c13 : v2.cell? ⟨q + 1, 3, none⟩ = some (.int .i64 ce2) := FR.out.cell 1 3 rfl rfl rfl
      have c14 : v2.cell? ⟨q + 1, 4, none⟩ = some (.int .i64 re2) := FR.out.cell 1 4 rfl rfl rfl
      have c15 : v2.cell? ⟨q + 1, 5, none⟩ = some (.int .i64 pa2) := FR.out.cell 1 5 rfl rfl rfl
      go_wp2_with fail
      refine ((E1.out _ (FR.out.es RX.out) (FR.out.es RX2.out))).mono ?_
      rintro e w3 ⟨rfl, hb⟩
      clear c00 c01 c02 c03 c04 c05 c10 c11 c12 c13 c14 c15
      replace FR := Lib.hid (FR.out.step hb)
      clear hb
      have c00 : w3.cell? ⟨q, 0, none⟩ = some (.slice A n c) := FR.out.cell 0 0 rfl rfl rfl
      have c01 : w3.cell? ⟨q, 1, none⟩ = some (.slice B m d) := FR.out.cell 0 1 rfl rfl rfl
      have c02 : w3.cell? ⟨q, 2, none⟩ = some (.slice C k f) := FR.out.cell 0 2 rfl rfl rfl
      have c03 : w3.cell? ⟨q, 3, none⟩ = some (.int .i64 ce) := FR.out.cell 0 3 rfl rfl rfl
      have c04 : w3.cell? ⟨q, 4, none⟩ = some (.int .i64 re) := FR.out.cell 0 4 rfl rfl rfl
      have c05 : w3.cell? ⟨q, 5, none⟩ = some (.int .i64 pa) := FR.out.cell 0 5 rfl rfl rfl
      have c10 : w3.cell? ⟨q + 1, 0, none⟩ = some (.slice A2 n2 c2) := FR.out.cell 1 0 rfl rfl rfl
      have c11 : w3.cell? ⟨q + 1, 1, none⟩ = some (.slice B2 m2 d2) := FR.out.cell 1 1 rfl rfl rfl
      have c12 : w3.cell? ⟨q + 1, 2, none⟩ = some (.slice C2 k2 f2) := FR.out.cell 1 2 rfl rfl rfl
      have c13 : w3.cell? ⟨q + 1, 3, none⟩ = some (.int .i64 ce2) := FR.out.cell 1 3 rfl rfl rfl
      have c14 : w3.cell? ⟨q + 1, 4, none⟩ = some (.int .i64 re2) := FR.out.cell 1 4 rfl rfl rfl
      have c15 : w3.cell? ⟨q + 1, 5, none⟩ = some (.int .i64 pa2) := FR.out.cell 1 5 rfl rfl rfl
      go_wp2_with fail
      refine ((E2.out _ (FR.out.es RY.out) (FR.out.es RY2.out))).mono ?_
      rintro e w4 ⟨rfl, hb⟩
      clear c00 c01 c02 c03 c04 c05 c10 c11 c12 c13 c14 c15
      replace FR := Lib.hid (FR.out.step hb)
      clear hb
      have c00 : w4.cell? ⟨q, 0, none⟩ = some (.slice A n c) := FR.out.cell 0 0 rfl rfl rfl
      have c01 : w4.cell? ⟨q, 1, none⟩ = some (.slice B m d) := FR.out.cell 0 1 rfl rfl rfl
      have c02 : w4.cell? ⟨q, 2, none⟩ = some (.slice C k f) := FR.out.cell 0 2 rfl rfl rfl
      have c03 : w4.cell? ⟨q, 3, none⟩ = some (.int .i64 ce) := FR.out.cell 0 3 rfl rfl rfl
      have c04 : w4.cell? ⟨q, 4, none⟩ = some (.int .i64 re) := FR.out.cell 0 4 rfl rfl rfl
      have c05 : w4.cell? ⟨q, 5, none⟩ = some (.int .i64 pa) := FR.out.cell 0 5 rfl rfl rfl
      have c10 : w4.cell? ⟨q + 1, 0, none⟩ = some (.slice A2 n2 c2) := FR.out.cell 1 0 rfl rfl rfl
      have c11 : w4.cell? ⟨q + 1, 1, none⟩ = some (.slice B2 m2 d2) := FR.out.cell 1 1 rfl rfl rfl
      have c12 : w4.cell? ⟨q + 1, 2, none⟩ = some (.slice C2 k2 f2) := FR.out.cell 1 2 rfl rfl rfl
      have c13 : w4.cell? ⟨q + 1, 3, none⟩ = some (.int .i64 ce2) := FR.out.cell 1 3 rfl rfl rfl
      have c14 : w4.cell? ⟨q + 1, 4, none⟩ = some (.int .i64 re2) := FR.out.cell 1 4 rfl rfl rfl
      have c15 : w4.cell? ⟨q + 1, 5, none⟩ = some (.int .i64 pa2) := FR.out.cell 1 5 rfl rfl rfl
      go_wp2
      go_ret
      rw [HE.out]
      exact ⟨rfl, FR.out.out⟩
    · rw [h2] at E2 HO
      replace E2 := Lib.hid E2
      clear h2
      cases h3 : decide (si = si2)
      · rw [h3] at E3 HO
        replace E3 := Lib.hid E3
        have HE := Lib.hid (show R = false from HO.trans (by simp only [Bool.false_and, Bool.true_and]))
        clear HO h3
        go_enter Try.func15, Try.ntmps15
        have c00 : v2.cell? ⟨q, 0, none⟩ = some (.slice A n c) := FR.out.cell 0 0 rfl rfl rfl
        have c01 : v2.cell? ⟨q, 1, none⟩ = some (.slice B m d) := FR.out.cell 0 1 rfl rfl rfl
        have c02 : v2.cell? ⟨q, 2, none⟩ = some (.slice C k f) := FR.out.cell 0 2 rfl rfl rfl
        have c03 : v2.cell? ⟨q, 3, none⟩ = some (.int .i64 ce) := FR.out.cell 0 3 rfl rfl rfl
        have c04 : v2.cell? ⟨q, 4, none⟩ = some (.int .i64 re) := FR.out.cell 0 4 rfl rfl rfl
        have c05 : v2.cell? ⟨q, 5, none⟩ = some (.int .i64 pa) := FR.out.cell 0 5 rfl rfl rfl
        have c10 : v2.cell? ⟨q + 1, 0, none⟩ = some (.slice A2 n2 c2) := FR.out.cell 1 0 rfl rfl rfl
        have c11 : v2.cell? ⟨q + 1, 1, none⟩ = some (.slice B2 m2 d2) := FR.out.cell 1 1 rfl rfl rfl
        have c12 : v2.cell? ⟨q + 1, 2, none⟩ = some (.slice C2 k2 f2) := FR.out.cell 1 2 rfl rfl rfl
        have c13 : v2.cell? ⟨q + 1, 3, none⟩ = some (.int .i64 ce2) := FR.out.cell 1 3 rfl rfl rfl
        have c14 : v2.cell? ⟨q + 1, 4, none⟩ = some (.int .i64 re2) := FR.out.cell 1 4 rfl rfl rfl
        have c15 : v2.cell? ⟨q + 1, 5, none⟩ = some (.int .i64 pa2) := FR.out.cell 1 5 rfl rfl rfl
        go_wp2_with fail
        refine ((E1.out _ (FR.out.es RX.out) (FR.out.es RX2.out))).mono ?_
        rintro e w3 ⟨rfl, hb⟩
        clear c00 c01 c02 c03 c04 c05 c10 c11 c12 c13 c14 c15
        replace FR := Lib.hid (FR.out.step hb)
        clear hb
        have c00 : w3.cell? ⟨q, 0, none⟩ = some (.slice A n c) := FR.out.cell 0 0 rfl rfl rfl
        have c01 : w3.cell? ⟨q, 1, none⟩ = some (.slice B m d) := FR.out.cell 0 1 rfl rfl rfl
        have c02 : w3.cell? ⟨q, 2, none⟩ = some (.slice C k f) := FR.out.cell 0 2 rfl rfl rfl
        have c03 : w3.cell? ⟨q, 3, none⟩ = some (.int .i64 ce) := FR.out.cell 0 3 rfl rfl rfl
        have c04 : w3.cell? ⟨q, 4, none⟩ = some (.int .i64 re) := FR.out.cell 0 4 rfl rfl rfl
        have c05 : w3.cell? ⟨q, 5, none⟩ = some (.int .i64 pa) := FR.out.cell 0 5 rfl rfl rfl
        have c10 : w3.cell? ⟨q + 1, 0, none⟩ = some (.slice A2 n2 c2) := FR.out.cell 1 0 rfl rfl rfl
        have c11 : w3.cell? ⟨q + 1, 1, none⟩ = some (.slice B2 m2 d2) := FR.out.cell 1 1 rfl rfl rfl
        have c12 : w3.cell? ⟨q + 1, 2, none⟩ = some (.slice C2 k2 f2) := FR.out.cell 1 2 rfl rfl rfl
        have c13 : w3.cell? ⟨q + 1, 3, none⟩ = some (.int .i64 ce2) := FR.out.cell 1 3 rfl rfl rfl
        have c14 : w3.cell? ⟨q + 1, 4, none⟩ = some (.int .i64 re2) := FR.out.cell 1 4 rfl rfl rfl
        have c15 : w3.cell? ⟨q + 1, 5, none⟩ = some (.int .i64 pa2) := FR.out.cell 1 5 rfl rfl rfl
        go_wp2_with fail
        refine ((E2.out _ (FR.out.es RY.out) (FR.out.es RY2.out))).mono ?_
        rintro e w4 ⟨rfl, hb⟩
        clear c00 c01 c02 c03 c04 c05 c10 c11 c12 c13 c14 c15
        replace FR := Lib.hid (FR.out.step hb)
        clear hb
        have c00 : w4.cell? ⟨q, 0, none⟩ = some (.slice A n c) := FR.out.cell 0 0 rfl rfl rfl
        have c01 : w4.cell? ⟨q, 1, none⟩ = some (.slice B m d) := FR.out.cell 0 1 rfl rfl rfl
        have c02 : w4.cell? ⟨q, 2, none⟩ = some (.slice C k f) := FR.out.cell 0 2 rfl rfl rfl
        have c03 : w4.cell? ⟨q, 3, none⟩ = some (.int .i64 ce) := FR.out.cell 0 3 rfl rfl rfl
        have c04 : w4.cell? ⟨q, 4, none⟩ = some (.int .i64 re) := FR.out.cell 0 4 rfl rfl rfl
        have c05 : w4.cell? ⟨q, 5, none⟩ = some (.int .i64 pa) := FR.out.cell 0 5 rfl rfl rfl
        have c10 : w4.cell? ⟨q + 1, 0, none⟩ = some (.slice A2 n2 c2) := FR.out.cell 1 0 rfl rfl rfl
        have c11 : w4.cell? ⟨q + 1, 1, none⟩ = some (.slice B2 m2 d2) := FR.out.cell 1 1 rfl rfl rfl
        have c12 : w4.cell? ⟨q + 1, 2, none⟩ = some (.slice C2 k2 f2) := FR.out.cell 1 2 rfl rfl rfl
        have c13 : w4.cell? ⟨q + 1, 3, none⟩ = some (.int .i64 ce2) := FR.out.cell 1 3 rfl rfl rfl
        have c14 : w4.cell? ⟨q + 1, 4, none⟩ = some (.int .i64 re2) := FR.out.cell 1 4 rfl rfl rfl
        have c15 : w4.cell? ⟨q + 1, 5, none⟩ = some (.int .i64 pa2) := FR.out.cell 1 5 rfl rfl rfl
        go_wp2_with fail
        refine ((E3.out _ (FR.out.es RZ.out) (FR.out.es RZ2.out))).mono ?_
        rintro e w5 ⟨rfl, hb⟩
        clear c00 c01 c02 c03 c04 c05 c10 c11 c12 c13 c14 c15
        replace FR := Lib.hid (FR.out.step hb)
        clear hb
        have c00 : w5.cell? ⟨q, 0, none⟩ = some (.slice A n c) := FR.out.cell 0 0 rfl rfl rfl
        have c01 : w5.cell? ⟨q, 1, none⟩ = some (.slice B m d) := FR.out.cell 0 1 rfl rfl rfl
        have c02 : w5.cell? ⟨q, 2, none⟩ = some (.slice C k f) := FR.out.cell 0 2 rfl rfl rfl
        have c03 : w5.cell? ⟨q, 3, none⟩ = some (.int .i64 ce) := FR.out.cell 0 3 rfl rfl rfl
        have c04 : w5.cell? ⟨q, 4, none⟩ = some (.int .i64 re) := FR.out.cell 0 4 rfl rfl rfl
        have c05 : w5.cell? ⟨q, 5, none⟩ = some (.int .i64 pa) := FR.out.cell 0 5 rfl rfl rfl
        have c10 : w5.cell? ⟨q + 1, 0, none⟩ = some (.slice A2 n2 c2) := FR.out.cell 1 0 rfl rfl rfl
        have c11 : w5.cell? ⟨q + 1, 1, none⟩ = some (.slice B2 m2 d2) := FR.out.cell 1 1 rfl rfl rfl
        have c12 : w5.cell? ⟨q + 1, 2, none⟩ = some (.slice C2 k2 f2) := FR.out.cell 1 2 rfl rfl rfl
        have c13 : w5.cell? ⟨q + 1, 3, none⟩ = some (.int .i64 ce2) := FR.out.cell 1 3 rfl rfl rfl
        have c14 : w5.cell? ⟨q + 1, 4, none⟩ = some (.int .i64 re2) := FR.out.cell 1 4 rfl rfl rfl
        have c15 : w5.cell? ⟨q + 1, 5, none⟩ = some (.int .i64 pa2) := FR.out.cell 1 5 rfl rfl rfl
        go_wp2
        go_ret
        rw [HE.out]
        exact ⟨rfl, FR.out.out⟩
      · rw [h3] at E3 HO
        replace E3 := Lib.hid E3
        clear h3
        cases h4 : (ce == ce2)
        · rw [h4] at HO
          have HE := Lib.hid (show R = false from HO.trans (by simp only [Bool.false_and, Bool.true_and]))
          clear HO 
          go_enter Try.func15, Try.ntmps15
          have c00 : v2.cell? ⟨q, 0, none⟩ = some (.slice A n c) := FR.out.cell 0 0 rfl rfl rfl
          have c01 : v2.cell? ⟨q, 1, none⟩ = some (.slice B m d) := FR.out.cell 0 1 rfl rfl rfl
          have c02 : v2.cell? ⟨q, 2, none⟩ = some (.slice C k f) := FR.out.cell 0 2 rfl rfl rfl
          have c03 : v2.cell? ⟨q, 3, none⟩ = some (.int .i64 ce) := FR.out.cell 0 3 rfl rfl rfl
          have c04 : v2.cell? ⟨q, 4, none⟩ = some (.int .i64 re) := FR.out.cell 0 4 rfl rfl rfl
          have c05 : v2.cell? ⟨q, 5, none⟩ = some (.int .i64 pa) := FR.out.cell 0 5 rfl rfl rfl
          have c10 : v2.cell? ⟨q + 1, 0, none⟩ = some (.slice A2 n2 c2) := FR.out.cell 1 0 rfl rfl rfl
          have c11 : v2.cell? ⟨q + 1, 1, none⟩ = some (.slice B2 m2 d2) := FR.out.cell 1 1 rfl rfl rfl
          have c12 : v2.cell? ⟨q + 1, 2, none⟩ = some (.slice C2 k2 f2) := FR.out.cell 1 2 rfl rfl rfl
          have c13 : v2.cell? ⟨q + 1, 3, none⟩ = some (.int .i64 ce2) := FR.out.cell 1 3 rfl rfl rfl
          have c14 : v2.cell? ⟨q + 1, 4, none⟩ = some (.int .i64 re2) := FR.out.cell 1 4 rfl rfl rfl
          have c15 : v2.cell? ⟨q + 1, 5, none⟩ = some (.int .i64 pa2) := FR.out.cell 1 5 rfl rfl rfl
          go_wp2_with fail
          refine ((E1.out _ (FR.out.es RX.out) (FR.out.es RX2.out))).mono ?_
          rintro e w3 ⟨rfl, hb⟩
          clear c00 c01 c02 c03 c04 c05 c10 c11 c12 c13 c14 c15
          replace FR := Lib.hid (FR.out.step hb)
          clear hb
          have c00 : w3.cell? ⟨q, 0, none⟩ = some (.slice A n c) := FR.out.cell 0 0 rfl rfl rfl
          have c01 : w3.cell? ⟨q, 1, none⟩ = some (.slice B m d) := FR.out.cell 0 1 rfl rfl rfl
          have c02 : w3.cell? ⟨q, 2, none⟩ = some (.slice C k f) := FR.out.cell 0 2 rfl rfl rfl
          have c03 : w3.cell? ⟨q, 3, none⟩ = some (.int .i64 ce) := FR.out.cell 0 3 rfl rfl rfl
          have c04 : w3.cell? ⟨q, 4, none⟩ = some (.int .i64 re) := FR.out.cell 0 4 rfl rfl rfl
          have c05 : w3.cell? ⟨q, 5, none⟩ = some (.int .i64 pa) := FR.out.cell 0 5 rfl rfl rfl
          have c10 : w3.cell? ⟨q + 1, 0, none⟩ = some (.slice A2 n2 c2) := FR.out.cell 1 0 rfl rfl rfl
          have c11 : w3.cell? ⟨q + 1, 1, none⟩ = some (.slice B2 m2 d2) := FR.out.cell 1 1 rfl rfl rfl
          have c12 : w3.cell? ⟨q + 1, 2, none⟩ = some (.slice C2 k2 f2) := FR.out.cell 1 2 rfl rfl rfl
          have c13 : w3.cell? ⟨q + 1, 3, none⟩ = some (.int .i64 ce2) := FR.out.cell 1 3 rfl rfl rfl
          have c14 : w3.cell? ⟨q + 1, 4, none⟩ = some (.int .i64 re2) := FR.out.cell 1 4 rfl rfl rfl
          have c15 : w3.cell? ⟨q + 1, 5, none⟩ = some (.int .i64 pa2) := FR.out.cell 1 5 rfl rfl rfl
          go_wp2_with fail
          refine ((E2.out _ (FR.out.es RY.out) (FR.out.es RY2.out))).mono ?_
          rintro e w4 ⟨rfl, hb⟩
          clear c00 c01 c02 c03 c04 c05 c10 c11 c12 c13 c14 c15
          replace FR := Lib.hid (FR.out.step hb)
          clear hb
          have c00 : w4.cell? ⟨q, 0, none⟩ = some (.slice A n c) := FR.out.cell 0 0 rfl rfl rfl
          have c01 : w4.cell? ⟨q, 1, none⟩ = some (.slice B m d) := FR.out.cell 0 1 rfl rfl rfl
          have c02 : w4.cell? ⟨q, 2, none⟩ = some (.slice C k f) := FR.out.cell 0 2 rfl rfl rfl
          have c03 : w4.cell? ⟨q, 3, none⟩ = some (.int .i64 ce) := FR.out.cell 0 3 rfl rfl rfl
          have c04 : w4.cell? ⟨q, 4, none⟩ = some (.int .i64 re) := FR.out.cell 0 4 rfl rfl rfl
          have c05 : w4.cell? ⟨q, 5, none⟩ = some (.int .i64 pa) := FR.out.cell 0 5 rfl rfl rfl
          have c10 : w4.cell? ⟨q + 1, 0, none⟩ = some (.slice A2 n2 c2) := FR.out.cell 1 0 rfl rfl rfl
          have c11 : w4.cell? ⟨q + 1, 1, none⟩ = some (.slice B2 m2 d2) := FR.out.cell 1 1 rfl rfl rfl
          have c12 : w4.cell? ⟨q + 1, 2, none⟩ = some (.slice C2 k2 f2) := FR.out.cell 1 2 rfl rfl rfl
          have c13 : w4.cell? ⟨q + 1, 3, none⟩ = some (.int .i64 ce2) := FR.out.cell 1 3 rfl rfl rfl
          have c14 : w4.cell? ⟨q + 1, 4, none⟩ = some (.int .i64 re2) := FR.out.cell 1 4 rfl rfl rfl
          have c15 : w4.cell? ⟨q + 1, 5, none⟩ = some (.int .i64 pa2) := FR.out.cell 1 5 rfl rfl rfl
          go_wp2_with fail
          refine ((E3.out _ (FR.out.es RZ.out) (FR.out.es RZ2.out))).mono ?_
          rintro e w5 ⟨rfl, hb⟩
          clear c00 c01 c02 c03 c04 c05 c10 c11 c12 c13 c14 c15
          replace FR := Lib.hid (FR.out.step hb)
          clear hb
          have c00 : w5.cell? ⟨q, 0, none⟩ = some (.slice A n c) := FR.out.cell 0 0 rfl rfl rfl
          have c01 : w5.cell? ⟨q, 1, none⟩ = some (.slice B m d) := FR.out.cell 0 1 rfl rfl rfl
          have c02 : w5.cell? ⟨q, 2, none⟩ = some (.slice C k f) := FR.out.cell 0 2 rfl rfl rfl
          have c03 : w5.cell? ⟨q, 3, none⟩ = some (.int .i64 ce) := FR.out.cell 0 3 rfl rfl rfl
          have c04 : w5.cell? ⟨q, 4, none⟩ = some (.int .i64 re) := FR.out.cell 0 4 rfl rfl rfl
          have c05 : w5.cell? ⟨q, 5, none⟩ = some (.int .i64 pa) := FR.out.cell 0 5 rfl rfl rfl
          have c10 : w5.cell? ⟨q + 1, 0, none⟩ = some (.slice A2 n2 c2) := FR.out.cell 1 0 rfl rfl rfl
          have c11 : w5.cell? ⟨q + 1, 1, none⟩ = some (.slice B2 m2 d2) := FR.out.cell 1 1 rfl rfl rfl
          have c12 : w5.cell? ⟨q + 1, 2, none⟩ = some (.slice C2 k2 f2) := FR.out.cell 1 2 rfl rfl rfl
          have c13 : w5.cell? ⟨q + 1, 3, none⟩ = some (.int .i64 ce2) := FR.out.cell 1 3 rfl rfl rfl
          have c14 : w5.cell? ⟨q + 1, 4, none⟩ = some (.int .i64 re2) := FR.out.cell 1 4 rfl rfl rfl
          have c15 : w5.cell? ⟨q + 1, 5, none⟩ = some (.int .i64 pa2) := FR.out.cell 1 5 rfl rfl rfl
          go_wp2
          go_ret
          rw [HE.out]
          exact ⟨rfl, FR.out.out⟩
        · rw [h4] at HO
          cases h5 : (re == re2)
          · rw [h5] at HO
            have HE := Lib.hid (show R = false from HO.trans (by simp only [Bool.false_and, Bool.true_and]))
            clear HO 
            go_enter Try.func15, Try.ntmps15
            have c00 : v2.cell? ⟨q, 0, none⟩ = some (.slice A n c) := FR.out.cell 0 0 rfl rfl rfl
            have c01 : v2.cell? ⟨q, 1, none⟩ = some (.slice B m d) := FR.out.cell 0 1 rfl rfl rfl
            have c02 : v2.cell? ⟨q, 2, none⟩ = some (.slice C k f) := FR.out.cell 0 2 rfl rfl rfl
            have c03 : v2.cell? ⟨q, 3, none⟩ = some (.int .i64 ce) := FR.out.cell 0 3 rfl rfl rfl
            have c04 : v2.cell? ⟨q, 4, none⟩ = some (.int .i64 re) := FR.out.cell 0 4 rfl rfl rfl
            have c05 : v2.cell? ⟨q, 5, none⟩ = some (.int .i64 pa) := FR.out.cell 0 5 rfl rfl rfl
            have c10 : v2.cell? ⟨q + 1, 0, none⟩ = some (.slice A2 n2 c2) := FR.out.cell 1 0 rfl rfl rfl
            have c11 : v2.cell? ⟨q + 1, 1, none⟩ = some (.slice B2 m2 d2) := FR.out.cell 1 1 rfl rfl rfl
            have c12 : v2.cell? ⟨q + 1, 2, none⟩ = some (.slice C2 k2 f2) := FR.out.cell 1 2 rfl rfl rfl
            have c13 : v2.cell? ⟨q + 1, 3, none⟩ = some (.int .i64 ce2) := FR.out.cell 1 3 rfl rfl rfl
            have c14 : v2.cell? ⟨q + 1, 4, none⟩ = some (.int .i64 re2) := FR.out.cell 1 4 rfl rfl rfl
            have c15 : v2.cell? ⟨q + 1, 5, none⟩ = some (.int .i64 pa2) := FR.out.cell 1 5 rfl rfl rfl
            go_wp2_with fail
            refine ((E1.out _ (FR.out.es RX.out) (FR.out.es RX2.out))).mono ?_
            rintro e w3 ⟨rfl, hb⟩
            clear c00 c01 c02 c03 c04 c05 c10 c11 c12 c13 c14 c15
            replace FR := Lib.hid (FR.out.step hb)
            clear hb
            have c00 : w3.cell? ⟨q, 0, none⟩ = some (.slice A n c) := FR.out.cell 0 0 rfl rfl rfl
            have c01 : w3.cell? ⟨q, 1, none⟩ = some (.slice B m d) := FR.out.cell 0 1 rfl rfl rfl
            have c02 : w3.cell? ⟨q, 2, none⟩ = some (.slice C k f) := FR.out.cell 0 2 rfl rfl rfl
            have c03 : w3.cell? ⟨q, 3, none⟩ = some (.int .i64 ce) := FR.out.cell 0 3 rfl rfl rfl
            have c04 : w3.cell? ⟨q, 4, none⟩ = some (.int .i64 re) := FR.out.cell 0 4 rfl rfl rfl
            have c05 : w3.cell? ⟨q, 5, none⟩ = some (.int .i64 pa) := FR.out.cell 0 5 rfl rfl rfl
            have c10 : w3.cell? ⟨q + 1, 0, none⟩ = some (.slice A2 n2 c2) := FR.out.cell 1 0 rfl rfl rfl
            have c11 : w3.cell? ⟨q + 1, 1, none⟩ = some (.slice B2 m2 d2) := FR.out.cell 1 1 rfl rfl rfl
            have c12 : w3.cell? ⟨q + 1, 2, none⟩ = some (.slice C2 k2 f2) := FR.out.cell 1 2 rfl rfl rfl
            have c13 : w3.cell? ⟨q + 1, 3, none⟩ = some (.int .i64 ce2) := FR.out.cell 1 3 rfl rfl rfl
            have c14 : w3.cell? ⟨q + 1, 4, none⟩ = some (.int .i64 re2) := FR.out.cell 1 4 rfl rfl rfl
            have c15 : w3.cell? ⟨q + 1, 5, none⟩ = some (.int .i64 pa2) := FR.out.cell 1 5 rfl rfl rfl
            go_wp2_with fail
            refine ((E2.out _ (FR.out.es RY.out) (FR.out.es RY2.out))).mono ?_
            rintro e w4 ⟨rfl, hb⟩
            clear c00 c01 c02 c03 c04 c05 c10 c11 c12 c13 c14 c15
            replace FR := Lib.hid (FR.out.step hb)
            clear hb
            have c00 : w4.cell? ⟨q, 0, none⟩ = some (.slice A n c) := FR.out.cell 0 0 rfl rfl rfl
            have c01 : w4.cell? ⟨q, 1, none⟩ = some (.slice B m d) := FR.out.cell 0 1 rfl rfl rfl
            have c02 : w4.cell? ⟨q, 2, none⟩ = some (.slice C k f) := FR.out.cell 0 2 rfl rfl rfl
            have c03 : w4.cell? ⟨q, 3, none⟩ = some (.int .i64 ce) := FR.out.cell 0 3 rfl rfl rfl
            have c04 : w4.cell? ⟨q, 4, none⟩ = some (.int .i64 re) := FR.out.cell 0 4 rfl rfl rfl
            have c05 : w4.cell? ⟨q, 5, none⟩ = some (.int .i64 pa) := FR.out.cell 0 5 rfl rfl rfl
            have c10 : w4.cell? ⟨q + 1, 0, none⟩ = some (.slice A2 n2 c2) := FR.out.cell 1 0 rfl rfl rfl
            have c11 : w4.cell? ⟨q + 1, 1, none⟩ = some (.slice B2 m2 d2) := FR.out.cell 1 1 rfl rfl rfl
            have c12 : w4.cell? ⟨q + 1, 2, none⟩ = some (.slice C2 k2 f2) := FR.out.cell 1 2 rfl rfl rfl
            have c13 : w4.cell? ⟨q + 1, 3, none⟩ = some (.int .i64 ce2) := FR.out.cell 1 3 rfl rfl rfl
            have c14 : w4.cell? ⟨q + 1, 4, none⟩ = some (.int .i64 re2) := FR.out.cell 1 4 rfl rfl rfl
            have c15 : w4.cell? ⟨q + 1, 5, none⟩ = some (.int .i64 pa2) := FR.out.cell 1 5 rfl rfl rfl
            go_wp2_with fail
            refine ((E3.out _ (FR.out.es RZ.out) (FR.out.es RZ2.out))).mono ?_
            rintro e w5 ⟨rfl, hb⟩
            clear c00 c01 c02 c03 c04 c05 c10 c11 c12 c13 c14 c15
            replace FR := Lib.hid (FR.out.step hb)
            clear hb
            have c00 : w5.cell? ⟨q, 0, none⟩ = some (.slice A n c) := FR.out.cell 0 0 rfl rfl rfl
            have c01 : w5.cell? ⟨q, 1, none⟩ = some (.slice B m d) := FR.out.cell 0 1 rfl rfl rfl
            have c02 : w5.cell? ⟨q, 2, none⟩ = some (.slice C k f) := FR.out.cell 0 2 rfl rfl rfl
            have c03 : w5.cell? ⟨q, 3, none⟩ = some (.int .i64 ce) := FR.out.cell 0 3 rfl rfl rfl
            have c04 : w5.cell? ⟨q, 4, none⟩ = some (.int .i64 re) := FR.out.cell 0 4 rfl rfl rfl
            have c05 : w5.cell? ⟨q, 5, none⟩ = some (.int .i64 pa) := FR.out.cell 0 5 rfl rfl rfl
            have c10 : w5.cell? ⟨q + 1, 0, none⟩ = some (.slice A2 n2 c2) := FR.out.cell 1 0 rfl rfl rfl
            have c11 : w5.cell? ⟨q + 1, 1, none⟩ = some (.slice B2 m2 d2) := FR.out.cell 1 1 rfl rfl rfl
            have c12 : w5.cell? ⟨q + 1, 2, none⟩ = some (.slice C2 k2 f2) := FR.out.cell 1 2 rfl rfl rfl
            have c13 : w5.cell? ⟨q + 1, 3, none⟩ = some (.int .i64 ce2) := FR.out.cell 1 3 rfl rfl rfl
            have c14 : w5.cell? ⟨q + 1, 4, none⟩ = some (.int .i64 re2) := FR.out.cell 1 4 rfl rfl rfl
            have c15 : w5.cell? ⟨q + 1, 5, none⟩ = some (.int .i64 pa2) := FR.out.cell 1 5 rfl rfl rfl
            go_wp2
            go_ret
            rw [HE.out]
            exact ⟨rfl, FR.out.out⟩
          · rw [h5] at HO
            have HE := Lib.hid (show R = (pa == pa2) from HO.trans (by simp only [Bool.true_and]))
            clear HO
            go_enter Try.func15, Try.ntmps15
            have c00 : v2.cell? ⟨q, 0, none⟩ = some (.slice A n c) := FR.out.cell 0 0 rfl rfl rfl
            have c01 : v2.cell? ⟨q, 1, none⟩ = some (.slice B m d) := FR.out.cell 0 1 rfl rfl rfl
            have c02 : v2.cell? ⟨q, 2, none⟩ = some (.slice C k f) := FR.out.cell 0 2 rfl rfl rfl
            have c03 : v2.cell? ⟨q, 3, none⟩ = some (.int .i64 ce) := FR.out.cell 0 3 rfl rfl rfl
            have c04 : v2.cell? ⟨q, 4, none⟩ = some (.int .i64 re) := FR.out.cell 0 4 rfl rfl rfl
            have c05 : v2.cell? ⟨q, 5, none⟩ = some (.int .i64 pa) := FR.out.cell 0 5 rfl rfl rfl
            have c10 : v2.cell? ⟨q + 1, 0, none⟩ = some (.slice A2 n2 c2) := FR.out.cell 1 0 rfl rfl rfl
            have c11 : v2.cell? ⟨q + 1, 1, none⟩ = some (.slice B2 m2 d2) := FR.out.cell 1 1 rfl rfl rfl
            have c12 : v2.cell? ⟨q + 1, 2, none⟩ = some (.slice C2 k2 f2) := FR.out.cell 1 2 rfl rfl rfl
            have c13 : v2.cell? ⟨q + 1, 3, none⟩ = some (.int .i64 ce2) := FR.out.cell 1 3 rfl rfl rfl
            have c14 : v2.cell? ⟨q + 1, 4, none⟩ = some (.int .i64 re2) := FR.out.cell 1 4 rfl rfl rfl
            have c15 : v2.cell? ⟨q + 1, 5, none⟩ = some (.int .i64 pa2) := FR.out.cell 1 5 rfl rfl rfl
            go_wp2_with fail
            refine ((E1.out _ (FR.out.es RX.out) (FR.out.es RX2.out))).mono ?_
            rintro e w3 ⟨rfl, hb⟩
            clear c00 c01 c02 c03 c04 c05 c10 c11 c12 c13 c14 c15
            replace FR := Lib.hid (FR.out.step hb)
            clear hb
            have c00 : w3.cell? ⟨q, 0, none⟩ = some (.slice A n c) := FR.out.cell 0 0 rfl rfl rfl
            have c01 : w3.cell? ⟨q, 1, none⟩ = some (.slice B m d) := FR.out.cell 0 1 rfl rfl rfl
            have c02 : w3.cell? ⟨q, 2, none⟩ = some (.slice C k f) := FR.out.cell 0 2 rfl rfl rfl
            have c03 : w3.cell? ⟨q, 3, none⟩ = some (.int .i64 ce) := FR.out.cell 0 3 rfl rfl rfl
            have c04 : w3.cell? ⟨q, 4, none⟩ = some (.int .i64 re) := FR.out.cell 0 4 rfl rfl rfl
            have c05 : w3.cell? ⟨q, 5, none⟩ = some (.int .i64 pa) := FR.out.cell 0 5 rfl rfl rfl
            have c10 : w3.cell? ⟨q + 1, 0, none⟩ = some (.slice A2 n2 c2) := FR.out.cell 1 0 rfl rfl rfl
            have c11 : w3.cell? ⟨q + 1, 1, none⟩ = some (.slice B2 m2 d2) := FR.out.cell 1 1 rfl rfl rfl
            have c12 : w3.cell? ⟨q + 1, 2, none⟩ = some (.slice C2 k2 f2) := FR.out.cell 1 2 rfl rfl rfl
            have c13 : w3.cell? ⟨q + 1, 3, none⟩ = some (.int .i64 ce2) := FR.out.cell 1 3 rfl rfl rfl
            have c14 : w3.cell? ⟨q + 1, 4, none⟩ = some (.int .i64 re2) := FR.out.cell 1 4 rfl rfl rfl
            have c15 : w3.cell? ⟨q + 1, 5, none⟩ = some (.int .i64 pa2) := FR.out.cell 1 5 rfl rfl rfl
            go_wp2_with fail
            refine ((E2.out _ (FR.out.es RY.out) (FR.out.es RY2.out))).mono ?_
            rintro e w4 ⟨rfl, hb⟩
            clear c00 c01 c02 c03 c04 c05 c10 c11 c12 c13 c14 c15
            replace FR := Lib.hid (FR.out.step hb)
            clear hb
            have c00 : w4.cell? ⟨q, 0, none⟩ = some (.slice A n c) := FR.out.cell 0 0 rfl rfl rfl
            have c01 : w4.cell? ⟨q, 1, none⟩ = some (.slice B m d) := FR.out.cell 0 1 rfl rfl rfl
            have c02 : w4.cell? ⟨q, 2, none⟩ = some (.slice C k f) := FR.out.cell 0 2 rfl rfl rfl
            have c03 : w4.cell? ⟨q, 3, none⟩ = some (.int .i64 ce) := FR.out.cell 0 3 rfl rfl rfl
            have c04 : w4.cell? ⟨q, 4, none⟩ = some (.int .i64 re) := FR.out.cell 0 4 rfl rfl rfl
            have c05 : w4.cell? ⟨q, 5, none⟩ = some (.int .i64 pa) := FR.out.cell 0 5 rfl rfl rfl
            have c10 : w4.cell? ⟨q + 1, 0, none⟩ = some (.slice A2 n2 c2) := FR.out.cell 1 0 rfl rfl rfl
            have c11 : w4.cell? ⟨q + 1, 1, none⟩ = some (.slice B2 m2 d2) := FR.out.cell 1 1 rfl rfl rfl
            have c12 : w4.cell? ⟨q + 1, 2, none⟩ = some (.slice C2 k2 f2) := FR.out.cell 1 2 rfl rfl rfl
            have c13 : w4.cell? ⟨q + 1, 3, none⟩ = some (.int .i64 ce2) := FR.out.cell 1 3 rfl rfl rfl
            have c14 : w4.cell? ⟨q + 1, 4, none⟩ = some (.int .i64 re2) := FR.out.cell 1 4 rfl rfl rfl
            have c15 : w4.cell? ⟨q + 1, 5, none⟩ = some (.int .i64 pa2) := FR.out.cell 1 5 rfl rfl rfl
            go_wp2_with fail
            refine ((E3.out _ (FR.out.es RZ.out) (FR.out.es RZ2.out))).mono ?_
            rintro e w5 ⟨rfl, hb⟩
            clear c00 c01 c02 c03 c04 c05 c10 c11 c12 c13 c14 c15
            replace FR := Lib.hid (FR.out.step hb)
            clear hb
            have c00 : w5.cell? ⟨q, 0, none⟩ = some (.slice A n c) := FR.out.cell 0 0 rfl rfl rfl
            have c01 : w5.cell? ⟨q, 1, none⟩ = some (.slice B m d) := FR.out.cell 0 1 rfl rfl rfl
            have c02 : w5.cell? ⟨q, 2, none⟩ = some (.slice C k f) := FR.out.cell 0 2 rfl rfl rfl
            have c03 : w5.cell? ⟨q, 3, none⟩ = some (.int .i64 ce) := FR.out.cell 0 3 rfl rfl rfl
            have c04 : w5.cell? ⟨q, 4, none⟩ = some (.int .i64 re) := FR.out.cell 0 4 rfl rfl rfl
            have c05 : w5.cell? ⟨q, 5, none⟩ = some (.int .i64 pa) := FR.out.cell 0 5 rfl rfl rfl
            have c10 : w5.cell? ⟨q + 1, 0, none⟩ = some (.slice A2 n2 c2) := FR.out.cell 1 0 rfl rfl rfl
            have c11 : w5.cell? ⟨q + 1, 1, none⟩ = some (.slice B2 m2 d2) := FR.out.cell 1 1 rfl rfl rfl
            have c12 : w5.cell? ⟨q + 1, 2, none⟩ = some (.slice C2 k2 f2) := FR.out.cell 1 2 rfl rfl rfl
            have c13 : w5.cell? ⟨q + 1, 3, none⟩ = some (.int .i64 ce2) := FR.out.cell 1 3 rfl rfl rfl
            have c14 : w5.cell? ⟨q + 1, 4, none⟩ = some (.int .i64 re2) := FR.out.cell 1 4 rfl rfl rfl
            have c15 : w5.cell? ⟨q + 1, 5, none⟩ = some (.int .i64 pa2) := FR.out.cell 1 5 rfl rfl rfl
            go_wp2
            go_ret
            rw [HE.out]
            exact ⟨rfl, FR.out.out⟩
end Go.Proofs.Ytkoodhnfphmbnaa
