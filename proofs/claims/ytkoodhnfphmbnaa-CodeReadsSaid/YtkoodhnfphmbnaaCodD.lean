/- What the document's own Right of layer 13 answers; for programs of up to 16384 of each. -/
import Derived.Test.YtkoodhnfphmbnaaCodC
namespace Go.Proofs.Ytkoodhnfphmbnaa
set_option linter.unusedVariables false
set_option linter.unusedSimpArgs false
open Go.RowKit
theorem getD_at {l : List Int} {i : Nat} {v : Int} (h : l.drop i = v :: l.drop (i + 1)) : l.getD i 0 = v := by
  have hl : i < l.length := by
    rcases Nat.lt_or_ge i l.length with h1 | h1
    · exact h1
    · rw [List.drop_of_length_le h1] at h; cases h
  have h2 := List.drop_eq_getElem_cons hl
  rw [h] at h2; injection h2 with h2 _
  simp [List.getD, hl, h2]
set_option maxRecDepth 100000 in
set_option maxHeartbeats 16000000 in
theorem refRight13_any (A : Option Addr) (n c : Nat) (B : Option Addr) (m d : Nat) (C : Option Addr) (k f : Nat) (co : List I4) (ki si : List Int) (ce re pa : Int) (w : World) (hx : I4s w A n c co) (hy : Is w B m d ki) (hz : Is w C k f si) (hn : n ≤ 16384) (hm : m ≤ 16384) (hk : k ≤ 16384) :
    Calls Try.prog 14 #[.agg #[.slice A n c, .slice B m d, .slice C k f, .int .i64 ce, .int .i64 re, .int .i64 pa]] w (YesC w (rightPg ⟨co, ki, si, ce, re, pa⟩)) := by
  have hlen := hx.len
  have hlem : ki.length = m := hy.len
  have hlek : si.length = k := hz.len
  have RX := Lib.hid hx; have RY := Lib.hid hy; have RZ := Lib.hid hz
  have HLN := Lib.hid hlen; have HLM := Lib.hid hlem; have HLK := Lib.hid hlek
  have IS := Lib.hid (fun (W : World) (h1 : I4s W A n c co) (h2 : Is W B m d ki) (h3 : Is W C k f si) (y : Int) => refIns_any A n c B m d C k f co ki si ce re pa y W h1 h2 h3 hn hm hk)
  obtain ⟨R, hR⟩ : ∃ R, rightPg ⟨co, ki, si, ce, re, pa⟩ = R := ⟨_, rfl⟩
  rw [hR]
  have HNO := Lib.hid (show ¬ RightPg ⟨co, ki, si, ce, re, pa⟩ → R = false from fun h => by rw [← hR]; exact rightPg_no h)
  have HYES := Lib.hid (show RightPg ⟨co, ki, si, ce, re, pa⟩ → R = true from fun h => by rw [← hR]; exact rightPg_iff.2 h)
  clear hx hy hz hR
  obtain ⟨v1, hv1⟩ : ∃ W, w.alloc (.cells #[.slice A n c, .slice B m d, .slice C k f, .int .i64 ce, .int .i64 re, .int .i64 pa] 25) = W := ⟨_, rfl⟩
  have fr1 : Fr w v1 w.heap.size [.cells #[.slice A n c, .slice B m d, .slice C k f, .int .i64 ce, .int .i64 re, .int .i64 pa] 25] := hv1 ▸ Fr.first w _
  have z1 : v1.heap.size = w.heap.size + 1 := by rw [← hv1, Fr.size1]
  generalize hq : w.heap.size = q at *
  have FR := Lib.hid fr1
  clear fr1
  by_cases hn1 : (n : Int) < 1
  · have tn1 : decide ((n : Int) < 1) = true := by simp; omega
    have un10 : decide (n < 1) = true := by simp; omega
    have HE := Lib.hid (HNO.out (fun h => by have h1 := h.n1; simp only at h1; omega))
    clear hn1
    go_enter Try.func14, Try.ntmps14
    have c00 : v1.cell? ⟨q, 0, none⟩ = some (.slice A n c) := FR.out.cell 0 0 rfl rfl rfl
    have c01 : v1.cell? ⟨q, 1, none⟩ = some (.slice B m d) := FR.out.cell 0 1 rfl rfl rfl
    have c02 : v1.cell? ⟨q, 2, none⟩ = some (.slice C k f) := FR.out.cell 0 2 rfl rfl rfl
    have c03 : v1.cell? ⟨q, 3, none⟩ = some (.int .i64 ce) := FR.out.cell 0 3 rfl rfl rfl
    have c04 : v1.cell? ⟨q, 4, none⟩ = some (.int .i64 re) := FR.out.cell 0 4 rfl rfl rfl
    have c05 : v1.cell? ⟨q, 5, none⟩ = some (.int .i64 pa) := FR.out.cell 0 5 rfl rfl rfl
    go_wp2
    go_ret
    rw [HE.out]
    exact ⟨rfl, FR.out.out⟩
  have tn1 : decide ((n : Int) < 1) = false := by simp; omega
  have un10 : decide (n < 1) = false := by simp; omega
  by_cases hn60 : 60 < (n : Int)
  · have tn60 : decide (60 < (n : Int)) = true := by simp; omega
    have un600 : decide (60 < n) = true := by simp; omega
    have HE := Lib.hid (HNO.out (fun h => by have h1 := h.n60; simp only at h1; omega))
    clear hn60
    go_enter Try.func14, Try.ntmps14
    have c00 : v1.cell? ⟨q, 0, none⟩ = some (.slice A n c) := FR.out.cell 0 0 rfl rfl rfl
    have c01 : v1.cell? ⟨q, 1, none⟩ = some (.slice B m d) := FR.out.cell 0 1 rfl rfl rfl
    have c02 : v1.cell? ⟨q, 2, none⟩ = some (.slice C k f) := FR.out.cell 0 2 rfl rfl rfl
    have c03 : v1.cell? ⟨q, 3, none⟩ = some (.int .i64 ce) := FR.out.cell 0 3 rfl rfl rfl
    have c04 : v1.cell? ⟨q, 4, none⟩ = some (.int .i64 re) := FR.out.cell 0 4 rfl rfl rfl
    have c05 : v1.cell? ⟨q, 5, none⟩ = some (.int .i64 pa) := FR.out.cell 0 5 rfl rfl rfl
    go_wp2
    go_ret
    rw [HE.out]
    exact ⟨rfl, FR.out.out⟩
  have tn60 : decide (60 < (n : Int)) = false := by simp; omega
  have un600 : decide (60 < n) = false := by simp; omega
  by_cases hk8 : 8 < (m : Int)
  · have tk8 : decide (8 < (m : Int)) = true := by simp; omega
    have uk80 : decide (8 < m) = true := by simp; omega
    have HE := Lib.hid (HNO.out (fun h => by have h1 := h.k8; simp only at h1; omega))
    clear hk8
    go_enter Try.func14, Try.ntmps14
    have c00 : v1.cell? ⟨q, 0, none⟩ = some (.slice A n c) := FR.out.cell 0 0 rfl rfl rfl
    have c01 : v1.cell? ⟨q, 1, none⟩ = some (.slice B m d) := FR.out.cell 0 1 rfl rfl rfl
    have c02 : v1.cell? ⟨q, 2, none⟩ = some (.slice C k f) := FR.out.cell 0 2 rfl rfl rfl
    have c03 : v1.cell? ⟨q, 3, none⟩ = some (.int .i64 ce) := FR.out.cell 0 3 rfl rfl rfl
    have c04 : v1.cell? ⟨q, 4, none⟩ = some (.int .i64 re) := FR.out.cell 0 4 rfl rfl rfl
    have c05 : v1.cell? ⟨q, 5, none⟩ = some (.int .i64 pa) := FR.out.cell 0 5 rfl rfl rfl
    go_wp2
    go_ret
    rw [HE.out]
    exact ⟨rfl, FR.out.out⟩
  have tk8 : decide (8 < (m : Int)) = false := by simp; omega
  have uk80 : decide (8 < m) = false := by simp; omega
  by_cases hks : (k : Int) ≠ (m : Int)
  · have tks : ((k : Int) != (m : Int)) = true := by simp; omega
    have uks : (k != m) = true := by simp; omega
    have HE := Lib.hid (HNO.out (fun h => by have h1 := h.ks; simp only at h1; omega))
    clear hks
    go_enter Try.func14, Try.ntmps14
    have c00 : v1.cell? ⟨q, 0, none⟩ = some (.slice A n c) := FR.out.cell 0 0 rfl rfl rfl
    have c01 : v1.cell? ⟨q, 1, none⟩ = some (.slice B m d) := FR.out.cell 0 1 rfl rfl rfl
    have c02 : v1.cell? ⟨q, 2, none⟩ = some (.slice C k f) := FR.out.cell 0 2 rfl rfl rfl
    have c03 : v1.cell? ⟨q, 3, none⟩ = some (.int .i64 ce) := FR.out.cell 0 3 rfl rfl rfl
    have c04 : v1.cell? ⟨q, 4, none⟩ = some (.int .i64 re) := FR.out.cell 0 4 rfl rfl rfl
    have c05 : v1.cell? ⟨q, 5, none⟩ = some (.int .i64 pa) := FR.out.cell 0 5 rfl rfl rfl
    go_wp2
    go_ret
    rw [HE.out]
    exact ⟨rfl, FR.out.out⟩
  have tks : ((k : Int) != (m : Int)) = false := by simp; omega
  have uks : (k != m) = false := by simp; omega
  by_cases hc0 : ce < 0
  · have tc0 : decide (ce < 0) = true := by simp; omega
    have HE := Lib.hid (HNO.out (fun h => by have h1 := h.c0; simp only at h1; omega))
    clear hc0
    go_enter Try.func14, Try.ntmps14
    have c00 : v1.cell? ⟨q, 0, none⟩ = some (.slice A n c) := FR.out.cell 0 0 rfl rfl rfl
    have c01 : v1.cell? ⟨q, 1, none⟩ = some (.slice B m d) := FR.out.cell 0 1 rfl rfl rfl
    have c02 : v1.cell? ⟨q, 2, none⟩ = some (.slice C k f) := FR.out.cell 0 2 rfl rfl rfl
    have c03 : v1.cell? ⟨q, 3, none⟩ = some (.int .i64 ce) := FR.out.cell 0 3 rfl rfl rfl
    have c04 : v1.cell? ⟨q, 4, none⟩ = some (.int .i64 re) := FR.out.cell 0 4 rfl rfl rfl
    have c05 : v1.cell? ⟨q, 5, none⟩ = some (.int .i64 pa) := FR.out.cell 0 5 rfl rfl rfl
    go_wp2
    go_ret
    rw [HE.out]
    exact ⟨rfl, FR.out.out⟩
  have tc0 : decide (ce < 0) = false := by simp; omega
  by_cases hc32 : 32 < ce
  · have tc32 : decide (32 < ce) = true := by simp; omega
    have HE := Lib.hid (HNO.out (fun h => by have h1 := h.c32; simp only at h1; omega))
    clear hc32
    go_enter Try.func14, Try.ntmps14
    have c00 : v1.cell? ⟨q, 0, none⟩ = some (.slice A n c) := FR.out.cell 0 0 rfl rfl rfl
    have c01 : v1.cell? ⟨q, 1, none⟩ = some (.slice B m d) := FR.out.cell 0 1 rfl rfl rfl
    have c02 : v1.cell? ⟨q, 2, none⟩ = some (.slice C k f) := FR.out.cell 0 2 rfl rfl rfl
    have c03 : v1.cell? ⟨q, 3, none⟩ = some (.int .i64 ce) := FR.out.cell 0 3 rfl rfl rfl
    have c04 : v1.cell? ⟨q, 4, none⟩ = some (.int .i64 re) := FR.out.cell 0 4 rfl rfl rfl
    have c05 : v1.cell? ⟨q, 5, none⟩ = some (.int .i64 pa) := FR.out.cell 0 5 rfl rfl rfl
    go_wp2
    go_ret
    rw [HE.out]
    exact ⟨rfl, FR.out.out⟩
  have tc32 : decide (32 < ce) = false := by simp; omega
  by_cases hr0 : re < 0
  · have tr0 : decide (re < 0) = true := by simp; omega
    have HE := Lib.hid (HNO.out (fun h => by have h1 := h.r0; simp only at h1; omega))
    clear hr0
    go_enter Try.func14, Try.ntmps14
    have c00 : v1.cell? ⟨q, 0, none⟩ = some (.slice A n c) := FR.out.cell 0 0 rfl rfl rfl
    have c01 : v1.cell? ⟨q, 1, none⟩ = some (.slice B m d) := FR.out.cell 0 1 rfl rfl rfl
    have c02 : v1.cell? ⟨q, 2, none⟩ = some (.slice C k f) := FR.out.cell 0 2 rfl rfl rfl
    have c03 : v1.cell? ⟨q, 3, none⟩ = some (.int .i64 ce) := FR.out.cell 0 3 rfl rfl rfl
    have c04 : v1.cell? ⟨q, 4, none⟩ = some (.int .i64 re) := FR.out.cell 0 4 rfl rfl rfl
    have c05 : v1.cell? ⟨q, 5, none⟩ = some (.int .i64 pa) := FR.out.cell 0 5 rfl rfl rfl
    go_wp2
    go_ret
    rw [HE.out]
    exact ⟨rfl, FR.out.out⟩
  have tr0 : decide (re < 0) = false := by simp; omega
  by_cases hr64 : 64 < re
  · have tr64 : decide (64 < re) = true := by simp; omega
    have HE := Lib.hid (HNO.out (fun h => by have h1 := h.r64; simp only at h1; omega))
    clear hr64
    go_enter Try.func14, Try.ntmps14
    have c00 : v1.cell? ⟨q, 0, none⟩ = some (.slice A n c) := FR.out.cell 0 0 rfl rfl rfl
    have c01 : v1.cell? ⟨q, 1, none⟩ = some (.slice B m d) := FR.out.cell 0 1 rfl rfl rfl
    have c02 : v1.cell? ⟨q, 2, none⟩ = some (.slice C k f) := FR.out.cell 0 2 rfl rfl rfl
    have c03 : v1.cell? ⟨q, 3, none⟩ = some (.int .i64 ce) := FR.out.cell 0 3 rfl rfl rfl
    have c04 : v1.cell? ⟨q, 4, none⟩ = some (.int .i64 re) := FR.out.cell 0 4 rfl rfl rfl
    have c05 : v1.cell? ⟨q, 5, none⟩ = some (.int .i64 pa) := FR.out.cell 0 5 rfl rfl rfl
    go_wp2
    go_ret
    rw [HE.out]
    exact ⟨rfl, FR.out.out⟩
  have tr64 : decide (64 < re) = false := by simp; omega
  by_cases hp1 : pa < 1
  · have tp1 : decide (pa < 1) = true := by simp; omega
    have HE := Lib.hid (HNO.out (fun h => by have h1 := h.p1; simp only at h1; omega))
    clear hp1
    go_enter Try.func14, Try.ntmps14
    have c00 : v1.cell? ⟨q, 0, none⟩ = some (.slice A n c) := FR.out.cell 0 0 rfl rfl rfl
    have c01 : v1.cell? ⟨q, 1, none⟩ = some (.slice B m d) := FR.out.cell 0 1 rfl rfl rfl
    have c02 : v1.cell? ⟨q, 2, none⟩ = some (.slice C k f) := FR.out.cell 0 2 rfl rfl rfl
    have c03 : v1.cell? ⟨q, 3, none⟩ = some (.int .i64 ce) := FR.out.cell 0 3 rfl rfl rfl
    have c04 : v1.cell? ⟨q, 4, none⟩ = some (.int .i64 re) := FR.out.cell 0 4 rfl rfl rfl
    have c05 : v1.cell? ⟨q, 5, none⟩ = some (.int .i64 pa) := FR.out.cell 0 5 rfl rfl rfl
    go_wp2
    go_ret
    rw [HE.out]
    exact ⟨rfl, FR.out.out⟩
  have tp1 : decide (pa < 1) = false := by simp; omega
  by_cases hp1000 : 1000 < pa
  · have tp1000 : decide (1000 < pa) = true := by simp; omega
    have HE := Lib.hid (HNO.out (fun h => by have h1 := h.p1000; simp only at h1; omega))
    clear hp1000
    go_enter Try.func14, Try.ntmps14
    have c00 : v1.cell? ⟨q, 0, none⟩ = some (.slice A n c) := FR.out.cell 0 0 rfl rfl rfl
    have c01 : v1.cell? ⟨q, 1, none⟩ = some (.slice B m d) := FR.out.cell 0 1 rfl rfl rfl
    have c02 : v1.cell? ⟨q, 2, none⟩ = some (.slice C k f) := FR.out.cell 0 2 rfl rfl rfl
    have c03 : v1.cell? ⟨q, 3, none⟩ = some (.int .i64 ce) := FR.out.cell 0 3 rfl rfl rfl
    have c04 : v1.cell? ⟨q, 4, none⟩ = some (.int .i64 re) := FR.out.cell 0 4 rfl rfl rfl
    have c05 : v1.cell? ⟨q, 5, none⟩ = some (.int .i64 pa) := FR.out.cell 0 5 rfl rfl rfl
    go_wp2
    go_ret
    rw [HE.out]
    exact ⟨rfl, FR.out.out⟩
  have tp1000 : decide (1000 < pa) = false := by simp; omega
  have HT := Lib.hid (show 1 ≤ n ∧ n ≤ 60 ∧ m ≤ 8 ∧ k = m ∧ 0 ≤ ce ∧ ce ≤ 32 ∧ 0 ≤ re ∧ re ≤ 64 ∧ 1 ≤ pa ∧ pa ≤ 1000 by omega)
  clear hn1 hn60 hk8 hks hc0 hc32 hr0 hr64 hp1 hp1000
  go_enter Try.func14, Try.ntmps14
  have c00 : v1.cell? ⟨q, 0, none⟩ = some (.slice A n c) := FR.out.cell 0 0 rfl rfl rfl
  have c01 : v1.cell? ⟨q, 1, none⟩ = some (.slice B m d) := FR.out.cell 0 1 rfl rfl rfl
  have c02 : v1.cell? ⟨q, 2, none⟩ = some (.slice C k f) := FR.out.cell 0 2 rfl rfl rfl
  have c03 : v1.cell? ⟨q, 3, none⟩ = some (.int .i64 ce) := FR.out.cell 0 3 rfl rfl rfl
  have c04 : v1.cell? ⟨q, 4, none⟩ = some (.int .i64 re) := FR.out.cell 0 4 rfl rfl rfl
  have c05 : v1.cell? ⟨q, 5, none⟩ = some (.int .i64 pa) := FR.out.cell 0 5 rfl rfl rfl
  go_wp2
  clear c00 c01 c02 c03 c04 c05
  clear hv1 z1
  go_loopw [4] (fun iv wr => ∃ (i : Nat), iv = .int .i64 (i : Int) ∧ i ≤ m ∧ Hid (kindsTo ⟨co, ki, si, ce, re, pa⟩ i) ∧ Hid (Fr w wr q [.cells #[.slice A n c, .slice B m d, .slice C k f, .int .i64 ce, .int .i64 re, .int .i64 pa] 25])) (fun iv _ => m - (intOf iv).toNat)
  case atStart => exact ⟨0, rfl, by omega, fun i hi => by omega, FR.out⟩
  case round =>
    clear FR
    obtain ⟨i, rfl, hi, HKT, FR⟩ := hrel
    by_cases hlt : i < m
    · have c1 : decide ((i : Int) < (m : Int)) = true := by simpa using hlt
      have c1n : decide (i < m) = true := by simpa using hlt
      have i0 : (0 : Int) ≤ (i : Int) := by omega
      have i1 : (i : Int) < (m : Int) := by omega
      have i2 : (i : Int) < (k : Int) := by have := HT.out.2.2.2.1; omega
      obtain ⟨b, off, kv, rfl, hlb, hlc, hdr⟩ := RY.out.look i hlt
      obtain ⟨b2, off2, sv, rfl, hlb2, hlc2, hdr2⟩ := RZ.out.look i (by have := HT.out.2.2.2.1; omega)
      replace hlc := (FR.out.out.cell (p := ⟨b, off + i, none⟩) hlb).trans hlc
      replace hlc2 := (FR.out.out.cell (p := ⟨b2, off2 + i, none⟩) hlb2).trans hlc2
      have HK := Lib.hid (show (⟨co, ki, si, ce, re, pa⟩ : Pg).kinds.getD i 0 = kv from getD_at hdr)
      have HS := Lib.hid (show (⟨co, ki, si, ce, re, pa⟩ : Pg).sizes.getD i 0 = sv from getD_at hdr2)
      have HLT := Lib.hid hlt
      clear hdr hdr2 hlb hlb2 hlt
      have c00 : wr.cell? ⟨q, 0, none⟩ = some (.slice A n c) := FR.out.cell 0 0 rfl rfl rfl
      have c01 : wr.cell? ⟨q, 1, none⟩ = some (.slice (some ⟨b, off, none⟩) m d) := FR.out.cell 0 1 rfl rfl rfl
      have c02 : wr.cell? ⟨q, 2, none⟩ = some (.slice (some ⟨b2, off2, none⟩) k f) := FR.out.cell 0 2 rfl rfl rfl
      have c03 : wr.cell? ⟨q, 3, none⟩ = some (.int .i64 ce) := FR.out.cell 0 3 rfl rfl rfl
      have c04 : wr.cell? ⟨q, 4, none⟩ = some (.int .i64 re) := FR.out.cell 0 4 rfl rfl rfl
      have c05 : wr.cell? ⟨q, 5, none⟩ = some (.int .i64 pa) := FR.out.cell 0 5 rfl rfl rfl
      go_wp2
      go_quiet (fail)
      replace FR := Lib.hid (show Fr w (wr.drewN nq) q [.cells #[.slice A n c, .slice (some ⟨b, off, none⟩) m d, .slice (some ⟨b2, off2, none⟩) k f, .int .i64 ce, .int .i64 re, .int .i64 pa] 25] from ⟨FR.out.blk, bel_drewN FR.out.bel _, FR.out.sz, FR.out.q0⟩)
      clear c00 c01 c02 c03 c04 c05
      clear hlc hlc2
      obtain ⟨wn, hwn⟩ : ∃ W, wr.drewN nq = W := ⟨_, rfl⟩
      rw [hwn] at FR ⊢
      clear hwn
      by_cases a1 : kv < 1
      · have e1 : decide (kv < 1) = true := by simp; omega
        have HE := Lib.hid (HNO.out (fun h => by have h1 := h.kinds i (by have h2 := HLT.out; have h3 := HLM.out; show i < ki.length; omega); rw [HK.out, HS.out] at h1; unfold kindOk at h1; omega))
        clear a1
        have c00 : wn.cell? ⟨q, 0, none⟩ = some (.slice A n c) := FR.out.cell 0 0 rfl rfl rfl
        have c01 : wn.cell? ⟨q, 1, none⟩ = some (.slice (some ⟨b, off, none⟩) m d) := FR.out.cell 0 1 rfl rfl rfl
        have c02 : wn.cell? ⟨q, 2, none⟩ = some (.slice (some ⟨b2, off2, none⟩) k f) := FR.out.cell 0 2 rfl rfl rfl
        have c03 : wn.cell? ⟨q, 3, none⟩ = some (.int .i64 ce) := FR.out.cell 0 3 rfl rfl rfl
        have c04 : wn.cell? ⟨q, 4, none⟩ = some (.int .i64 re) := FR.out.cell 0 4 rfl rfl rfl
        have c05 : wn.cell? ⟨q, 5, none⟩ = some (.int .i64 pa) := FR.out.cell 0 5 rfl rfl rfl
        go_wp2
        go_ret
        rw [HE.out]
        exact ⟨rfl, FR.out.out⟩
      · have e1 : decide (kv < 1) = false := by simp; omega
        by_cases a2 : 6 < kv
        · have e2 : decide (6 < kv) = true := by simp; omega
          have HE := Lib.hid (HNO.out (fun h => by have h1 := h.kinds i (by have h2 := HLT.out; have h3 := HLM.out; show i < ki.length; omega); rw [HK.out, HS.out] at h1; unfold kindOk at h1; omega))
          clear a1 a2
          have c00 : wn.cell? ⟨q, 0, none⟩ = some (.slice A n c) := FR.out.cell 0 0 rfl rfl rfl
          have c01 : wn.cell? ⟨q, 1, none⟩ = some (.slice (some ⟨b, off, none⟩) m d) := FR.out.cell 0 1 rfl rfl rfl
          have c02 : wn.cell? ⟨q, 2, none⟩ = some (.slice (some ⟨b2, off2, none⟩) k f) := FR.out.cell 0 2 rfl rfl rfl
          have c03 : wn.cell? ⟨q, 3, none⟩ = some (.int .i64 ce) := FR.out.cell 0 3 rfl rfl rfl
          have c04 : wn.cell? ⟨q, 4, none⟩ = some (.int .i64 re) := FR.out.cell 0 4 rfl rfl rfl
          have c05 : wn.cell? ⟨q, 5, none⟩ = some (.int .i64 pa) := FR.out.cell 0 5 rfl rfl rfl
          go_wp2
          go_ret
          rw [HE.out]
          exact ⟨rfl, FR.out.out⟩
        · have e2 : decide (6 < kv) = false := by simp; omega
          by_cases a3 : kv = 6
          · have e3 : (kv == 6) = true := by simp [a3]
            have e3n : (kv != 6) = false := by simp [a3]
            by_cases a4 : sv < 1
            · have e4 : decide (sv < 1) = true := by simp; omega
              have HE := Lib.hid (HNO.out (fun h => by have h1 := h.kinds i (by have h2 := HLT.out; have h3 := HLM.out; show i < ki.length; omega); rw [HK.out, HS.out] at h1; unfold kindOk at h1; omega))
              clear a1 a2 a3 a4
              have c00 : wn.cell? ⟨q, 0, none⟩ = some (.slice A n c) := FR.out.cell 0 0 rfl rfl rfl
              have c01 : wn.cell? ⟨q, 1, none⟩ = some (.slice (some ⟨b, off, none⟩) m d) := FR.out.cell 0 1 rfl rfl rfl
              have c02 : wn.cell? ⟨q, 2, none⟩ = some (.slice (some ⟨b2, off2, none⟩) k f) := FR.out.cell 0 2 rfl rfl rfl
              have c03 : wn.cell? ⟨q, 3, none⟩ = some (.int .i64 ce) := FR.out.cell 0 3 rfl rfl rfl
              have c04 : wn.cell? ⟨q, 4, none⟩ = some (.int .i64 re) := FR.out.cell 0 4 rfl rfl rfl
              have c05 : wn.cell? ⟨q, 5, none⟩ = some (.int .i64 pa) := FR.out.cell 0 5 rfl rfl rfl
              go_wp2
              go_ret
              rw [HE.out]
              exact ⟨rfl, FR.out.out⟩
            · have e4 : decide (sv < 1) = false := by simp; omega
              by_cases a5 : 1073741824 < sv
              · have e5 : decide (1073741824 < sv) = true := by simp; omega
                have HE := Lib.hid (HNO.out (fun h => by have h1 := h.kinds i (by have h2 := HLT.out; have h3 := HLM.out; show i < ki.length; omega); rw [HK.out, HS.out] at h1; unfold kindOk at h1; omega))
                clear a1 a2 a3 a4 a5
                have c00 : wn.cell? ⟨q, 0, none⟩ = some (.slice A n c) := FR.out.cell 0 0 rfl rfl rfl
                have c01 : wn.cell? ⟨q, 1, none⟩ = some (.slice (some ⟨b, off, none⟩) m d) := FR.out.cell 0 1 rfl rfl rfl
                have c02 : wn.cell? ⟨q, 2, none⟩ = some (.slice (some ⟨b2, off2, none⟩) k f) := FR.out.cell 0 2 rfl rfl rfl
                have c03 : wn.cell? ⟨q, 3, none⟩ = some (.int .i64 ce) := FR.out.cell 0 3 rfl rfl rfl
                have c04 : wn.cell? ⟨q, 4, none⟩ = some (.int .i64 re) := FR.out.cell 0 4 rfl rfl rfl
                have c05 : wn.cell? ⟨q, 5, none⟩ = some (.int .i64 pa) := FR.out.cell 0 5 rfl rfl rfl
                go_wp2
                go_ret
                rw [HE.out]
                exact ⟨rfl, FR.out.out⟩
              · have e5 : decide (1073741824 < sv) = false := by simp; omega
                have HK2 := Lib.hid (show kindsTo ⟨co, ki, si, ce, re, pa⟩ (i + 1) from fun j hj => by
                  rcases Nat.lt_or_ge j i with h8 | h8
                  · exact HKT.out j h8
                  · have : j = i := by omega
                    subst this
                    rw [HK.out, HS.out]; unfold kindOk; omega)
                have HLI := HLT.out
                clear a1 a2 a3 a4 a5
                have c00 : wn.cell? ⟨q, 0, none⟩ = some (.slice A n c) := FR.out.cell 0 0 rfl rfl rfl
                have c01 : wn.cell? ⟨q, 1, none⟩ = some (.slice (some ⟨b, off, none⟩) m d) := FR.out.cell 0 1 rfl rfl rfl
                have c02 : wn.cell? ⟨q, 2, none⟩ = some (.slice (some ⟨b2, off2, none⟩) k f) := FR.out.cell 0 2 rfl rfl rfl
                have c03 : wn.cell? ⟨q, 3, none⟩ = some (.int .i64 ce) := FR.out.cell 0 3 rfl rfl rfl
                have c04 : wn.cell? ⟨q, 4, none⟩ = some (.int .i64 re) := FR.out.cell 0 4 rfl rfl rfl
                have c05 : wn.cell? ⟨q, 5, none⟩ = some (.int .i64 pa) := FR.out.cell 0 5 rfl rfl rfl
                go_wp2
                go_roundw
                case rel => exact ⟨i + 1, by go_num, by omega, HK2, FR⟩
                case measure => simp [intOf]; omega
          · have e3 : (kv == 6) = false := by simp [a3]
            have e3n : (kv != 6) = true := by simp [a3]
            by_cases a4 : sv = 0
            · have e4 : (sv != 0) = false := by simp [a4]
              have HK2 := Lib.hid (show kindsTo ⟨co, ki, si, ce, re, pa⟩ (i + 1) from fun j hj => by
                rcases Nat.lt_or_ge j i with h8 | h8
                · exact HKT.out j h8
                · have : j = i := by omega
                  subst this
                  rw [HK.out, HS.out]; unfold kindOk; omega)
              have HLI := HLT.out
              clear a1 a2 a3 a4
              have c00 : wn.cell? ⟨q, 0, none⟩ = some (.slice A n c) := FR.out.cell 0 0 rfl rfl rfl
              have c01 : wn.cell? ⟨q, 1, none⟩ = some (.slice (some ⟨b, off, none⟩) m d) := FR.out.cell 0 1 rfl rfl rfl
              have c02 : wn.cell? ⟨q, 2, none⟩ = some (.slice (some ⟨b2, off2, none⟩) k f) := FR.out.cell 0 2 rfl rfl rfl
              have c03 : wn.cell? ⟨q, 3, none⟩ = some (.int .i64 ce) := FR.out.cell 0 3 rfl rfl rfl
              have c04 : wn.cell? ⟨q, 4, none⟩ = some (.int .i64 re) := FR.out.cell 0 4 rfl rfl rfl
              have c05 : wn.cell? ⟨q, 5, none⟩ = some (.int .i64 pa) := FR.out.cell 0 5 rfl rfl rfl
              go_wp2
              go_roundw
              case rel => exact ⟨i + 1, by go_num, by omega, HK2, FR⟩
              case measure => simp [intOf]; omega
            · have e4 : (sv != 0) = true := by simp [a4]
              have HE := Lib.hid (HNO.out (fun h => by have h1 := h.kinds i (by have h2 := HLT.out; have h3 := HLM.out; show i < ki.length; omega); rw [HK.out, HS.out] at h1; unfold kindOk at h1; omega))
              clear a1 a2 a3 a4
              have c00 : wn.cell? ⟨q, 0, none⟩ = some (.slice A n c) := FR.out.cell 0 0 rfl rfl rfl
              have c01 : wn.cell? ⟨q, 1, none⟩ = some (.slice (some ⟨b, off, none⟩) m d) := FR.out.cell 0 1 rfl rfl rfl
              have c02 : wn.cell? ⟨q, 2, none⟩ = some (.slice (some ⟨b2, off2, none⟩) k f) := FR.out.cell 0 2 rfl rfl rfl
              have c03 : wn.cell? ⟨q, 3, none⟩ = some (.int .i64 ce) := FR.out.cell 0 3 rfl rfl rfl
              have c04 : wn.cell? ⟨q, 4, none⟩ = some (.int .i64 re) := FR.out.cell 0 4 rfl rfl rfl
              have c05 : wn.cell? ⟨q, 5, none⟩ = some (.int .i64 pa) := FR.out.cell 0 5 rfl rfl rfl
              go_wp2
              go_ret
              rw [HE.out]
              exact ⟨rfl, FR.out.out⟩
    · have en : i = m := by omega
      have c1 : decide ((i : Int) < (m : Int)) = false := by simp; omega
      have c1n : decide (i < m) = false := by simp; omega
      have HKM := Lib.hid (show kindsTo ⟨co, ki, si, ce, re, pa⟩ m from en ▸ HKT.out)
      clear en hlt hi HKT
      have c00 : wr.cell? ⟨q, 0, none⟩ = some (.slice A n c) := FR.out.cell 0 0 rfl rfl rfl
      have c01 : wr.cell? ⟨q, 1, none⟩ = some (.slice B m d) := FR.out.cell 0 1 rfl rfl rfl
      have c02 : wr.cell? ⟨q, 2, none⟩ = some (.slice C k f) := FR.out.cell 0 2 rfl rfl rfl
      have c03 : wr.cell? ⟨q, 3, none⟩ = some (.int .i64 ce) := FR.out.cell 0 3 rfl rfl rfl
      have c04 : wr.cell? ⟨q, 4, none⟩ = some (.int .i64 re) := FR.out.cell 0 4 rfl rfl rfl
      have c05 : wr.cell? ⟨q, 5, none⟩ = some (.int .i64 pa) := FR.out.cell 0 5 rfl rfl rfl
      go_wp2
      clear c00 c01 c02 c03 c04 c05
      obtain ⟨wo, hwo⟩ : ∃ x, x = wr := ⟨_, rfl⟩
      subst hwo
      go_loopw [7] (fun iv wr => ∃ (i : Nat), iv = .int .i64 (i : Int) ∧ i ≤ n ∧ Hid (codeTo ⟨co, ki, si, ce, re, pa⟩ i) ∧ Hid (Fr w wr q [.cells #[.slice A n c, .slice B m d, .slice C k f, .int .i64 ce, .int .i64 re, .int .i64 pa] 25])) (fun iv _ => n - (intOf iv).toNat)
      case atStart => exact ⟨0, rfl, by omega, fun i hi => by omega, FR.out⟩
      case round =>
        clear FR
        obtain ⟨j, rfl, hj, HCT, FR⟩ := hrel
        by_cases hlt : j < n
        · have d1 : decide ((j : Int) < (n : Int)) = true := by simpa using hlt
          have d1n : decide (j < n) = true := by simpa using hlt
          have IJ := fun (W : World) h1 h2 h3 => IS.out W h1 h2 h3 (j : Int)
          have hij : insB ⟨co, ki, si, ce, re, pa⟩ (j : Int) = insX ⟨co, ki, si, ce, re, pa⟩ (inAt co j) := by unfold insB; rw [show (⟨co, ki, si, ce, re, pa⟩ : Pg).code.length = n from HLN.out, inB_iff.2 ⟨by omega, by omega⟩, Bool.true_and, show ((j : Int)).toNat = j by omega]
          cases hix : insB ⟨co, ki, si, ce, re, pa⟩ (j : Int)
          · rw [hix] at IJ hij
            replace IJ := Lib.hid IJ
            have HE := Lib.hid (HNO.out (fun h => by have h1 := h.code j (by show j < co.length; have := HLN.out; omega); rw [show inAt (⟨co, ki, si, ce, re, pa⟩ : Pg).code j = inAt co j from rfl, ← hij] at h1; cases h1))
            clear hix hij hlt
            have c00 : wr.cell? ⟨q, 0, none⟩ = some (.slice A n c) := FR.out.cell 0 0 rfl rfl rfl
            have c01 : wr.cell? ⟨q, 1, none⟩ = some (.slice B m d) := FR.out.cell 0 1 rfl rfl rfl
            have c02 : wr.cell? ⟨q, 2, none⟩ = some (.slice C k f) := FR.out.cell 0 2 rfl rfl rfl
            have c03 : wr.cell? ⟨q, 3, none⟩ = some (.int .i64 ce) := FR.out.cell 0 3 rfl rfl rfl
            have c04 : wr.cell? ⟨q, 4, none⟩ = some (.int .i64 re) := FR.out.cell 0 4 rfl rfl rfl
            have c05 : wr.cell? ⟨q, 5, none⟩ = some (.int .i64 pa) := FR.out.cell 0 5 rfl rfl rfl
            go_wp2_with fail
            refine (IJ.out _ (FR.out.es RX.out) (FR.out.es RY.out) (FR.out.es RZ.out)).mono ?_
            rintro e w5 ⟨rfl, hb⟩
            clear c00 c01 c02 c03 c04 c05
            replace FR := Lib.hid (FR.out.step hb)
            clear hb
            have c00 : w5.cell? ⟨q, 0, none⟩ = some (.slice A n c) := FR.out.cell 0 0 rfl rfl rfl
            have c01 : w5.cell? ⟨q, 1, none⟩ = some (.slice B m d) := FR.out.cell 0 1 rfl rfl rfl
            have c02 : w5.cell? ⟨q, 2, none⟩ = some (.slice C k f) := FR.out.cell 0 2 rfl rfl rfl
            have c03 : w5.cell? ⟨q, 3, none⟩ = some (.int .i64 ce) := FR.out.cell 0 3 rfl rfl rfl
            have c04 : w5.cell? ⟨q, 4, none⟩ = some (.int .i64 re) := FR.out.cell 0 4 rfl rfl rfl
            have c05 : w5.cell? ⟨q, 5, none⟩ = some (.int .i64 pa) := FR.out.cell 0 5 rfl rfl rfl
            go_wp2
            go_ret
            rw [HE.out]
            exact ⟨rfl, FR.out.out⟩
          · rw [hix] at IJ hij
            replace IJ := Lib.hid IJ
            have HC2 := Lib.hid (show codeTo ⟨co, ki, si, ce, re, pa⟩ (j + 1) from fun j2 hj2 => by
              rcases Nat.lt_or_ge j2 j with h8 | h8
              · exact HCT.out j2 h8
              · have : j2 = j := by omega
                subst this
                exact hij.symm)
            clear hix hij
            have c00 : wr.cell? ⟨q, 0, none⟩ = some (.slice A n c) := FR.out.cell 0 0 rfl rfl rfl
            have c01 : wr.cell? ⟨q, 1, none⟩ = some (.slice B m d) := FR.out.cell 0 1 rfl rfl rfl
            have c02 : wr.cell? ⟨q, 2, none⟩ = some (.slice C k f) := FR.out.cell 0 2 rfl rfl rfl
            have c03 : wr.cell? ⟨q, 3, none⟩ = some (.int .i64 ce) := FR.out.cell 0 3 rfl rfl rfl
            have c04 : wr.cell? ⟨q, 4, none⟩ = some (.int .i64 re) := FR.out.cell 0 4 rfl rfl rfl
            have c05 : wr.cell? ⟨q, 5, none⟩ = some (.int .i64 pa) := FR.out.cell 0 5 rfl rfl rfl
            go_wp2_with fail
            refine (IJ.out _ (FR.out.es RX.out) (FR.out.es RY.out) (FR.out.es RZ.out)).mono ?_
            rintro e w5 ⟨rfl, hb⟩
            clear c00 c01 c02 c03 c04 c05
            replace FR := Lib.hid (FR.out.step hb)
            clear hb
            have c00 : w5.cell? ⟨q, 0, none⟩ = some (.slice A n c) := FR.out.cell 0 0 rfl rfl rfl
            have c01 : w5.cell? ⟨q, 1, none⟩ = some (.slice B m d) := FR.out.cell 0 1 rfl rfl rfl
            have c02 : w5.cell? ⟨q, 2, none⟩ = some (.slice C k f) := FR.out.cell 0 2 rfl rfl rfl
            have c03 : w5.cell? ⟨q, 3, none⟩ = some (.int .i64 ce) := FR.out.cell 0 3 rfl rfl rfl
            have c04 : w5.cell? ⟨q, 4, none⟩ = some (.int .i64 re) := FR.out.cell 0 4 rfl rfl rfl
            have c05 : w5.cell? ⟨q, 5, none⟩ = some (.int .i64 pa) := FR.out.cell 0 5 rfl rfl rfl
            go_wp2
            go_roundw
            case rel => exact ⟨j + 1, by go_num, by omega, HC2, FR⟩
            case measure => simp [intOf]; omega
        · have en : j = n := by omega
          have d1 : decide ((j : Int) < (n : Int)) = false := by simp; omega
          have d1n : decide (j < n) = false := by simp; omega
          have HCN := Lib.hid (show codeTo ⟨co, ki, si, ce, re, pa⟩ n from en ▸ HCT.out)
          have n0 : 0 < n := by have := HT.out.1; omega
          obtain ⟨l, hl⟩ : ∃ l : Nat, n - 1 = l := ⟨_, rfl⟩
          have s1 : (n : Int) - 1 = (l : Int) := by omega
          have l0 : (0 : Int) ≤ (l : Int) := by omega
          have l1 : (l : Int) < (n : Int) := by omega
          obtain ⟨b, off, rfl, hb0, k0, k1, k2, k3⟩ := I4s.look (l := co) (FR.out.es RX.out) l (by omega)
          clear hb0 k1 k2 k3
          obtain ⟨lo, hlo⟩ : ∃ o, (inAt co l).1 = o := ⟨_, rfl⟩
          rw [hlo] at k0
          have HLO := Lib.hid (show RightPg ⟨co, ki, si, ce, re, pa⟩ ↔ lastOk lo from ⟨fun h => by have h1 := h.last; rw [show (⟨co, ki, si, ce, re, pa⟩ : Pg).code.length - 1 = l by rw [show (⟨co, ki, si, ce, re, pa⟩ : Pg).code.length = n from HLN.out]; exact hl, show (⟨co, ki, si, ce, re, pa⟩ : Pg).code = co from rfl, hlo] at h1; exact h1, fun h => by
            obtain ⟨g1, g2, g3, g4, g5, g6, g7, g8, g9, g10⟩ := HT.out
            have e1 := HLN.out; have e2 := HLM.out; have e3 := HLK.out
            refine ⟨by show 1 ≤ co.length; omega, by show co.length ≤ 60; omega, by show ki.length ≤ 8; omega, by show si.length = ki.length; omega, g5, g6, g7, g8, g9, g10, by show kindsTo _ ki.length; rw [e2]; exact HKM.out, by show codeTo _ co.length; rw [e1]; exact HCN.out, ?_⟩
            show lastOk (inAt co (co.length - 1)).1
            rw [e1, hl, hlo]; exact h⟩)
          have S1 := s1
          clear en hlt hj hlo hl HCT n0
          have c00 : wr.cell? ⟨q, 0, none⟩ = some (.slice (some ⟨b, off, none⟩) n c) := FR.out.cell 0 0 rfl rfl rfl
          have c01 : wr.cell? ⟨q, 1, none⟩ = some (.slice B m d) := FR.out.cell 0 1 rfl rfl rfl
          have c02 : wr.cell? ⟨q, 2, none⟩ = some (.slice C k f) := FR.out.cell 0 2 rfl rfl rfl
          have c03 : wr.cell? ⟨q, 3, none⟩ = some (.int .i64 ce) := FR.out.cell 0 3 rfl rfl rfl
          have c04 : wr.cell? ⟨q, 4, none⟩ = some (.int .i64 re) := FR.out.cell 0 4 rfl rfl rfl
          have c05 : wr.cell? ⟨q, 5, none⟩ = some (.int .i64 pa) := FR.out.cell 0 5 rfl rfl rfl
          by_cases a1 : lo = 0
          · have e1 : (lo == 0) = true := by simp [a1]
            have HE := Lib.hid (HYES.out (HLO.out.2 (by unfold lastOk; omega)))
            clear a1
            go_wp2
            go_ret
            rw [HE.out]
            exact ⟨rfl, FR.out.out⟩
          · have e1 : (lo == 0) = false := by simp [a1]
            by_cases a2 : lo = 6
            · have e2 : (lo == 6) = true := by simp [a2]
              have HE := Lib.hid (HYES.out (HLO.out.2 (by unfold lastOk; omega)))
              clear a1 a2
              go_wp2
              go_ret
              rw [HE.out]
              exact ⟨rfl, FR.out.out⟩
            · have e2 : (lo == 6) = false := by simp [a2]
              by_cases a3 : lo = 24
              · have e3 : (lo == 24) = true := by simp [a3]
                have HE := Lib.hid (HYES.out (HLO.out.2 (by unfold lastOk; omega)))
                clear a1 a2 a3
                go_wp2
                go_ret
                rw [HE.out]
                exact ⟨rfl, FR.out.out⟩
              · have e3 : (lo == 24) = false := by simp [a3]
                have HE := Lib.hid (HNO.out (fun h => by have h1 := HLO.out.1 h; unfold lastOk at h1; omega))
                clear a1 a2 a3
                go_wp2
                go_ret
                rw [HE.out]
                exact ⟨rfl, FR.out.out⟩
end Go.Proofs.Ytkoodhnfphmbnaa
