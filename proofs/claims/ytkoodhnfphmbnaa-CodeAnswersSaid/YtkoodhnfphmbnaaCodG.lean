/- What the document's own Same of layer 13 answers; for programs of up to 16384 of each. -/
import Derived.Test.YtkoodhnfphmbnaaCodC
namespace Go.Proofs.Ytkoodhnfphmbnaa
set_option linter.unusedVariables false
set_option linter.unusedSimpArgs false
open Go.RowKit
def sameB (p q : Pg) : Bool := decide (p.code = q.code ∧ p.kinds = q.kinds ∧ p.sizes = q.sizes ∧ p.cells = q.cells ∧ p.recs = q.recs ∧ p.pat = q.pat)
theorem sameB_no {p q : Pg} (h : ¬ (p.code = q.code ∧ p.kinds = q.kinds ∧ p.sizes = q.sizes ∧ p.cells = q.cells ∧ p.recs = q.recs ∧ p.pat = q.pat)) : sameB p q = false := decide_eq_false h
theorem i4_neq (x y : I4) (W : World) : (binOp .neq 40 (.agg #[.int .i64 x.1, .int .i64 x.2.1, .int .i64 x.2.2.1, .int .i64 x.2.2.2]) (.agg #[.int .i64 y.1, .int .i64 y.2.1, .int .i64 y.2.2.1, .int .i64 y.2.2.2])).run Try.prog W = .ok (.bool (decide (x ≠ y))) W := by
  obtain ⟨a1, a2, a3, a4⟩ := x
  obtain ⟨b1, b2, b3, b4⟩ := y
  have hd : decide (((a1, a2, a3, a4) : I4) ≠ (b1, b2, b3, b4)) = !(decide (a1 = b1) && (decide (a2 = b2) && (decide (a3 = b3) && decide (a4 = b4)))) := by
    by_cases h1 : a1 = b1 <;> by_cases h2 : a2 = b2 <;> by_cases h3 : a3 = b3 <;> by_cases h4 : a4 = b4 <;> simp [h1, h2, h3, h4]
  rw [hd]
  go_simp
  (repeat' split) <;> simp_all
theorem take_eq_step {l l2 : List I4} {i : Nat} (h : l.take i = l2.take i) (h1 : i < l.length) (h2 : i < l2.length) (he : inAt l i = inAt l2 i) : l.take (i + 1) = l2.take (i + 1) := by
  have key : ∀ {m : List I4}, i < m.length → m.take (i + 1) = m.take i ++ [inAt m i] := by
    intro m hm
    rw [List.take_add_one, List.getElem?_eq_getElem hm]
    unfold inAt
    rw [List.getD_eq_getElem?_getD, List.getElem?_eq_getElem hm]; rfl
  rw [key h1, key h2, h, he]
set_option maxRecDepth 100000 in
set_option maxHeartbeats 16000000 in
theorem refSame13_any (A : Option Addr) (n c : Nat) (B : Option Addr) (m d : Nat) (C : Option Addr) (k f : Nat) (co : List I4) (ki si : List Int) (ce re pa : Int) (A2 : Option Addr) (n2 c2 : Nat) (B2 : Option Addr) (m2 d2 : Nat) (C2 : Option Addr) (k2 f2 : Nat) (co2 : List I4) (ki2 si2 : List Int) (ce2 re2 pa2 : Int) (w : World) (hx : I4s w A n c co) (hy : Is w B m d ki) (hz : Is w C k f si) (hn : n ≤ 16384) (hm : m ≤ 16384) (hk : k ≤ 16384) (hx2 : I4s w A2 n2 c2 co2) (hy2 : Is w B2 m2 d2 ki2) (hz2 : Is w C2 k2 f2 si2) :
    Calls Try.prog 16 #[.agg #[.slice A n c, .slice B m d, .slice C k f, .int .i64 ce, .int .i64 re, .int .i64 pa], .agg #[.slice A2 n2 c2, .slice B2 m2 d2, .slice C2 k2 f2, .int .i64 ce2, .int .i64 re2, .int .i64 pa2]] w (YesC w (sameB ⟨co, ki, si, ce, re, pa⟩ ⟨co2, ki2, si2, ce2, re2, pa2⟩)) := by
  have RX := Lib.hid hx; have RY := Lib.hid hy; have RZ := Lib.hid hz; have RX2 := Lib.hid hx2; have RY2 := Lib.hid hy2; have RZ2 := Lib.hid hz2
  have HL := Lib.hid hx.len; have HL2 := Lib.hid hx2.len
  obtain ⟨R, hR⟩ : ∃ R, sameB ⟨co, ki, si, ce, re, pa⟩ ⟨co2, ki2, si2, ce2, re2, pa2⟩ = R := ⟨_, rfl⟩
  rw [hR]
  have HNO := Lib.hid (show ¬ (co = co2 ∧ ki = ki2 ∧ si = si2 ∧ ce = ce2 ∧ re = re2 ∧ pa = pa2) → R = false from fun h => by rw [← hR]; exact sameB_no h)
  have HYES := Lib.hid (show co = co2 → ce = ce2 → re = re2 → pa = pa2 → R = (decide (ki = ki2) && decide (si = si2)) from fun a b c d => by rw [← hR]; unfold sameB; simp [a, b, c, d])
  clear hx hy hz hx2 hy2 hz2 hR
  obtain ⟨v1, hv1⟩ : ∃ W, w.alloc (.cells #[.slice A n c, .slice B m d, .slice C k f, .int .i64 ce, .int .i64 re, .int .i64 pa] 25) = W := ⟨_, rfl⟩
  have fr1 : Fr w v1 w.heap.size [.cells #[.slice A n c, .slice B m d, .slice C k f, .int .i64 ce, .int .i64 re, .int .i64 pa] 25] := hv1 ▸ Fr.first w _
  have z1 : v1.heap.size = w.heap.size + 1 := by rw [← hv1, Fr.size1]
  obtain ⟨v2, hv2⟩ : ∃ W, v1.alloc (.cells #[.slice A2 n2 c2, .slice B2 m2 d2, .slice C2 k2 f2, .int .i64 ce2, .int .i64 re2, .int .i64 pa2] 25) = W := ⟨_, rfl⟩
  have fr2 : Fr w v2 w.heap.size [.cells #[.slice A n c, .slice B m d, .slice C k f, .int .i64 ce, .int .i64 re, .int .i64 pa] 25, .cells #[.slice A2 n2 c2, .slice B2 m2 d2, .slice C2 k2 f2, .int .i64 ce2, .int .i64 re2, .int .i64 pa2] 25] := hv2 ▸ fr1.more z1 _
  have z2 : v2.heap.size = w.heap.size + 2 := by rw [← hv2, Fr.size1, z1]
  generalize hq : w.heap.size = q at *
  have FR := Lib.hid fr2
  clear fr1 fr2
  by_cases hn2 : n = n2
  · subst hn2
    have t0 : ((n : Int) != (n : Int)) = false := by simp
    have t0n : (n != n) = false := by simp
    by_cases hce : ce = ce2
    rotate_left
    · have tce : (ce != ce2) = true := by simp [hce]
      have HE := Lib.hid (HNO.out (fun h => hce (by simp_all)))
      clear hce
      go_enter Try.func16, Try.ntmps16
      have c00 : v2.cell? ⟨q, 0, none⟩ = some (.slice A n c) := FR.out.cell 0 0 rfl rfl rfl
      have c01 : v2.cell? ⟨q, 1, none⟩ = some (.slice B m d) := FR.out.cell 0 1 rfl rfl rfl
      have c02 : v2.cell? ⟨q, 2, none⟩ = some (.slice C k f) := FR.out.cell 0 2 rfl rfl rfl
      have c03 : v2.cell? ⟨q, 3, none⟩ = some (.int .i64 ce) := FR.out.cell 0 3 rfl rfl rfl
      have c04 : v2.cell? ⟨q, 4, none⟩ = some (.int .i64 re) := FR.out.cell 0 4 rfl rfl rfl
      have c05 : v2.cell? ⟨q, 5, none⟩ = some (.int .i64 pa) := FR.out.cell 0 5 rfl rfl rfl
      have c10 : v2.cell? ⟨q + 1, 0, none⟩ = some (.slice A2 n c2) := FR.out.cell 1 0 rfl rfl rfl
      have c11 : v2.cell? ⟨q + 1, 1, none⟩ = some (.slice B2 m2 d2) := FR.out.cell 1 1 rfl rfl rfl
      have c12 : v2.cell? ⟨q + 1, 2, none⟩ = some (.slice C2 k2 f2) := FR.out.cell 1 2 rfl rfl rfl
      have c13 : v2.cell? ⟨q + 1, 3, none⟩ = some (.int .i64 ce2) := FR.out.cell 1 3 rfl rfl rfl
      have c14 : v2.cell? ⟨q + 1, 4, none⟩ = some (.int .i64 re2) := FR.out.cell 1 4 rfl rfl rfl
      have c15 : v2.cell? ⟨q + 1, 5, none⟩ = some (.int .i64 pa2) := FR.out.cell 1 5 rfl rfl rfl
      go_wp2
      go_ret
      rw [HE.out]
      exact ⟨rfl, FR.out.out⟩
    have tce : (ce != ce2) = false := by simp [hce]
    replace hce := Lib.hid hce
    by_cases hre : re = re2
    rotate_left
    · have tre : (re != re2) = true := by simp [hre]
      have HE := Lib.hid (HNO.out (fun h => hre (by simp_all)))
      clear hre
      go_enter Try.func16, Try.ntmps16
      have c00 : v2.cell? ⟨q, 0, none⟩ = some (.slice A n c) := FR.out.cell 0 0 rfl rfl rfl
      have c01 : v2.cell? ⟨q, 1, none⟩ = some (.slice B m d) := FR.out.cell 0 1 rfl rfl rfl
      have c02 : v2.cell? ⟨q, 2, none⟩ = some (.slice C k f) := FR.out.cell 0 2 rfl rfl rfl
      have c03 : v2.cell? ⟨q, 3, none⟩ = some (.int .i64 ce) := FR.out.cell 0 3 rfl rfl rfl
      have c04 : v2.cell? ⟨q, 4, none⟩ = some (.int .i64 re) := FR.out.cell 0 4 rfl rfl rfl
      have c05 : v2.cell? ⟨q, 5, none⟩ = some (.int .i64 pa) := FR.out.cell 0 5 rfl rfl rfl
      have c10 : v2.cell? ⟨q + 1, 0, none⟩ = some (.slice A2 n c2) := FR.out.cell 1 0 rfl rfl rfl
      have c11 : v2.cell? ⟨q + 1, 1, none⟩ = some (.slice B2 m2 d2) := FR.out.cell 1 1 rfl rfl rfl
      have c12 : v2.cell? ⟨q + 1, 2, none⟩ = some (.slice C2 k2 f2) := FR.out.cell 1 2 rfl rfl rfl
      have c13 : v2.cell? ⟨q + 1, 3, none⟩ = some (.int .i64 ce2) := FR.out.cell 1 3 rfl rfl rfl
      have c14 : v2.cell? ⟨q + 1, 4, none⟩ = some (.int .i64 re2) := FR.out.cell 1 4 rfl rfl rfl
      have c15 : v2.cell? ⟨q + 1, 5, none⟩ = some (.int .i64 pa2) := FR.out.cell 1 5 rfl rfl rfl
      go_wp2
      go_ret
      rw [HE.out]
      exact ⟨rfl, FR.out.out⟩
    have tre : (re != re2) = false := by simp [hre]
    replace hre := Lib.hid hre
    by_cases hpa : pa = pa2
    rotate_left
    · have tpa : (pa != pa2) = true := by simp [hpa]
      have HE := Lib.hid (HNO.out (fun h => hpa (by simp_all)))
      clear hpa
      go_enter Try.func16, Try.ntmps16
      have c00 : v2.cell? ⟨q, 0, none⟩ = some (.slice A n c) := FR.out.cell 0 0 rfl rfl rfl
      have c01 : v2.cell? ⟨q, 1, none⟩ = some (.slice B m d) := FR.out.cell 0 1 rfl rfl rfl
      have c02 : v2.cell? ⟨q, 2, none⟩ = some (.slice C k f) := FR.out.cell 0 2 rfl rfl rfl
      have c03 : v2.cell? ⟨q, 3, none⟩ = some (.int .i64 ce) := FR.out.cell 0 3 rfl rfl rfl
      have c04 : v2.cell? ⟨q, 4, none⟩ = some (.int .i64 re) := FR.out.cell 0 4 rfl rfl rfl
      have c05 : v2.cell? ⟨q, 5, none⟩ = some (.int .i64 pa) := FR.out.cell 0 5 rfl rfl rfl
      have c10 : v2.cell? ⟨q + 1, 0, none⟩ = some (.slice A2 n c2) := FR.out.cell 1 0 rfl rfl rfl
      have c11 : v2.cell? ⟨q + 1, 1, none⟩ = some (.slice B2 m2 d2) := FR.out.cell 1 1 rfl rfl rfl
      have c12 : v2.cell? ⟨q + 1, 2, none⟩ = some (.slice C2 k2 f2) := FR.out.cell 1 2 rfl rfl rfl
      have c13 : v2.cell? ⟨q + 1, 3, none⟩ = some (.int .i64 ce2) := FR.out.cell 1 3 rfl rfl rfl
      have c14 : v2.cell? ⟨q + 1, 4, none⟩ = some (.int .i64 re2) := FR.out.cell 1 4 rfl rfl rfl
      have c15 : v2.cell? ⟨q + 1, 5, none⟩ = some (.int .i64 pa2) := FR.out.cell 1 5 rfl rfl rfl
      go_wp2
      go_ret
      rw [HE.out]
      exact ⟨rfl, FR.out.out⟩
    have tpa : (pa != pa2) = false := by simp [hpa]
    replace hpa := Lib.hid hpa
    go_enter Try.func16, Try.ntmps16
    have c00 : v2.cell? ⟨q, 0, none⟩ = some (.slice A n c) := FR.out.cell 0 0 rfl rfl rfl
    have c01 : v2.cell? ⟨q, 1, none⟩ = some (.slice B m d) := FR.out.cell 0 1 rfl rfl rfl
    have c02 : v2.cell? ⟨q, 2, none⟩ = some (.slice C k f) := FR.out.cell 0 2 rfl rfl rfl
    have c03 : v2.cell? ⟨q, 3, none⟩ = some (.int .i64 ce) := FR.out.cell 0 3 rfl rfl rfl
    have c04 : v2.cell? ⟨q, 4, none⟩ = some (.int .i64 re) := FR.out.cell 0 4 rfl rfl rfl
    have c05 : v2.cell? ⟨q, 5, none⟩ = some (.int .i64 pa) := FR.out.cell 0 5 rfl rfl rfl
    have c10 : v2.cell? ⟨q + 1, 0, none⟩ = some (.slice A2 n c2) := FR.out.cell 1 0 rfl rfl rfl
    have c11 : v2.cell? ⟨q + 1, 1, none⟩ = some (.slice B2 m2 d2) := FR.out.cell 1 1 rfl rfl rfl
    have c12 : v2.cell? ⟨q + 1, 2, none⟩ = some (.slice C2 k2 f2) := FR.out.cell 1 2 rfl rfl rfl
    have c13 : v2.cell? ⟨q + 1, 3, none⟩ = some (.int .i64 ce2) := FR.out.cell 1 3 rfl rfl rfl
    have c14 : v2.cell? ⟨q + 1, 4, none⟩ = some (.int .i64 re2) := FR.out.cell 1 4 rfl rfl rfl
    have c15 : v2.cell? ⟨q + 1, 5, none⟩ = some (.int .i64 pa2) := FR.out.cell 1 5 rfl rfl rfl
    go_wp2
    clear c00 c01 c02 c03 c04 c05 c10 c11 c12 c13 c14 c15
    clear hv1 hv2 z1 z2
    go_loopw [5] (fun iv wr => ∃ (i : Nat), iv = .int .i64 (i : Int) ∧ i ≤ n ∧ Hid (co.take i = co2.take i) ∧ Hid (Fr w wr q [.cells #[.slice A n c, .slice B m d, .slice C k f, .int .i64 ce, .int .i64 re, .int .i64 pa] 25, .cells #[.slice A2 n c2, .slice B2 m2 d2, .slice C2 k2 f2, .int .i64 ce2, .int .i64 re2, .int .i64 pa2] 25])) (fun iv _ => n - (intOf iv).toNat)
    case atStart => exact ⟨0, rfl, by omega, by show co.take 0 = co2.take 0; simp, FR.out⟩
    case round =>
      clear FR
      obtain ⟨i, rfl, hi, HTK, FR⟩ := hrel
      by_cases hlt : i < n
      · have c1 : decide ((i : Int) < (n : Int)) = true := by simpa using hlt
        have c1n : decide (i < n) = true := by simpa using hlt
        have i0 : (0 : Int) ≤ (i : Int) := by omega
        have i1 : (i : Int) < (n : Int) := by omega
        obtain ⟨b, off, rfl, _, u0, u1, u2, u3⟩ := I4s.look (l := co) (FR.out.es RX.out) i hlt
        obtain ⟨b2, off2, rfl, _, g0, g1, g2, g3⟩ := I4s.look (l := co2) (FR.out.es RX2.out) i hlt
        have hne := i4_neq (inAt co i) (inAt co2 i)
        have HLT := Lib.hid hlt
        by_cases he : inAt co i = inAt co2 i
        · have HT2 := Lib.hid (take_eq_step HTK.out (by have := HL.out; omega) (by have := HL2.out; omega) he)
          rw [decide_eq_false (fun h => h he)] at hne
          clear he hlt
          generalize inAt co i = r at *
          generalize inAt co2 i = r2 at *
          have c00 : wr.cell? ⟨q, 0, none⟩ = some (.slice (some ⟨b, off, none⟩) n c) := FR.out.cell 0 0 rfl rfl rfl
          have c01 : wr.cell? ⟨q, 1, none⟩ = some (.slice B m d) := FR.out.cell 0 1 rfl rfl rfl
          have c02 : wr.cell? ⟨q, 2, none⟩ = some (.slice C k f) := FR.out.cell 0 2 rfl rfl rfl
          have c03 : wr.cell? ⟨q, 3, none⟩ = some (.int .i64 ce) := FR.out.cell 0 3 rfl rfl rfl
          have c04 : wr.cell? ⟨q, 4, none⟩ = some (.int .i64 re) := FR.out.cell 0 4 rfl rfl rfl
          have c05 : wr.cell? ⟨q, 5, none⟩ = some (.int .i64 pa) := FR.out.cell 0 5 rfl rfl rfl
          have c10 : wr.cell? ⟨q + 1, 0, none⟩ = some (.slice (some ⟨b2, off2, none⟩) n c2) := FR.out.cell 1 0 rfl rfl rfl
          have c11 : wr.cell? ⟨q + 1, 1, none⟩ = some (.slice B2 m2 d2) := FR.out.cell 1 1 rfl rfl rfl
          have c12 : wr.cell? ⟨q + 1, 2, none⟩ = some (.slice C2 k2 f2) := FR.out.cell 1 2 rfl rfl rfl
          have c13 : wr.cell? ⟨q + 1, 3, none⟩ = some (.int .i64 ce2) := FR.out.cell 1 3 rfl rfl rfl
          have c14 : wr.cell? ⟨q + 1, 4, none⟩ = some (.int .i64 re2) := FR.out.cell 1 4 rfl rfl rfl
          have c15 : wr.cell? ⟨q + 1, 5, none⟩ = some (.int .i64 pa2) := FR.out.cell 1 5 rfl rfl rfl
          go_wp2
          go_quiet (fail)
          replace FR := Lib.hid (show Fr w (wr.drewN nq) q [.cells #[.slice (some ⟨b, off, none⟩) n c, .slice B m d, .slice C k f, .int .i64 ce, .int .i64 re, .int .i64 pa] 25, .cells #[.slice (some ⟨b2, off2, none⟩) n c2, .slice B2 m2 d2, .slice C2 k2 f2, .int .i64 ce2, .int .i64 re2, .int .i64 pa2] 25] from ⟨FR.out.blk, bel_drewN FR.out.bel _, FR.out.sz, FR.out.q0⟩)
          clear c00 c01 c02 c03 c04 c05 c10 c11 c12 c13 c14 c15
          clear u0 u1 u2 u3 g0 g1 g2 g3 hne
          obtain ⟨wn, hwn⟩ : ∃ W, wr.drewN nq = W := ⟨_, rfl⟩
          rw [hwn] at FR ⊢
          clear hwn
          have c00 : wn.cell? ⟨q, 0, none⟩ = some (.slice (some ⟨b, off, none⟩) n c) := FR.out.cell 0 0 rfl rfl rfl
          have c01 : wn.cell? ⟨q, 1, none⟩ = some (.slice B m d) := FR.out.cell 0 1 rfl rfl rfl
          have c02 : wn.cell? ⟨q, 2, none⟩ = some (.slice C k f) := FR.out.cell 0 2 rfl rfl rfl
          have c03 : wn.cell? ⟨q, 3, none⟩ = some (.int .i64 ce) := FR.out.cell 0 3 rfl rfl rfl
          have c04 : wn.cell? ⟨q, 4, none⟩ = some (.int .i64 re) := FR.out.cell 0 4 rfl rfl rfl
          have c05 : wn.cell? ⟨q, 5, none⟩ = some (.int .i64 pa) := FR.out.cell 0 5 rfl rfl rfl
          have c10 : wn.cell? ⟨q + 1, 0, none⟩ = some (.slice (some ⟨b2, off2, none⟩) n c2) := FR.out.cell 1 0 rfl rfl rfl
          have c11 : wn.cell? ⟨q + 1, 1, none⟩ = some (.slice B2 m2 d2) := FR.out.cell 1 1 rfl rfl rfl
          have c12 : wn.cell? ⟨q + 1, 2, none⟩ = some (.slice C2 k2 f2) := FR.out.cell 1 2 rfl rfl rfl
          have c13 : wn.cell? ⟨q + 1, 3, none⟩ = some (.int .i64 ce2) := FR.out.cell 1 3 rfl rfl rfl
          have c14 : wn.cell? ⟨q + 1, 4, none⟩ = some (.int .i64 re2) := FR.out.cell 1 4 rfl rfl rfl
          have c15 : wn.cell? ⟨q + 1, 5, none⟩ = some (.int .i64 pa2) := FR.out.cell 1 5 rfl rfl rfl
          go_wp2
          go_roundw
          case rel => have := HLT.out; exact ⟨i + 1, by go_num, by omega, HT2, FR⟩
          case measure => have := HLT.out; simp [intOf]; omega
        · have HE := Lib.hid (HNO.out (fun h => he (by rw [h.1])))
          rw [decide_eq_true (p := inAt co i ≠ inAt co2 i) he] at hne
          clear he hlt
          generalize inAt co i = r at *
          generalize inAt co2 i = r2 at *
          have c00 : wr.cell? ⟨q, 0, none⟩ = some (.slice (some ⟨b, off, none⟩) n c) := FR.out.cell 0 0 rfl rfl rfl
          have c01 : wr.cell? ⟨q, 1, none⟩ = some (.slice B m d) := FR.out.cell 0 1 rfl rfl rfl
          have c02 : wr.cell? ⟨q, 2, none⟩ = some (.slice C k f) := FR.out.cell 0 2 rfl rfl rfl
          have c03 : wr.cell? ⟨q, 3, none⟩ = some (.int .i64 ce) := FR.out.cell 0 3 rfl rfl rfl
          have c04 : wr.cell? ⟨q, 4, none⟩ = some (.int .i64 re) := FR.out.cell 0 4 rfl rfl rfl
          have c05 : wr.cell? ⟨q, 5, none⟩ = some (.int .i64 pa) := FR.out.cell 0 5 rfl rfl rfl
          have c10 : wr.cell? ⟨q + 1, 0, none⟩ = some (.slice (some ⟨b2, off2, none⟩) n c2) := FR.out.cell 1 0 rfl rfl rfl
          have c11 : wr.cell? ⟨q + 1, 1, none⟩ = some (.slice B2 m2 d2) := FR.out.cell 1 1 rfl rfl rfl
          have c12 : wr.cell? ⟨q + 1, 2, none⟩ = some (.slice C2 k2 f2) := FR.out.cell 1 2 rfl rfl rfl
          have c13 : wr.cell? ⟨q + 1, 3, none⟩ = some (.int .i64 ce2) := FR.out.cell 1 3 rfl rfl rfl
          have c14 : wr.cell? ⟨q + 1, 4, none⟩ = some (.int .i64 re2) := FR.out.cell 1 4 rfl rfl rfl
          have c15 : wr.cell? ⟨q + 1, 5, none⟩ = some (.int .i64 pa2) := FR.out.cell 1 5 rfl rfl rfl
          go_wp2
          go_quiet (fail)
          replace FR := Lib.hid (show Fr w (wr.drewN nq) q [.cells #[.slice (some ⟨b, off, none⟩) n c, .slice B m d, .slice C k f, .int .i64 ce, .int .i64 re, .int .i64 pa] 25, .cells #[.slice (some ⟨b2, off2, none⟩) n c2, .slice B2 m2 d2, .slice C2 k2 f2, .int .i64 ce2, .int .i64 re2, .int .i64 pa2] 25] from ⟨FR.out.blk, bel_drewN FR.out.bel _, FR.out.sz, FR.out.q0⟩)
          go_wp2
          go_ret
          rw [HE.out]
          exact ⟨rfl, FR.out.out⟩
      · have en : i = n := by omega
        have c1 : decide ((i : Int) < (n : Int)) = false := by simp; omega
        have c1n : decide (i < n) = false := by simp; omega
        have hco : co = co2 := by have h := HTK.out; rw [List.take_of_length_le (by rw [HL.out]; omega), List.take_of_length_le (by rw [HL2.out]; omega)] at h; exact h
        have HE0 := Lib.hid (HYES.out hco hce.out hre.out hpa.out)
        have IK := fun (W : World) (h1 : Is W B m d ki) (h2 : Is W B2 m2 d2 ki2) => refInts_any B m d ki B2 m2 d2 ki2 W h1 h2 hm
        have IZ := fun (W : World) (h1 : Is W C k f si) (h2 : Is W C2 k2 f2 si2) => refInts_any C k f si C2 k2 f2 si2 W h1 h2 hk
        clear en hlt hi hco
        cases hki : decide (ki = ki2)
        · have HE := HE0.out
          rw [hki] at IK HE
          replace IK := Lib.hid IK
          rw [Bool.false_and] at HE
          replace HE := Lib.hid HE
          clear hki HE0
          have c00 : wr.cell? ⟨q, 0, none⟩ = some (.slice A n c) := FR.out.cell 0 0 rfl rfl rfl
          have c01 : wr.cell? ⟨q, 1, none⟩ = some (.slice B m d) := FR.out.cell 0 1 rfl rfl rfl
          have c02 : wr.cell? ⟨q, 2, none⟩ = some (.slice C k f) := FR.out.cell 0 2 rfl rfl rfl
          have c03 : wr.cell? ⟨q, 3, none⟩ = some (.int .i64 ce) := FR.out.cell 0 3 rfl rfl rfl
          have c04 : wr.cell? ⟨q, 4, none⟩ = some (.int .i64 re) := FR.out.cell 0 4 rfl rfl rfl
          have c05 : wr.cell? ⟨q, 5, none⟩ = some (.int .i64 pa) := FR.out.cell 0 5 rfl rfl rfl
          have c10 : wr.cell? ⟨q + 1, 0, none⟩ = some (.slice A2 n c2) := FR.out.cell 1 0 rfl rfl rfl
          have c11 : wr.cell? ⟨q + 1, 1, none⟩ = some (.slice B2 m2 d2) := FR.out.cell 1 1 rfl rfl rfl
          have c12 : wr.cell? ⟨q + 1, 2, none⟩ = some (.slice C2 k2 f2) := FR.out.cell 1 2 rfl rfl rfl
          have c13 : wr.cell? ⟨q + 1, 3, none⟩ = some (.int .i64 ce2) := FR.out.cell 1 3 rfl rfl rfl
          have c14 : wr.cell? ⟨q + 1, 4, none⟩ = some (.int .i64 re2) := FR.out.cell 1 4 rfl rfl rfl
          have c15 : wr.cell? ⟨q + 1, 5, none⟩ = some (.int .i64 pa2) := FR.out.cell 1 5 rfl rfl rfl
          go_wp2_with fail
          refine ((IK.out _ (FR.out.es RY.out) (FR.out.es RY2.out))).mono ?_
          rintro e w3 ⟨rfl, hb⟩
          clear c00 c01 c02 c03 c04 c05 c10 c11 c12 c13 c14 c15
          replace FR := Lib.hid (FR.out.step hb)
          clear hb
          have c00 : w3.cell? ⟨q, 0, none⟩ = some (.slice A n c) := FR.out.cell 0 0 rfl rfl rfl
          have c01 : w3.cell? ⟨q, 1, none⟩ = some (.slice B m d) := FR.out.cell 0 1 rfl rfl rfl
          have c02 : w3.cell? ⟨q, 2, none⟩ = some (.slice C k f) := FR.out.cell 0 2 rfl rfl rfl
          have c03 : w3.cell? ⟨q, 3, none⟩ = some (.int .i64 ce) := FR.out.cell 0 3 rfl rfl rfl
          have c04 : w3.cell? ⟨q, 4, none⟩ = some (.int .i64 re) := FR.out.cell 0 4 rfl rfl rfl
          have c05 : w3.cell? ⟨q, 5, none⟩ = some (.int .i64 pa) := FR.out.cell 0 5 rfl rfl rfl
          have c10 : w3.cell? ⟨q + 1, 0, none⟩ = some (.slice A2 n c2) := FR.out.cell 1 0 rfl rfl rfl
          have c11 : w3.cell? ⟨q + 1, 1, none⟩ = some (.slice B2 m2 d2) := FR.out.cell 1 1 rfl rfl rfl
          have c12 : w3.cell? ⟨q + 1, 2, none⟩ = some (.slice C2 k2 f2) := FR.out.cell 1 2 rfl rfl rfl
          have c13 : w3.cell? ⟨q + 1, 3, none⟩ = some (.int .i64 ce2) := FR.out.cell 1 3 rfl rfl rfl
          have c14 : w3.cell? ⟨q + 1, 4, none⟩ = some (.int .i64 re2) := FR.out.cell 1 4 rfl rfl rfl
          have c15 : w3.cell? ⟨q + 1, 5, none⟩ = some (.int .i64 pa2) := FR.out.cell 1 5 rfl rfl rfl
          go_wp2
          go_ret
          rw [HE.out]
          exact ⟨rfl, FR.out.out⟩
        · have HE := HE0.out
          rw [hki] at IK HE
          replace IK := Lib.hid IK
          rw [Bool.true_and] at HE
          obtain ⟨sv, hsv⟩ : ∃ t, decide (si = si2) = t := ⟨_, rfl⟩
          rw [hsv] at IZ HE
          replace IZ := Lib.hid IZ
          clear hsv
          replace HE := Lib.hid HE
          clear hki HE0
          have c00 : wr.cell? ⟨q, 0, none⟩ = some (.slice A n c) := FR.out.cell 0 0 rfl rfl rfl
          have c01 : wr.cell? ⟨q, 1, none⟩ = some (.slice B m d) := FR.out.cell 0 1 rfl rfl rfl
          have c02 : wr.cell? ⟨q, 2, none⟩ = some (.slice C k f) := FR.out.cell 0 2 rfl rfl rfl
          have c03 : wr.cell? ⟨q, 3, none⟩ = some (.int .i64 ce) := FR.out.cell 0 3 rfl rfl rfl
          have c04 : wr.cell? ⟨q, 4, none⟩ = some (.int .i64 re) := FR.out.cell 0 4 rfl rfl rfl
          have c05 : wr.cell? ⟨q, 5, none⟩ = some (.int .i64 pa) := FR.out.cell 0 5 rfl rfl rfl
          have c10 : wr.cell? ⟨q + 1, 0, none⟩ = some (.slice A2 n c2) := FR.out.cell 1 0 rfl rfl rfl
          have c11 : wr.cell? ⟨q + 1, 1, none⟩ = some (.slice B2 m2 d2) := FR.out.cell 1 1 rfl rfl rfl
          have c12 : wr.cell? ⟨q + 1, 2, none⟩ = some (.slice C2 k2 f2) := FR.out.cell 1 2 rfl rfl rfl
          have c13 : wr.cell? ⟨q + 1, 3, none⟩ = some (.int .i64 ce2) := FR.out.cell 1 3 rfl rfl rfl
          have c14 : wr.cell? ⟨q + 1, 4, none⟩ = some (.int .i64 re2) := FR.out.cell 1 4 rfl rfl rfl
          have c15 : wr.cell? ⟨q + 1, 5, none⟩ = some (.int .i64 pa2) := FR.out.cell 1 5 rfl rfl rfl
          go_wp2_with fail
          refine ((IK.out _ (FR.out.es RY.out) (FR.out.es RY2.out))).mono ?_
          rintro e w3 ⟨rfl, hb⟩
          clear c00 c01 c02 c03 c04 c05 c10 c11 c12 c13 c14 c15
          replace FR := Lib.hid (FR.out.step hb)
          clear hb
          have c00 : w3.cell? ⟨q, 0, none⟩ = some (.slice A n c) := FR.out.cell 0 0 rfl rfl rfl
          have c01 : w3.cell? ⟨q, 1, none⟩ = some (.slice B m d) := FR.out.cell 0 1 rfl rfl rfl
          have c02 : w3.cell? ⟨q, 2, none⟩ = some (.slice C k f) := FR.out.cell 0 2 rfl rfl rfl
          have c03 : w3.cell? ⟨q, 3, none⟩ = some (.int .i64 ce) := FR.out.cell 0 3 rfl rfl rfl
          have c04 : w3.cell? ⟨q, 4, none⟩ = some (.int .i64 re) := FR.out.cell 0 4 rfl rfl rfl
          have c05 : w3.cell? ⟨q, 5, none⟩ = some (.int .i64 pa) := FR.out.cell 0 5 rfl rfl rfl
          have c10 : w3.cell? ⟨q + 1, 0, none⟩ = some (.slice A2 n c2) := FR.out.cell 1 0 rfl rfl rfl
          have c11 : w3.cell? ⟨q + 1, 1, none⟩ = some (.slice B2 m2 d2) := FR.out.cell 1 1 rfl rfl rfl
          have c12 : w3.cell? ⟨q + 1, 2, none⟩ = some (.slice C2 k2 f2) := FR.out.cell 1 2 rfl rfl rfl
          have c13 : w3.cell? ⟨q + 1, 3, none⟩ = some (.int .i64 ce2) := FR.out.cell 1 3 rfl rfl rfl
          have c14 : w3.cell? ⟨q + 1, 4, none⟩ = some (.int .i64 re2) := FR.out.cell 1 4 rfl rfl rfl
          have c15 : w3.cell? ⟨q + 1, 5, none⟩ = some (.int .i64 pa2) := FR.out.cell 1 5 rfl rfl rfl
          go_wp2_with fail
          refine ((IZ.out _ (FR.out.es RZ.out) (FR.out.es RZ2.out))).mono ?_
          rintro e w4 ⟨rfl, hb⟩
          clear c00 c01 c02 c03 c04 c05 c10 c11 c12 c13 c14 c15
          replace FR := Lib.hid (FR.out.step hb)
          clear hb
          have c00 : w4.cell? ⟨q, 0, none⟩ = some (.slice A n c) := FR.out.cell 0 0 rfl rfl rfl
          have c01 : w4.cell? ⟨q, 1, none⟩ = some (.slice B m d) := FR.out.cell 0 1 rfl rfl rfl
          have c02 : w4.cell? ⟨q, 2, none⟩ = some (.slice C k f) := FR.out.cell 0 2 rfl rfl rfl
          have c03 : w4.cell? ⟨q, 3, none⟩ = some (.int .i64 ce) := FR.out.cell 0 3 rfl rfl rfl
          have c04 : w4.cell? ⟨q, 4, none⟩ = some (.int .i64 re) := FR.out.cell 0 4 rfl rfl rfl
          have c05 : w4.cell? ⟨q, 5, none⟩ = some (.int .i64 pa) := FR.out.cell 0 5 rfl rfl rfl
          have c10 : w4.cell? ⟨q + 1, 0, none⟩ = some (.slice A2 n c2) := FR.out.cell 1 0 rfl rfl rfl
          have c11 : w4.cell? ⟨q + 1, 1, none⟩ = some (.slice B2 m2 d2) := FR.out.cell 1 1 rfl rfl rfl
          have c12 : w4.cell? ⟨q + 1, 2, none⟩ = some (.slice C2 k2 f2) := FR.out.cell 1 2 rfl rfl rfl
          have c13 : w4.cell? ⟨q + 1, 3, none⟩ = some (.int .i64 ce2) := FR.out.cell 1 3 rfl rfl rfl
          have c14 : w4.cell? ⟨q + 1, 4, none⟩ = some (.int .i64 re2) := FR.out.cell 1 4 rfl rfl rfl
          have c15 : w4.cell? ⟨q + 1, 5, none⟩ = some (.int .i64 pa2) := FR.out.cell 1 5 rfl rfl rfl
          go_wp2
          go_ret
          rw [HE.out]
          exact ⟨rfl, FR.out.out⟩
  · have t0 : ((n : Int) != (n2 : Int)) = true := by simp; omega
    have t0n : (n != n2) = true := by simp; omega
    have HE := Lib.hid (HNO.out (fun h => hn2 (by have h1 := HL.out; have h2 := HL2.out; rw [← h1, ← h2, h.1])))
    clear hn2
    go_enter Try.func16, Try.ntmps16
    have c00 : v2.cell? ⟨q, 0, none⟩ = some (.slice A n c) := FR.out.cell 0 0 rfl rfl rfl
    have c01 : v2.cell? ⟨q, 1, none⟩ = some (.slice B m d) := FR.out.cell 0 1 rfl rfl rfl
    have c02 : v2.cell? ⟨q, 2, none⟩ = some (.slice C k f) := FR.out.cell 0 2 rfl rfl rfl
    have c03 : v2.cell? ⟨q, 3, none⟩ = some (.int .i64 ce) := FR.out.cell 0 3 rfl rfl rfl
    have c04 : v2.cell? ⟨q, 4, none⟩ = some (.int .i64 re) := FR.out.cell 0 4 rfl rfl rfl
    have c05 : v2.cell? ⟨q, 5, none⟩ = some (.int .i64 pa) := FR.out.cell 0 5 rfl rfl rfl
    have c10 : v2.cell? ⟨q + 1, 0, none⟩ = some (.slice A2 n2 c2) := FR.out.cell 1 0 rfl rfl rfl
    have c11 : v2.cell? ⟨q + 1, 1, none⟩ = some (.slice B2 m2 d2) := FR.out.cell 1 1 rfl rfl rfl
    have c12 : v2.cell? ⟨q + 1, 2, none⟩ = some (.slice C2 k2 f2) := FR.out.cell 1 2 rfl rfl rfl
    have c13 : v2.cell? ⟨q + 1, 3, none⟩ = some (.int .i64 ce2) := FR.out.cell 1 3 rfl rfl rfl
    have c14 : v2.cell? ⟨q + 1, 4, none⟩ = some (.int .i64 re2) := FR.out.cell 1 4 rfl rfl rfl
    have c15 : v2.cell? ⟨q + 1, 5, none⟩ = some (.int .i64 pa2) := FR.out.cell 1 5 rfl rfl rfl
    go_wp2
    go_ret
    rw [HE.out]
    exact ⟨rfl, FR.out.out⟩
end Go.Proofs.Ytkoodhnfphmbnaa
