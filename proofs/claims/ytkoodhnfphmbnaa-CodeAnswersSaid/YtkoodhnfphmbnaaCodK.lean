/- What the landed code's own hasNumbers, hasObjects, hasCode and Right answer; for programs of up to 16384 of each. -/
import Derived.Test.YtkoodhnfphmbnaaCodJ
import Derived.Test.YtkoodhnfphmbnaaCodD
namespace Go.Proofs.Ytkoodhnfphmbnaa
set_option linter.unusedVariables false
set_option linter.unusedSimpArgs false
open Go.RowKit
def numsB (p : Pg) : Bool := fromB 0 p.cells 32 && fromB 0 p.recs 64 && fromB 1 p.pat 1000
def objsB (p : Pg) : Bool := decide (p.kinds.length ≤ 8 ∧ p.sizes.length = p.kinds.length ∧ kindsTo p p.kinds.length)
def codeB (p : Pg) : Bool := decide ((1 ≤ p.code.length ∧ p.code.length ≤ 60) ∧ codeTo p p.code.length ∧ lastOk (inAt p.code (p.code.length - 1)).1)
theorem right_parts (p : Pg) : rightPg p = (numsB p && objsB p && codeB p) := by
  by_cases h : RightPg p
  · rw [rightPg_iff.2 h]
    have h1 : numsB p = true := by
      unfold numsB
      rw [fromB_iff.2 ⟨h.c0, h.c32⟩, fromB_iff.2 ⟨h.r0, h.r64⟩, fromB_iff.2 ⟨h.p1, h.p1000⟩]; rfl
    have h2 : objsB p = true := decide_eq_true ⟨h.k8, h.ks, h.kinds⟩
    have h3 : codeB p = true := decide_eq_true ⟨⟨h.n1, h.n60⟩, h.code, h.last⟩
    rw [h1, h2, h3]; rfl
  · rw [rightPg_no h]
    cases h1 : numsB p
    · rfl
    · cases h2 : objsB p
      · rfl
      · cases h3 : codeB p
        · rfl
        · refine absurd ?_ h
          unfold numsB at h1
          rw [Bool.and_eq_true, Bool.and_eq_true] at h1
          have a := fromB_iff.1 h1.1.1; have b := fromB_iff.1 h1.1.2; have c := fromB_iff.1 h1.2
          have d := of_decide_eq_true h2; have e := of_decide_eq_true h3
          exact ⟨e.1.1, e.1.2, d.1, d.2.1, a.1, a.2, b.1, b.2, c.1, c.2, d.2.2, e.2.1, e.2.2⟩
set_option maxRecDepth 100000 in
set_option maxHeartbeats 4000000 in
theorem nums_any (A : Option Addr) (n c : Nat) (B : Option Addr) (m d : Nat) (C : Option Addr) (k f : Nat) (co : List I4) (ki si : List Int) (ce re pa : Int) (w : World) (hx : I4s w A n c co) (hy : Is w B m d ki) (hz : Is w C k f si) (hn : n ≤ 16384) (hm : m ≤ 16384) (hk : k ≤ 16384) :
    Calls Try.prog 30 #[.agg #[.slice A n c, .slice B m d, .slice C k f, .int .i64 ce, .int .i64 re, .int .i64 pa]] w (YesC w (numsB ⟨co, ki, si, ce, re, pa⟩)) := by
  clear hx hy hz
  have HO : numsB ⟨co, ki, si, ce, re, pa⟩ = (fromB 0 ce 32 && fromB 0 re 64 && fromB 1 pa 1000) := rfl
  have N1 := fun (W : World) => from_any 0 ce 32 W
  have N2 := fun (W : World) => from_any 0 re 64 W
  have N3 := fun (W : World) => from_any 1 pa 1000 W
  obtain ⟨b3, h3⟩ : ∃ b, fromB 1 pa 1000 = b := ⟨_, rfl⟩
  rw [h3] at HO N3
  replace N3 := Lib.hid N3
  clear h3
  obtain ⟨v1, hv1⟩ : ∃ W, w.alloc (.cells #[.slice A n c, .slice B m d, .slice C k f, .int .i64 ce, .int .i64 re, .int .i64 pa] 25) = W := ⟨_, rfl⟩
  have fr1 : Fr w v1 w.heap.size [.cells #[.slice A n c, .slice B m d, .slice C k f, .int .i64 ce, .int .i64 re, .int .i64 pa] 25] := hv1 ▸ Fr.first w _
  have z1 : v1.heap.size = w.heap.size + 1 := by rw [← hv1, Fr.size1]
  generalize hq : w.heap.size = q at *
  have FR := Lib.hid fr1
  clear fr1
  cases h1 : fromB 0 ce 32
  · rw [h1] at HO N1
    replace N1 := Lib.hid N1
    have HE := Lib.hid (show numsB ⟨co, ki, si, ce, re, pa⟩ = false from HO)
    clear HO h1 N2 N3
    go_enter Try.func30, Try.ntmps30
    have c00 : v1.cell? ⟨q, 0, none⟩ = some (.slice A n c) := FR.out.cell 0 0 rfl rfl rfl
    have c01 : v1.cell? ⟨q, 1, none⟩ = some (.slice B m d) := FR.out.cell 0 1 rfl rfl rfl
    have c02 : v1.cell? ⟨q, 2, none⟩ = some (.slice C k f) := FR.out.cell 0 2 rfl rfl rfl
    have c03 : v1.cell? ⟨q, 3, none⟩ = some (.int .i64 ce) := FR.out.cell 0 3 rfl rfl rfl
    have c04 : v1.cell? ⟨q, 4, none⟩ = some (.int .i64 re) := FR.out.cell 0 4 rfl rfl rfl
    have c05 : v1.cell? ⟨q, 5, none⟩ = some (.int .i64 pa) := FR.out.cell 0 5 rfl rfl rfl
    go_wp2_with fail
    refine ((N1.out _)).mono ?_
    rintro e w2 ⟨rfl, rfl⟩
    clear c00 c01 c02 c03 c04 c05
    have c00 : w2.cell? ⟨q, 0, none⟩ = some (.slice A n c) := FR.out.cell 0 0 rfl rfl rfl
    have c01 : w2.cell? ⟨q, 1, none⟩ = some (.slice B m d) := FR.out.cell 0 1 rfl rfl rfl
    have c02 : w2.cell? ⟨q, 2, none⟩ = some (.slice C k f) := FR.out.cell 0 2 rfl rfl rfl
    have c03 : w2.cell? ⟨q, 3, none⟩ = some (.int .i64 ce) := FR.out.cell 0 3 rfl rfl rfl
    have c04 : w2.cell? ⟨q, 4, none⟩ = some (.int .i64 re) := FR.out.cell 0 4 rfl rfl rfl
    have c05 : w2.cell? ⟨q, 5, none⟩ = some (.int .i64 pa) := FR.out.cell 0 5 rfl rfl rfl
    go_wp2
    go_ret
    rw [HE.out]
    exact ⟨rfl, FR.out.out⟩
  · rw [h1] at HO N1
    replace N1 := Lib.hid N1
    clear h1
    cases h2 : fromB 0 re 64
    · rw [h2] at HO N2
      replace N2 := Lib.hid N2
      have HE := Lib.hid (show numsB ⟨co, ki, si, ce, re, pa⟩ = false from HO)
      clear HO h2 N3
      go_enter Try.func30, Try.ntmps30
      have c00 : v1.cell? ⟨q, 0, none⟩ = some (.slice A n c) := FR.out.cell 0 0 rfl rfl rfl
      have c01 : v1.cell? ⟨q, 1, none⟩ = some (.slice B m d) := FR.out.cell 0 1 rfl rfl rfl
      have c02 : v1.cell? ⟨q, 2, none⟩ = some (.slice C k f) := FR.out.cell 0 2 rfl rfl rfl
      have c03 : v1.cell? ⟨q, 3, none⟩ = some (.int .i64 ce) := FR.out.cell 0 3 rfl rfl rfl
      have c04 : v1.cell? ⟨q, 4, none⟩ = some (.int .i64 re) := FR.out.cell 0 4 rfl rfl rfl
      have c05 : v1.cell? ⟨q, 5, none⟩ = some (.int .i64 pa) := FR.out.cell 0 5 rfl rfl rfl
      go_wp2_with fail
      refine ((N1.out _)).mono ?_
      rintro e w2 ⟨rfl, rfl⟩
      clear c00 c01 c02 c03 c04 c05
      have c00 : w2.cell? ⟨q, 0, none⟩ = some (.slice A n c) := FR.out.cell 0 0 rfl rfl rfl
      have c01 : w2.cell? ⟨q, 1, none⟩ = some (.slice B m d) := FR.out.cell 0 1 rfl rfl rfl
      have c02 : w2.cell? ⟨q, 2, none⟩ = some (.slice C k f) := FR.out.cell 0 2 rfl rfl rfl
      have c03 : w2.cell? ⟨q, 3, none⟩ = some (.int .i64 ce) := FR.out.cell 0 3 rfl rfl rfl
      have c04 : w2.cell? ⟨q, 4, none⟩ = some (.int .i64 re) := FR.out.cell 0 4 rfl rfl rfl
      have c05 : w2.cell? ⟨q, 5, none⟩ = some (.int .i64 pa) := FR.out.cell 0 5 rfl rfl rfl
      go_wp2_with fail
      refine ((N2.out _)).mono ?_
      rintro e w3 ⟨rfl, rfl⟩
      clear c00 c01 c02 c03 c04 c05
      have c00 : w3.cell? ⟨q, 0, none⟩ = some (.slice A n c) := FR.out.cell 0 0 rfl rfl rfl
      have c01 : w3.cell? ⟨q, 1, none⟩ = some (.slice B m d) := FR.out.cell 0 1 rfl rfl rfl
      have c02 : w3.cell? ⟨q, 2, none⟩ = some (.slice C k f) := FR.out.cell 0 2 rfl rfl rfl
      have c03 : w3.cell? ⟨q, 3, none⟩ = some (.int .i64 ce) := FR.out.cell 0 3 rfl rfl rfl
      have c04 : w3.cell? ⟨q, 4, none⟩ = some (.int .i64 re) := FR.out.cell 0 4 rfl rfl rfl
      have c05 : w3.cell? ⟨q, 5, none⟩ = some (.int .i64 pa) := FR.out.cell 0 5 rfl rfl rfl
      go_wp2
      go_ret
      rw [HE.out]
      exact ⟨rfl, FR.out.out⟩
    · rw [h2] at HO N2
      replace N2 := Lib.hid N2
      have HE := Lib.hid (show numsB ⟨co, ki, si, ce, re, pa⟩ = b3 from HO.trans (by cases b3 <;> rfl))
      clear HO h2
      go_enter Try.func30, Try.ntmps30
      have c00 : v1.cell? ⟨q, 0, none⟩ = some (.slice A n c) := FR.out.cell 0 0 rfl rfl rfl
      have c01 : v1.cell? ⟨q, 1, none⟩ = some (.slice B m d) := FR.out.cell 0 1 rfl rfl rfl
      have c02 : v1.cell? ⟨q, 2, none⟩ = some (.slice C k f) := FR.out.cell 0 2 rfl rfl rfl
      have c03 : v1.cell? ⟨q, 3, none⟩ = some (.int .i64 ce) := FR.out.cell 0 3 rfl rfl rfl
      have c04 : v1.cell? ⟨q, 4, none⟩ = some (.int .i64 re) := FR.out.cell 0 4 rfl rfl rfl
      have c05 : v1.cell? ⟨q, 5, none⟩ = some (.int .i64 pa) := FR.out.cell 0 5 rfl rfl rfl
      go_wp2_with fail
      refine ((N1.out _)).mono ?_
      rintro e w2 ⟨rfl, rfl⟩
      clear c00 c01 c02 c03 c04 c05
      have c00 : w2.cell? ⟨q, 0, none⟩ = some (.slice A n c) := FR.out.cell 0 0 rfl rfl rfl
      have c01 : w2.cell? ⟨q, 1, none⟩ = some (.slice B m d) := FR.out.cell 0 1 rfl rfl rfl
      have c02 : w2.cell? ⟨q, 2, none⟩ = some (.slice C k f) := FR.out.cell 0 2 rfl rfl rfl
      have c03 : w2.cell? ⟨q, 3, none⟩ = some (.int .i64 ce) := FR.out.cell 0 3 rfl rfl rfl
      have c04 : w2.cell? ⟨q, 4, none⟩ = some (.int .i64 re) := FR.out.cell 0 4 rfl rfl rfl
      have c05 : w2.cell? ⟨q, 5, none⟩ = some (.int .i64 pa) := FR.out.cell 0 5 rfl rfl rfl
      go_wp2_with fail
      refine ((N2.out _)).mono ?_
      rintro e w3 ⟨rfl, rfl⟩
      clear c00 c01 c02 c03 c04 c05
      have c00 : w3.cell? ⟨q, 0, none⟩ = some (.slice A n c) := FR.out.cell 0 0 rfl rfl rfl
      have c01 : w3.cell? ⟨q, 1, none⟩ = some (.slice B m d) := FR.out.cell 0 1 rfl rfl rfl
      have c02 : w3.cell? ⟨q, 2, none⟩ = some (.slice C k f) := FR.out.cell 0 2 rfl rfl rfl
      have c03 : w3.cell? ⟨q, 3, none⟩ = some (.int .i64 ce) := FR.out.cell 0 3 rfl rfl rfl
      have c04 : w3.cell? ⟨q, 4, none⟩ = some (.int .i64 re) := FR.out.cell 0 4 rfl rfl rfl
      have c05 : w3.cell? ⟨q, 5, none⟩ = some (.int .i64 pa) := FR.out.cell 0 5 rfl rfl rfl
      go_wp2_with fail
      refine ((N3.out _)).mono ?_
      rintro e w4 ⟨rfl, rfl⟩
      clear c00 c01 c02 c03 c04 c05
      have c00 : w4.cell? ⟨q, 0, none⟩ = some (.slice A n c) := FR.out.cell 0 0 rfl rfl rfl
      have c01 : w4.cell? ⟨q, 1, none⟩ = some (.slice B m d) := FR.out.cell 0 1 rfl rfl rfl
      have c02 : w4.cell? ⟨q, 2, none⟩ = some (.slice C k f) := FR.out.cell 0 2 rfl rfl rfl
      have c03 : w4.cell? ⟨q, 3, none⟩ = some (.int .i64 ce) := FR.out.cell 0 3 rfl rfl rfl
      have c04 : w4.cell? ⟨q, 4, none⟩ = some (.int .i64 re) := FR.out.cell 0 4 rfl rfl rfl
      have c05 : w4.cell? ⟨q, 5, none⟩ = some (.int .i64 pa) := FR.out.cell 0 5 rfl rfl rfl
      go_wp2
      go_ret
      rw [HE.out]
      exact ⟨rfl, FR.out.out⟩
set_option maxRecDepth 100000 in
set_option maxHeartbeats 4000000 in
theorem objs_any (A : Option Addr) (n c : Nat) (B : Option Addr) (m d : Nat) (C : Option Addr) (k f : Nat) (co : List I4) (ki si : List Int) (ce re pa : Int) (w : World) (hx : I4s w A n c co) (hy : Is w B m d ki) (hz : Is w C k f si) (hn : n ≤ 16384) (hm : m ≤ 16384) (hk : k ≤ 16384) :
    Calls Try.prog 31 #[.agg #[.slice A n c, .slice B m d, .slice C k f, .int .i64 ce, .int .i64 re, .int .i64 pa]] w (YesC w (objsB ⟨co, ki, si, ce, re, pa⟩)) := by
  have hlem : ki.length = m := hy.len
  have hlek : si.length = k := hz.len
  have RY := Lib.hid hy; have RZ := Lib.hid hz
  have HLM := Lib.hid hlem; have HLK := Lib.hid hlek
  have SZ := Lib.hid (fun (kv sv : Int) (W : World) => size_any kv sv W)
  obtain ⟨R, hR⟩ : ∃ R, objsB ⟨co, ki, si, ce, re, pa⟩ = R := ⟨_, rfl⟩
  rw [hR]
  have HNO := Lib.hid (show ¬ (m ≤ 8 ∧ k = m ∧ kindsTo ⟨co, ki, si, ce, re, pa⟩ m) → R = false from fun h => by rw [← hR]; exact decide_eq_false (fun h2 => h ⟨by have := h2.1; simp only at this; omega, by have := h2.2.1; simp only at this; omega, by have := h2.2.2; simp only [hlem] at this; exact this⟩))
  have HYES := Lib.hid (show m ≤ 8 ∧ k = m ∧ kindsTo ⟨co, ki, si, ce, re, pa⟩ m → R = true from fun h => by rw [← hR]; exact decide_eq_true ⟨by simp only; omega, by simp only; omega, by simp only [hlem]; exact h.2.2⟩)
  clear hx hy hz hR hlem hlek
  obtain ⟨v1, hv1⟩ : ∃ W, w.alloc (.cells #[.slice A n c, .slice B m d, .slice C k f, .int .i64 ce, .int .i64 re, .int .i64 pa] 25) = W := ⟨_, rfl⟩
  have fr1 : Fr w v1 w.heap.size [.cells #[.slice A n c, .slice B m d, .slice C k f, .int .i64 ce, .int .i64 re, .int .i64 pa] 25] := hv1 ▸ Fr.first w _
  have z1 : v1.heap.size = w.heap.size + 1 := by rw [← hv1, Fr.size1]
  generalize hq : w.heap.size = q at *
  have FR := Lib.hid fr1
  clear fr1
  by_cases h8 : 8 < m
  · have t8 : decide ((8 : Int) < (m : Int)) = true := by simp; omega
    have u8 : decide (8 < m) = true := by simp; omega
    have HE := Lib.hid (HNO.out (fun h => by omega))
    clear h8
    go_enter Try.func31, Try.ntmps31
    have c00 : v1.cell? ⟨q, 0, none⟩ = some (.slice A n c) := FR.out.cell 0 0 rfl rfl rfl
    have c01 : v1.cell? ⟨q, 1, none⟩ = some (.slice B m d) := FR.out.cell 0 1 rfl rfl rfl
    have c02 : v1.cell? ⟨q, 2, none⟩ = some (.slice C k f) := FR.out.cell 0 2 rfl rfl rfl
    have c03 : v1.cell? ⟨q, 3, none⟩ = some (.int .i64 ce) := FR.out.cell 0 3 rfl rfl rfl
    have c04 : v1.cell? ⟨q, 4, none⟩ = some (.int .i64 re) := FR.out.cell 0 4 rfl rfl rfl
    have c05 : v1.cell? ⟨q, 5, none⟩ = some (.int .i64 pa) := FR.out.cell 0 5 rfl rfl rfl
    go_wp2
    go_ret
    rw [HE.out]
    exact ⟨rfl, FR.out.out⟩
  have t8 : decide ((8 : Int) < (m : Int)) = false := by simp; omega
  have u8 : decide (8 < m) = false := by simp; omega
  by_cases hkm : k = m
  rotate_left
  · have tk : ((k : Int) != (m : Int)) = true := by simp; omega
    have uk : (k != m) = true := by simp; omega
    have HE := Lib.hid (HNO.out (fun h => by omega))
    clear h8 hkm
    go_enter Try.func31, Try.ntmps31
    have c00 : v1.cell? ⟨q, 0, none⟩ = some (.slice A n c) := FR.out.cell 0 0 rfl rfl rfl
    have c01 : v1.cell? ⟨q, 1, none⟩ = some (.slice B m d) := FR.out.cell 0 1 rfl rfl rfl
    have c02 : v1.cell? ⟨q, 2, none⟩ = some (.slice C k f) := FR.out.cell 0 2 rfl rfl rfl
    have c03 : v1.cell? ⟨q, 3, none⟩ = some (.int .i64 ce) := FR.out.cell 0 3 rfl rfl rfl
    have c04 : v1.cell? ⟨q, 4, none⟩ = some (.int .i64 re) := FR.out.cell 0 4 rfl rfl rfl
    have c05 : v1.cell? ⟨q, 5, none⟩ = some (.int .i64 pa) := FR.out.cell 0 5 rfl rfl rfl
    go_wp2
    go_ret
    rw [HE.out]
    exact ⟨rfl, FR.out.out⟩
  have tk : ((k : Int) != (m : Int)) = false := by simp; omega
  have uk : (k != m) = false := by simp; omega
  have HT := Lib.hid (show m ≤ 8 ∧ k = m by omega)
  clear h8 hkm
  go_enter Try.func31, Try.ntmps31
  have c00 : v1.cell? ⟨q, 0, none⟩ = some (.slice A n c) := FR.out.cell 0 0 rfl rfl rfl
  have c01 : v1.cell? ⟨q, 1, none⟩ = some (.slice B m d) := FR.out.cell 0 1 rfl rfl rfl
  have c02 : v1.cell? ⟨q, 2, none⟩ = some (.slice C k f) := FR.out.cell 0 2 rfl rfl rfl
  have c03 : v1.cell? ⟨q, 3, none⟩ = some (.int .i64 ce) := FR.out.cell 0 3 rfl rfl rfl
  have c04 : v1.cell? ⟨q, 4, none⟩ = some (.int .i64 re) := FR.out.cell 0 4 rfl rfl rfl
  have c05 : v1.cell? ⟨q, 5, none⟩ = some (.int .i64 pa) := FR.out.cell 0 5 rfl rfl rfl
  go_wp2
  clear c00 c01 c02 c03 c04 c05
  clear hv1 z1
  go_loopw [21] (fun iv wr => ∃ (i : Nat), iv = .int .i64 (i : Int) ∧ i ≤ m ∧ Hid (kindsTo ⟨co, ki, si, ce, re, pa⟩ i) ∧ Hid (Fr w wr q [.cells #[.slice A n c, .slice B m d, .slice C k f, .int .i64 ce, .int .i64 re, .int .i64 pa] 25])) (fun iv _ => m - (intOf iv).toNat)
  case atStart => exact ⟨0, rfl, by omega, fun i hi => by omega, FR.out⟩
  case round =>
    clear FR
    obtain ⟨i, rfl, hi, HKT, FR⟩ := hrel
    by_cases hlt : i < m
    · have c1 : decide ((i : Int) < (m : Int)) = true := by simpa using hlt
      have c1n : decide (i < m) = true := by simpa using hlt
      have i0 : (0 : Int) ≤ (i : Int) := by omega
      have i1 : (i : Int) < (m : Int) := by omega
      have i2 : (i : Int) < (k : Int) := by have := HT.out.2; omega
      obtain ⟨b, off, kv, rfl, hlb, hlc, hdr⟩ := RY.out.look i hlt
      obtain ⟨b2, off2, sv, rfl, hlb2, hlc2, hdr2⟩ := RZ.out.look i (by have := HT.out.2; omega)
      replace hlc := (FR.out.out.cell (p := ⟨b, off + i, none⟩) hlb).trans hlc
      replace hlc2 := (FR.out.out.cell (p := ⟨b2, off2 + i, none⟩) hlb2).trans hlc2
      have HK := Lib.hid (show (⟨co, ki, si, ce, re, pa⟩ : Pg).kinds.getD i 0 = kv from getD_at hdr)
      have HS := Lib.hid (show (⟨co, ki, si, ce, re, pa⟩ : Pg).sizes.getD i 0 = sv from getD_at hdr2)
      have HLT := Lib.hid hlt
      clear hdr hdr2 hlb hlb2 hlt
      have S1 := SZ.out kv sv
      cases hko : decide (kindOk kv sv)
      · rw [hko] at S1
        replace S1 := Lib.hid S1
        have HE := Lib.hid (HNO.out (fun h => by have h1 := h.2.2 i HLT.out; rw [HK.out, HS.out] at h1; exact of_decide_eq_false hko h1))
        clear hko
        have c00 : wr.cell? ⟨q, 0, none⟩ = some (.slice A n c) := FR.out.cell 0 0 rfl rfl rfl
        have c01 : wr.cell? ⟨q, 1, none⟩ = some (.slice (some ⟨b, off, none⟩) m d) := FR.out.cell 0 1 rfl rfl rfl
        have c02 : wr.cell? ⟨q, 2, none⟩ = some (.slice (some ⟨b2, off2, none⟩) k f) := FR.out.cell 0 2 rfl rfl rfl
        have c03 : wr.cell? ⟨q, 3, none⟩ = some (.int .i64 ce) := FR.out.cell 0 3 rfl rfl rfl
        have c04 : wr.cell? ⟨q, 4, none⟩ = some (.int .i64 re) := FR.out.cell 0 4 rfl rfl rfl
        have c05 : wr.cell? ⟨q, 5, none⟩ = some (.int .i64 pa) := FR.out.cell 0 5 rfl rfl rfl
        go_wp2_with fail
        refine ((S1.out _)).mono ?_
        rintro e w2 ⟨rfl, rfl⟩
        clear c00 c01 c02 c03 c04 c05
        have c00 : w2.cell? ⟨q, 0, none⟩ = some (.slice A n c) := FR.out.cell 0 0 rfl rfl rfl
        have c01 : w2.cell? ⟨q, 1, none⟩ = some (.slice (some ⟨b, off, none⟩) m d) := FR.out.cell 0 1 rfl rfl rfl
        have c02 : w2.cell? ⟨q, 2, none⟩ = some (.slice (some ⟨b2, off2, none⟩) k f) := FR.out.cell 0 2 rfl rfl rfl
        have c03 : w2.cell? ⟨q, 3, none⟩ = some (.int .i64 ce) := FR.out.cell 0 3 rfl rfl rfl
        have c04 : w2.cell? ⟨q, 4, none⟩ = some (.int .i64 re) := FR.out.cell 0 4 rfl rfl rfl
        have c05 : w2.cell? ⟨q, 5, none⟩ = some (.int .i64 pa) := FR.out.cell 0 5 rfl rfl rfl
        go_wp2
        go_ret
        rw [HE.out]
        exact ⟨rfl, FR.out.out⟩
      · rw [hko] at S1
        replace S1 := Lib.hid S1
        have HK2 := Lib.hid (show kindsTo ⟨co, ki, si, ce, re, pa⟩ (i + 1) from fun j hj => by
          rcases Nat.lt_or_ge j i with h8 | h8
          · exact HKT.out j h8
          · have : j = i := by omega
            subst this
            rw [HK.out, HS.out]; exact of_decide_eq_true hko)
        have HLI := HLT.out
        clear hko
        have c00 : wr.cell? ⟨q, 0, none⟩ = some (.slice A n c) := FR.out.cell 0 0 rfl rfl rfl
        have c01 : wr.cell? ⟨q, 1, none⟩ = some (.slice (some ⟨b, off, none⟩) m d) := FR.out.cell 0 1 rfl rfl rfl
        have c02 : wr.cell? ⟨q, 2, none⟩ = some (.slice (some ⟨b2, off2, none⟩) k f) := FR.out.cell 0 2 rfl rfl rfl
        have c03 : wr.cell? ⟨q, 3, none⟩ = some (.int .i64 ce) := FR.out.cell 0 3 rfl rfl rfl
        have c04 : wr.cell? ⟨q, 4, none⟩ = some (.int .i64 re) := FR.out.cell 0 4 rfl rfl rfl
        have c05 : wr.cell? ⟨q, 5, none⟩ = some (.int .i64 pa) := FR.out.cell 0 5 rfl rfl rfl
        go_wp2_with fail
        refine ((S1.out _)).mono ?_
        rintro e w2 ⟨rfl, rfl⟩
        clear c00 c01 c02 c03 c04 c05
        have c00 : w2.cell? ⟨q, 0, none⟩ = some (.slice A n c) := FR.out.cell 0 0 rfl rfl rfl
        have c01 : w2.cell? ⟨q, 1, none⟩ = some (.slice (some ⟨b, off, none⟩) m d) := FR.out.cell 0 1 rfl rfl rfl
        have c02 : w2.cell? ⟨q, 2, none⟩ = some (.slice (some ⟨b2, off2, none⟩) k f) := FR.out.cell 0 2 rfl rfl rfl
        have c03 : w2.cell? ⟨q, 3, none⟩ = some (.int .i64 ce) := FR.out.cell 0 3 rfl rfl rfl
        have c04 : w2.cell? ⟨q, 4, none⟩ = some (.int .i64 re) := FR.out.cell 0 4 rfl rfl rfl
        have c05 : w2.cell? ⟨q, 5, none⟩ = some (.int .i64 pa) := FR.out.cell 0 5 rfl rfl rfl
        go_wp2
        go_roundw
        case rel => exact ⟨i + 1, by go_num, by omega, HK2, FR⟩
        case measure => simp [intOf]; omega
    · have en : i = m := by omega
      have c1 : decide ((i : Int) < (m : Int)) = false := by simp; omega
      have c1n : decide (i < m) = false := by simp; omega
      have HE := Lib.hid (HYES.out ⟨HT.out.1, HT.out.2, en ▸ HKT.out⟩)
      clear en hlt hi HKT
      have c00 : wr.cell? ⟨q, 0, none⟩ = some (.slice A n c) := FR.out.cell 0 0 rfl rfl rfl
      have c01 : wr.cell? ⟨q, 1, none⟩ = some (.slice B m d) := FR.out.cell 0 1 rfl rfl rfl
      have c02 : wr.cell? ⟨q, 2, none⟩ = some (.slice C k f) := FR.out.cell 0 2 rfl rfl rfl
      have c03 : wr.cell? ⟨q, 3, none⟩ = some (.int .i64 ce) := FR.out.cell 0 3 rfl rfl rfl
      have c04 : wr.cell? ⟨q, 4, none⟩ = some (.int .i64 re) := FR.out.cell 0 4 rfl rfl rfl
      have c05 : wr.cell? ⟨q, 5, none⟩ = some (.int .i64 pa) := FR.out.cell 0 5 rfl rfl rfl
      go_wp2
      go_ret
      rw [HE.out]
      exact ⟨rfl, FR.out.out⟩
set_option maxRecDepth 100000 in
set_option maxHeartbeats 16000000 in
theorem codes_any (A : Option Addr) (n c : Nat) (B : Option Addr) (m d : Nat) (C : Option Addr) (k f : Nat) (co : List I4) (ki si : List Int) (ce re pa : Int) (w : World) (hx : I4s w A n c co) (hy : Is w B m d ki) (hz : Is w C k f si) (hn : n ≤ 16384) (hm : m ≤ 16384) (hk : k ≤ 16384) :
    Calls Try.prog 32 #[.agg #[.slice A n c, .slice B m d, .slice C k f, .int .i64 ce, .int .i64 re, .int .i64 pa]] w (YesC w (codeB ⟨co, ki, si, ce, re, pa⟩)) := by
  have hlen := hx.len
  have RX := Lib.hid hx; have RY := Lib.hid hy; have RZ := Lib.hid hz
  have HLN := Lib.hid hlen
  have FF := fun (W : World) => from_any 1 (n : Int) 60 W
  have IS := Lib.hid (fun (W : World) (h1 : I4s W A n c co) (h2 : Is W B m d ki) (h3 : Is W C k f si) (y : Int) => insL_any A n c B m d C k f co ki si ce re pa y W h1 h2 h3 hn hm hk)
  obtain ⟨R, hR⟩ : ∃ R, codeB ⟨co, ki, si, ce, re, pa⟩ = R := ⟨_, rfl⟩
  rw [hR]
  have HNO := Lib.hid (show ¬ ((1 ≤ n ∧ n ≤ 60) ∧ codeTo ⟨co, ki, si, ce, re, pa⟩ n ∧ lastOk (inAt co (n - 1)).1) → R = false from fun h => by rw [← hR]; exact decide_eq_false (fun h2 => h (by have h3 := h2; simp only [hlen] at h3; exact h3)))
  have HYES := Lib.hid (show decide (lastOk (inAt co (n - 1)).1) = R ∨ ¬ ((1 ≤ n ∧ n ≤ 60) ∧ codeTo ⟨co, ki, si, ce, re, pa⟩ n) from by
    by_cases h : (1 ≤ n ∧ n ≤ 60) ∧ codeTo ⟨co, ki, si, ce, re, pa⟩ n
    · refine Or.inl ?_
      rw [← hR]; unfold codeB; simp only [hlen]
      exact decide_eq_decide.2 ⟨fun h2 => ⟨h.1, h.2, h2⟩, fun h2 => h2.2.2⟩
    · exact Or.inr h)
  clear hx hy hz hR hlen
  obtain ⟨v1, hv1⟩ : ∃ W, w.alloc (.cells #[.slice A n c, .slice B m d, .slice C k f, .int .i64 ce, .int .i64 re, .int .i64 pa] 25) = W := ⟨_, rfl⟩
  have fr1 : Fr w v1 w.heap.size [.cells #[.slice A n c, .slice B m d, .slice C k f, .int .i64 ce, .int .i64 re, .int .i64 pa] 25] := hv1 ▸ Fr.first w _
  have z1 : v1.heap.size = w.heap.size + 1 := by rw [← hv1, Fr.size1]
  generalize hq : w.heap.size = q at *
  have FR := Lib.hid fr1
  clear fr1
  cases hf : fromB 1 (n : Int) 60
  · rw [hf] at FF
    replace FF := Lib.hid FF
    have HE := Lib.hid (HNO.out (fun h => by have : fromB 1 (n : Int) 60 = true := fromB_iff.2 ⟨by omega, by omega⟩; rw [hf] at this; cases this))
    clear hf
    go_enter Try.func32, Try.ntmps32
    have c00 : v1.cell? ⟨q, 0, none⟩ = some (.slice A n c) := FR.out.cell 0 0 rfl rfl rfl
    have c01 : v1.cell? ⟨q, 1, none⟩ = some (.slice B m d) := FR.out.cell 0 1 rfl rfl rfl
    have c02 : v1.cell? ⟨q, 2, none⟩ = some (.slice C k f) := FR.out.cell 0 2 rfl rfl rfl
    have c03 : v1.cell? ⟨q, 3, none⟩ = some (.int .i64 ce) := FR.out.cell 0 3 rfl rfl rfl
    have c04 : v1.cell? ⟨q, 4, none⟩ = some (.int .i64 re) := FR.out.cell 0 4 rfl rfl rfl
    have c05 : v1.cell? ⟨q, 5, none⟩ = some (.int .i64 pa) := FR.out.cell 0 5 rfl rfl rfl
    go_wp2_with fail
    refine ((FF.out _)).mono ?_
    rintro e w2 ⟨rfl, rfl⟩
    clear c00 c01 c02 c03 c04 c05
    have c00 : w2.cell? ⟨q, 0, none⟩ = some (.slice A n c) := FR.out.cell 0 0 rfl rfl rfl
    have c01 : w2.cell? ⟨q, 1, none⟩ = some (.slice B m d) := FR.out.cell 0 1 rfl rfl rfl
    have c02 : w2.cell? ⟨q, 2, none⟩ = some (.slice C k f) := FR.out.cell 0 2 rfl rfl rfl
    have c03 : w2.cell? ⟨q, 3, none⟩ = some (.int .i64 ce) := FR.out.cell 0 3 rfl rfl rfl
    have c04 : w2.cell? ⟨q, 4, none⟩ = some (.int .i64 re) := FR.out.cell 0 4 rfl rfl rfl
    have c05 : w2.cell? ⟨q, 5, none⟩ = some (.int .i64 pa) := FR.out.cell 0 5 rfl rfl rfl
    go_wp2
    go_ret
    rw [HE.out]
    exact ⟨rfl, FR.out.out⟩
  · rw [hf] at FF
    replace FF := Lib.hid FF
    have HT := Lib.hid (show 1 ≤ n ∧ n ≤ 60 by have := fromB_iff.1 hf; omega)
    clear hf
    go_enter Try.func32, Try.ntmps32
    have c00 : v1.cell? ⟨q, 0, none⟩ = some (.slice A n c) := FR.out.cell 0 0 rfl rfl rfl
    have c01 : v1.cell? ⟨q, 1, none⟩ = some (.slice B m d) := FR.out.cell 0 1 rfl rfl rfl
    have c02 : v1.cell? ⟨q, 2, none⟩ = some (.slice C k f) := FR.out.cell 0 2 rfl rfl rfl
    have c03 : v1.cell? ⟨q, 3, none⟩ = some (.int .i64 ce) := FR.out.cell 0 3 rfl rfl rfl
    have c04 : v1.cell? ⟨q, 4, none⟩ = some (.int .i64 re) := FR.out.cell 0 4 rfl rfl rfl
    have c05 : v1.cell? ⟨q, 5, none⟩ = some (.int .i64 pa) := FR.out.cell 0 5 rfl rfl rfl
    go_wp2_with fail
    refine ((FF.out _)).mono ?_
    rintro e w2 ⟨rfl, rfl⟩
    clear c00 c01 c02 c03 c04 c05
    have c00 : w2.cell? ⟨q, 0, none⟩ = some (.slice A n c) := FR.out.cell 0 0 rfl rfl rfl
    have c01 : w2.cell? ⟨q, 1, none⟩ = some (.slice B m d) := FR.out.cell 0 1 rfl rfl rfl
    have c02 : w2.cell? ⟨q, 2, none⟩ = some (.slice C k f) := FR.out.cell 0 2 rfl rfl rfl
    have c03 : w2.cell? ⟨q, 3, none⟩ = some (.int .i64 ce) := FR.out.cell 0 3 rfl rfl rfl
    have c04 : w2.cell? ⟨q, 4, none⟩ = some (.int .i64 re) := FR.out.cell 0 4 rfl rfl rfl
    have c05 : w2.cell? ⟨q, 5, none⟩ = some (.int .i64 pa) := FR.out.cell 0 5 rfl rfl rfl
    go_wp2
    clear c00 c01 c02 c03 c04 c05
    clear hv1 z1
    go_loopw [12] (fun iv wr => ∃ (i : Nat), iv = .int .i64 (i : Int) ∧ i ≤ n ∧ Hid (codeTo ⟨co, ki, si, ce, re, pa⟩ i) ∧ Hid (Fr w wr q [.cells #[.slice A n c, .slice B m d, .slice C k f, .int .i64 ce, .int .i64 re, .int .i64 pa] 25])) (fun iv _ => n - (intOf iv).toNat)
    case atStart => exact ⟨0, rfl, by omega, fun i hi => by omega, FR.out⟩
    case round =>
      clear FR
      obtain ⟨j, rfl, hj, HCT, FR⟩ := hrel
      by_cases hlt : j < n
      · have d1 : decide ((j : Int) < (n : Int)) = true := by simpa using hlt
        have d1n : decide (j < n) = true := by simpa using hlt
        have IJ := fun (W : World) h1 h2 h3 => IS.out W h1 h2 h3 (j : Int)
        have hij : insB ⟨co, ki, si, ce, re, pa⟩ (j : Int) = insX ⟨co, ki, si, ce, re, pa⟩ (inAt co j) := by unfold insB; rw [show (⟨co, ki, si, ce, re, pa⟩ : Pg).code.length = n from HLN.out, inB_iff.2 ⟨by omega, by omega⟩, Bool.true_and, show ((j : Int)).toNat = j by omega]
        cases hix : insB ⟨co, ki, si, ce, re, pa⟩ (j : Int)
        · rw [hix] at IJ hij
          replace IJ := Lib.hid IJ
          have HE := Lib.hid (HNO.out (fun h => by have h1 := h.2.1 j hlt; rw [show inAt (⟨co, ki, si, ce, re, pa⟩ : Pg).code j = inAt co j from rfl, ← hij] at h1; cases h1))
          clear hix hij hlt
          have c00 : wr.cell? ⟨q, 0, none⟩ = some (.slice A n c) := FR.out.cell 0 0 rfl rfl rfl
          have c01 : wr.cell? ⟨q, 1, none⟩ = some (.slice B m d) := FR.out.cell 0 1 rfl rfl rfl
          have c02 : wr.cell? ⟨q, 2, none⟩ = some (.slice C k f) := FR.out.cell 0 2 rfl rfl rfl
          have c03 : wr.cell? ⟨q, 3, none⟩ = some (.int .i64 ce) := FR.out.cell 0 3 rfl rfl rfl
          have c04 : wr.cell? ⟨q, 4, none⟩ = some (.int .i64 re) := FR.out.cell 0 4 rfl rfl rfl
          have c05 : wr.cell? ⟨q, 5, none⟩ = some (.int .i64 pa) := FR.out.cell 0 5 rfl rfl rfl
          go_wp2_with fail
          refine (IJ.out _ (FR.out.es RX.out) (FR.out.es RY.out) (FR.out.es RZ.out)).mono ?_
          rintro e w5 ⟨rfl, hb⟩
          clear c00 c01 c02 c03 c04 c05
          replace FR := Lib.hid (FR.out.step hb)
          clear hb
          have c00 : w5.cell? ⟨q, 0, none⟩ = some (.slice A n c) := FR.out.cell 0 0 rfl rfl rfl
          have c01 : w5.cell? ⟨q, 1, none⟩ = some (.slice B m d) := FR.out.cell 0 1 rfl rfl rfl
          have c02 : w5.cell? ⟨q, 2, none⟩ = some (.slice C k f) := FR.out.cell 0 2 rfl rfl rfl
          have c03 : w5.cell? ⟨q, 3, none⟩ = some (.int .i64 ce) := FR.out.cell 0 3 rfl rfl rfl
          have c04 : w5.cell? ⟨q, 4, none⟩ = some (.int .i64 re) := FR.out.cell 0 4 rfl rfl rfl
          have c05 : w5.cell? ⟨q, 5, none⟩ = some (.int .i64 pa) := FR.out.cell 0 5 rfl rfl rfl
          go_wp2
          go_ret
          rw [HE.out]
          exact ⟨rfl, FR.out.out⟩
        · rw [hix] at IJ hij
          replace IJ := Lib.hid IJ
          have HC2 := Lib.hid (show codeTo ⟨co, ki, si, ce, re, pa⟩ (j + 1) from fun j2 hj2 => by
            rcases Nat.lt_or_ge j2 j with h8 | h8
            · exact HCT.out j2 h8
            · have : j2 = j := by omega
              subst this
              exact hij.symm)
          clear hix hij
          have c00 : wr.cell? ⟨q, 0, none⟩ = some (.slice A n c) := FR.out.cell 0 0 rfl rfl rfl
          have c01 : wr.cell? ⟨q, 1, none⟩ = some (.slice B m d) := FR.out.cell 0 1 rfl rfl rfl
          have c02 : wr.cell? ⟨q, 2, none⟩ = some (.slice C k f) := FR.out.cell 0 2 rfl rfl rfl
          have c03 : wr.cell? ⟨q, 3, none⟩ = some (.int .i64 ce) := FR.out.cell 0 3 rfl rfl rfl
          have c04 : wr.cell? ⟨q, 4, none⟩ = some (.int .i64 re) := FR.out.cell 0 4 rfl rfl rfl
          have c05 : wr.cell? ⟨q, 5, none⟩ = some (.int .i64 pa) := FR.out.cell 0 5 rfl rfl rfl
          go_wp2_with fail
          refine (IJ.out _ (FR.out.es RX.out) (FR.out.es RY.out) (FR.out.es RZ.out)).mono ?_
          rintro e w5 ⟨rfl, hb⟩
          clear c00 c01 c02 c03 c04 c05
          replace FR := Lib.hid (FR.out.step hb)
          clear hb
          have c00 : w5.cell? ⟨q, 0, none⟩ = some (.slice A n c) := FR.out.cell 0 0 rfl rfl rfl
          have c01 : w5.cell? ⟨q, 1, none⟩ = some (.slice B m d) := FR.out.cell 0 1 rfl rfl rfl
          have c02 : w5.cell? ⟨q, 2, none⟩ = some (.slice C k f) := FR.out.cell 0 2 rfl rfl rfl
          have c03 : w5.cell? ⟨q, 3, none⟩ = some (.int .i64 ce) := FR.out.cell 0 3 rfl rfl rfl
          have c04 : w5.cell? ⟨q, 4, none⟩ = some (.int .i64 re) := FR.out.cell 0 4 rfl rfl rfl
          have c05 : w5.cell? ⟨q, 5, none⟩ = some (.int .i64 pa) := FR.out.cell 0 5 rfl rfl rfl
          go_wp2
          go_roundw
          case rel => exact ⟨j + 1, by go_num, by omega, HC2, FR⟩
          case measure => simp [intOf]; omega
      · have en : j = n := by omega
        have d1 : decide ((j : Int) < (n : Int)) = false := by simp; omega
        have d1n : decide (j < n) = false := by simp; omega
        have HE := HYES.out.resolve_right (fun h => h ⟨HT.out, en ▸ HCT.out⟩)
        have n0 : 0 < n := by have := HT.out.1; omega
        obtain ⟨l, hl⟩ : ∃ l : Nat, n - 1 = l := ⟨_, rfl⟩
        have s1 : (n : Int) - 1 = (l : Int) := by omega
        have s2 : IntKind.i64.wrap ((n : Int) - 1) = (l : Int) := by rw [IntKind.wrap_i64]; omega
        have l0 : (0 : Int) ≤ (l : Int) := by omega
        have l1 : (l : Int) < (n : Int) := by omega
        obtain ⟨b, off, rfl, hb0, k0, k1, k2, k3⟩ := I4s.look (l := co) (FR.out.es RX.out) l (by omega)
        clear hb0 k1 k2 k3
        obtain ⟨lo, hlo⟩ : ∃ o, (inAt co l).1 = o := ⟨_, rfl⟩
        rw [hlo] at k0
        rw [hl, hlo] at HE
        have LA := fun (W : World) => last_any lo W
        rw [HE] at LA
        replace LA := Lib.hid LA
        clear HE en hlt hj hlo hl HCT n0
        have c00 : wr.cell? ⟨q, 0, none⟩ = some (.slice (some ⟨b, off, none⟩) n c) := FR.out.cell 0 0 rfl rfl rfl
        have c01 : wr.cell? ⟨q, 1, none⟩ = some (.slice B m d) := FR.out.cell 0 1 rfl rfl rfl
        have c02 : wr.cell? ⟨q, 2, none⟩ = some (.slice C k f) := FR.out.cell 0 2 rfl rfl rfl
        have c03 : wr.cell? ⟨q, 3, none⟩ = some (.int .i64 ce) := FR.out.cell 0 3 rfl rfl rfl
        have c04 : wr.cell? ⟨q, 4, none⟩ = some (.int .i64 re) := FR.out.cell 0 4 rfl rfl rfl
        have c05 : wr.cell? ⟨q, 5, none⟩ = some (.int .i64 pa) := FR.out.cell 0 5 rfl rfl rfl
        go_wp2_with fail
        refine ((LA.out _)).mono ?_
        rintro e w3 ⟨rfl, rfl⟩
        clear c00 c01 c02 c03 c04 c05
        have c00 : w3.cell? ⟨q, 0, none⟩ = some (.slice (some ⟨b, off, none⟩) n c) := FR.out.cell 0 0 rfl rfl rfl
        have c01 : w3.cell? ⟨q, 1, none⟩ = some (.slice B m d) := FR.out.cell 0 1 rfl rfl rfl
        have c02 : w3.cell? ⟨q, 2, none⟩ = some (.slice C k f) := FR.out.cell 0 2 rfl rfl rfl
        have c03 : w3.cell? ⟨q, 3, none⟩ = some (.int .i64 ce) := FR.out.cell 0 3 rfl rfl rfl
        have c04 : w3.cell? ⟨q, 4, none⟩ = some (.int .i64 re) := FR.out.cell 0 4 rfl rfl rfl
        have c05 : w3.cell? ⟨q, 5, none⟩ = some (.int .i64 pa) := FR.out.cell 0 5 rfl rfl rfl
        go_wp2
        go_ret
        exact ⟨rfl, FR.out.out⟩
set_option maxRecDepth 100000 in
set_option maxHeartbeats 4000000 in
theorem rightL_any (A : Option Addr) (n c : Nat) (B : Option Addr) (m d : Nat) (C : Option Addr) (k f : Nat) (co : List I4) (ki si : List Int) (ce re pa : Int) (w : World) (hx : I4s w A n c co) (hy : Is w B m d ki) (hz : Is w C k f si) (hn : n ≤ 16384) (hm : m ≤ 16384) (hk : k ≤ 16384) :
    Calls Try.prog 13 #[.agg #[.slice A n c, .slice B m d, .slice C k f, .int .i64 ce, .int .i64 re, .int .i64 pa]] w (YesC w (rightPg ⟨co, ki, si, ce, re, pa⟩)) := by
  have RX := Lib.hid hx; have RY := Lib.hid hy; have RZ := Lib.hid hz
  have N1 := fun (W : World) (h1 : I4s W A n c co) (h2 : Is W B m d ki) (h3 : Is W C k f si) => nums_any A n c B m d C k f co ki si ce re pa W h1 h2 h3 hn hm hk
  have N2 := fun (W : World) (h1 : I4s W A n c co) (h2 : Is W B m d ki) (h3 : Is W C k f si) => objs_any A n c B m d C k f co ki si ce re pa W h1 h2 h3 hn hm hk
  have N3 := fun (W : World) (h1 : I4s W A n c co) (h2 : Is W B m d ki) (h3 : Is W C k f si) => codes_any A n c B m d C k f co ki si ce re pa W h1 h2 h3 hn hm hk
  have HO := right_parts ⟨co, ki, si, ce, re, pa⟩
  obtain ⟨R, hR⟩ : ∃ R, rightPg ⟨co, ki, si, ce, re, pa⟩ = R := ⟨_, rfl⟩
  rw [hR] at HO
  rw [hR]
  clear hx hy hz hR
  obtain ⟨b3, h3⟩ : ∃ b, codeB ⟨co, ki, si, ce, re, pa⟩ = b := ⟨_, rfl⟩
  rw [h3] at HO N3
  replace N3 := Lib.hid N3
  clear h3
  obtain ⟨v1, hv1⟩ : ∃ W, w.alloc (.cells #[.slice A n c, .slice B m d, .slice C k f, .int .i64 ce, .int .i64 re, .int .i64 pa] 25) = W := ⟨_, rfl⟩
  have fr1 : Fr w v1 w.heap.size [.cells #[.slice A n c, .slice B m d, .slice C k f, .int .i64 ce, .int .i64 re, .int .i64 pa] 25] := hv1 ▸ Fr.first w _
  have z1 : v1.heap.size = w.heap.size + 1 := by rw [← hv1, Fr.size1]
  generalize hq : w.heap.size = q at *
  have FR := Lib.hid fr1
  clear fr1
  cases h1 : numsB ⟨co, ki, si, ce, re, pa⟩
  · rw [h1] at HO N1
    replace N1 := Lib.hid N1
    have HE := Lib.hid (show R = false from HO)
    clear HO h1 N2 N3
    go_enter Try.func13, Try.ntmps13
    have c00 : v1.cell? ⟨q, 0, none⟩ = some (.slice A n c) := FR.out.cell 0 0 rfl rfl rfl
    have c01 : v1.cell? ⟨q, 1, none⟩ = some (.slice B m d) := FR.out.cell 0 1 rfl rfl rfl
    have c02 : v1.cell? ⟨q, 2, none⟩ = some (.slice C k f) := FR.out.cell 0 2 rfl rfl rfl
    have c03 : v1.cell? ⟨q, 3, none⟩ = some (.int .i64 ce) := FR.out.cell 0 3 rfl rfl rfl
    have c04 : v1.cell? ⟨q, 4, none⟩ = some (.int .i64 re) := FR.out.cell 0 4 rfl rfl rfl
    have c05 : v1.cell? ⟨q, 5, none⟩ = some (.int .i64 pa) := FR.out.cell 0 5 rfl rfl rfl
    go_wp2_with fail
    refine ((N1.out _ (FR.out.es RX.out) (FR.out.es RY.out) (FR.out.es RZ.out))).mono ?_
    rintro e w2 ⟨rfl, hb⟩
    clear c00 c01 c02 c03 c04 c05
    replace FR := Lib.hid (FR.out.step hb)
    clear hb
    have c00 : w2.cell? ⟨q, 0, none⟩ = some (.slice A n c) := FR.out.cell 0 0 rfl rfl rfl
    have c01 : w2.cell? ⟨q, 1, none⟩ = some (.slice B m d) := FR.out.cell 0 1 rfl rfl rfl
    have c02 : w2.cell? ⟨q, 2, none⟩ = some (.slice C k f) := FR.out.cell 0 2 rfl rfl rfl
    have c03 : w2.cell? ⟨q, 3, none⟩ = some (.int .i64 ce) := FR.out.cell 0 3 rfl rfl rfl
    have c04 : w2.cell? ⟨q, 4, none⟩ = some (.int .i64 re) := FR.out.cell 0 4 rfl rfl rfl
    have c05 : w2.cell? ⟨q, 5, none⟩ = some (.int .i64 pa) := FR.out.cell 0 5 rfl rfl rfl
    go_wp2
    go_ret
    rw [HE.out]
    exact ⟨rfl, FR.out.out⟩
  · rw [h1] at HO N1
    replace N1 := Lib.hid N1
    clear h1
    cases h2 : objsB ⟨co, ki, si, ce, re, pa⟩
    · rw [h2] at HO N2
      replace N2 := Lib.hid N2
      have HE := Lib.hid (show R = false from HO)
      clear HO h2 N3
      go_enter Try.func13, Try.ntmps13
      have c00 : v1.cell? ⟨q, 0, none⟩ = some (.slice A n c) := FR.out.cell 0 0 rfl rfl rfl
      have c01 : v1.cell? ⟨q, 1, none⟩ = some (.slice B m d) := FR.out.cell 0 1 rfl rfl rfl
      have c02 : v1.cell? ⟨q, 2, none⟩ = some (.slice C k f) := FR.out.cell 0 2 rfl rfl rfl
      have c03 : v1.cell? ⟨q, 3, none⟩ = some (.int .i64 ce) := FR.out.cell 0 3 rfl rfl rfl
      have c04 : v1.cell? ⟨q, 4, none⟩ = some (.int .i64 re) := FR.out.cell 0 4 rfl rfl rfl
      have c05 : v1.cell? ⟨q, 5, none⟩ = some (.int .i64 pa) := FR.out.cell 0 5 rfl rfl rfl
      go_wp2_with fail
      refine ((N1.out _ (FR.out.es RX.out) (FR.out.es RY.out) (FR.out.es RZ.out))).mono ?_
      rintro e w2 ⟨rfl, hb⟩
      clear c00 c01 c02 c03 c04 c05
      replace FR := Lib.hid (FR.out.step hb)
      clear hb
      have c00 : w2.cell? ⟨q, 0, none⟩ = some (.slice A n c) := FR.out.cell 0 0 rfl rfl rfl
      have c01 : w2.cell? ⟨q, 1, none⟩ = some (.slice B m d) := FR.out.cell 0 1 rfl rfl rfl
      have c02 : w2.cell? ⟨q, 2, none⟩ = some (.slice C k f) := FR.out.cell 0 2 rfl rfl rfl
      have c03 : w2.cell? ⟨q, 3, none⟩ = some (.int .i64 ce) := FR.out.cell 0 3 rfl rfl rfl
      have c04 : w2.cell? ⟨q, 4, none⟩ = some (.int .i64 re) := FR.out.cell 0 4 rfl rfl rfl
      have c05 : w2.cell? ⟨q, 5, none⟩ = some (.int .i64 pa) := FR.out.cell 0 5 rfl rfl rfl
      go_wp2_with fail
      refine ((N2.out _ (FR.out.es RX.out) (FR.out.es RY.out) (FR.out.es RZ.out))).mono ?_
      rintro e w3 ⟨rfl, hb⟩
      clear c00 c01 c02 c03 c04 c05
      replace FR := Lib.hid (FR.out.step hb)
      clear hb
      have c00 : w3.cell? ⟨q, 0, none⟩ = some (.slice A n c) := FR.out.cell 0 0 rfl rfl rfl
      have c01 : w3.cell? ⟨q, 1, none⟩ = some (.slice B m d) := FR.out.cell 0 1 rfl rfl rfl
      have c02 : w3.cell? ⟨q, 2, none⟩ = some (.slice C k f) := FR.out.cell 0 2 rfl rfl rfl
      have c03 : w3.cell? ⟨q, 3, none⟩ = some (.int .i64 ce) := FR.out.cell 0 3 rfl rfl rfl
      have c04 : w3.cell? ⟨q, 4, none⟩ = some (.int .i64 re) := FR.out.cell 0 4 rfl rfl rfl
      have c05 : w3.cell? ⟨q, 5, none⟩ = some (.int .i64 pa) := FR.out.cell 0 5 rfl rfl rfl
      go_wp2
      go_ret
      rw [HE.out]
      exact ⟨rfl, FR.out.out⟩
    · rw [h2] at HO N2
      replace N2 := Lib.hid N2
      have HE := Lib.hid (show R = b3 from HO.trans (by cases b3 <;> rfl))
      clear HO h2
      go_enter Try.func13, Try.ntmps13
      have c00 : v1.cell? ⟨q, 0, none⟩ = some (.slice A n c) := FR.out.cell 0 0 rfl rfl rfl
      have c01 : v1.cell? ⟨q, 1, none⟩ = some (.slice B m d) := FR.out.cell 0 1 rfl rfl rfl
      have c02 : v1.cell? ⟨q, 2, none⟩ = some (.slice C k f) := FR.out.cell 0 2 rfl rfl rfl
      have c03 : v1.cell? ⟨q, 3, none⟩ = some (.int .i64 ce) := FR.out.cell 0 3 rfl rfl rfl
      have c04 : v1.cell? ⟨q, 4, none⟩ = some (.int .i64 re) := FR.out.cell 0 4 rfl rfl rfl
      have c05 : v1.cell? ⟨q, 5, none⟩ = some (.int .i64 pa) := FR.out.cell 0 5 rfl rfl rfl
      go_wp2_with fail
      refine ((N1.out _ (FR.out.es RX.out) (FR.out.es RY.out) (FR.out.es RZ.out))).mono ?_
      rintro e w2 ⟨rfl, hb⟩
      clear c00 c01 c02 c03 c04 c05
      replace FR := Lib.hid (FR.out.step hb)
      clear hb
      have c00 : w2.cell? ⟨q, 0, none⟩ = some (.slice A n c) := FR.out.cell 0 0 rfl rfl rfl
      have c01 : w2.cell? ⟨q, 1, none⟩ = some (.slice B m d) := FR.out.cell 0 1 rfl rfl rfl
      have c02 : w2.cell? ⟨q, 2, none⟩ = some (.slice C k f) := FR.out.cell 0 2 rfl rfl rfl
      have c03 : w2.cell? ⟨q, 3, none⟩ = some (.int .i64 ce) := FR.out.cell 0 3 rfl rfl rfl
      have c04 : w2.cell? ⟨q, 4, none⟩ = some (.int .i64 re) := FR.out.cell 0 4 rfl rfl rfl
      have c05 : w2.cell? ⟨q, 5, none⟩ = some (.int .i64 pa) := FR.out.cell 0 5 rfl rfl rfl
      go_wp2_with fail
      refine ((N2.out _ (FR.out.es RX.out) (FR.out.es RY.out) (FR.out.es RZ.out))).mono ?_
      rintro e w3 ⟨rfl, hb⟩
      clear c00 c01 c02 c03 c04 c05
      replace FR := Lib.hid (FR.out.step hb)
      clear hb
      have c00 : w3.cell? ⟨q, 0, none⟩ = some (.slice A n c) := FR.out.cell 0 0 rfl rfl rfl
      have c01 : w3.cell? ⟨q, 1, none⟩ = some (.slice B m d) := FR.out.cell 0 1 rfl rfl rfl
      have c02 : w3.cell? ⟨q, 2, none⟩ = some (.slice C k f) := FR.out.cell 0 2 rfl rfl rfl
      have c03 : w3.cell? ⟨q, 3, none⟩ = some (.int .i64 ce) := FR.out.cell 0 3 rfl rfl rfl
      have c04 : w3.cell? ⟨q, 4, none⟩ = some (.int .i64 re) := FR.out.cell 0 4 rfl rfl rfl
      have c05 : w3.cell? ⟨q, 5, none⟩ = some (.int .i64 pa) := FR.out.cell 0 5 rfl rfl rfl
      go_wp2_with fail
      refine ((N3.out _ (FR.out.es RX.out) (FR.out.es RY.out) (FR.out.es RZ.out))).mono ?_
      rintro e w4 ⟨rfl, hb⟩
      clear c00 c01 c02 c03 c04 c05
      replace FR := Lib.hid (FR.out.step hb)
      clear hb
      have c00 : w4.cell? ⟨q, 0, none⟩ = some (.slice A n c) := FR.out.cell 0 0 rfl rfl rfl
      have c01 : w4.cell? ⟨q, 1, none⟩ = some (.slice B m d) := FR.out.cell 0 1 rfl rfl rfl
      have c02 : w4.cell? ⟨q, 2, none⟩ = some (.slice C k f) := FR.out.cell 0 2 rfl rfl rfl
      have c03 : w4.cell? ⟨q, 3, none⟩ = some (.int .i64 ce) := FR.out.cell 0 3 rfl rfl rfl
      have c04 : w4.cell? ⟨q, 4, none⟩ = some (.int .i64 re) := FR.out.cell 0 4 rfl rfl rfl
      have c05 : w4.cell? ⟨q, 5, none⟩ = some (.int .i64 pa) := FR.out.cell 0 5 rfl rfl rfl
      go_wp2
      go_ret
      rw [HE.out]
      exact ⟨rfl, FR.out.out⟩
end Go.Proofs.Ytkoodhnfphmbnaa
