/- The walk of CodePlaces: it answers true, over any world; no condition. -/
import Derived.Test.YtkoodhnfphmbnaaCodT
namespace Go.Proofs.Ytkoodhnfphmbnaa
set_option linter.unusedVariables false
set_option linter.unusedSimpArgs false
open Go.RowKit
set_option maxRecDepth 100000 in
set_option maxHeartbeats 8000000 in
theorem places13_walk (A : Option Addr) (n c : Nat) (B : Option Addr) (m d : Nat) (C : Option Addr) (k f : Nat) (co : List I4) (ki si : List Int) (ce re pa : Int) (iv : Int) (w : World) (hx : I4s w A n c co) (hy : Is w B m d ki) (hz : Is w C k f si) (hpb : PB ⟨co, ki, si, ce, re, pa⟩) (v0 : 0 ≤ iv) (v1 : iv < 256) :
    Calls Try.prog 6 #[.agg #[.slice A n c, .slice B m d, .slice C k f, .int .i64 ce, .int .i64 re, .int .i64 pa], .int .u8 iv] w fun e w' => e = .returned (.bool true) ∧ Below w.heap.size w w' := by
  have RX := Lib.hid hx; have RY := Lib.hid hy; have RZ := Lib.hid hz
  have HLN := Lib.hid hx.len; have HLM := Lib.hid (show ki.length = m from Is.len hy)
  clear hx hy hz
  obtain ⟨v1, hv1⟩ : ∃ W, w.alloc (.cells #[.slice A n c, .slice B m d, .slice C k f, .int .i64 ce, .int .i64 re, .int .i64 pa] 25) = W := ⟨_, rfl⟩
  have fr1 : Fr w v1 w.heap.size [.cells #[.slice A n c, .slice B m d, .slice C k f, .int .i64 ce, .int .i64 re, .int .i64 pa] 25] := hv1 ▸ Fr.first w _
  have z1 : v1.heap.size = w.heap.size + 1 := by rw [← hv1, Fr.size1]
  generalize hq : w.heap.size = q at *
  have FR := Lib.hid fr1
  clear fr1
  have g1 := fun (W : World) => great13_any A n c B m d C k f co ki si ce re pa W
  obtain ⟨rb, hrb⟩ : ∃ r, rightPg ⟨co, ki, si, ce, re, pa⟩ = r := ⟨_, rfl⟩
  have AL := Lib.hid alive13
  by_cases h1 : 61 < n ∨ 20 < m ∨ 20 < k
  · rw [decide_eq_true h1] at g1
    replace g1 := Lib.hid g1
    clear h1 hrb
    go_enter Try.func6, Try.ntmps6
    have c00 : v1.cell? ⟨q, 0, none⟩ = some (.slice A n c) := FR.out.cell 0 0 rfl rfl rfl
    have c01 : v1.cell? ⟨q, 1, none⟩ = some (.slice B m d) := FR.out.cell 0 1 rfl rfl rfl
    have c02 : v1.cell? ⟨q, 2, none⟩ = some (.slice C k f) := FR.out.cell 0 2 rfl rfl rfl
    have c03 : v1.cell? ⟨q, 3, none⟩ = some (.int .i64 ce) := FR.out.cell 0 3 rfl rfl rfl
    have c04 : v1.cell? ⟨q, 4, none⟩ = some (.int .i64 re) := FR.out.cell 0 4 rfl rfl rfl
    have c05 : v1.cell? ⟨q, 5, none⟩ = some (.int .i64 pa) := FR.out.cell 0 5 rfl rfl rfl
    go_wp2_with fail
    refine ((AL.out _)).mono ?_
    rintro e w2 ⟨rfl, hb⟩
    clear c00 c01 c02 c03 c04 c05
    replace FR := Lib.hid (FR.out.step hb)
    clear hb
    have c00 : w2.cell? ⟨q, 0, none⟩ = some (.slice A n c) := FR.out.cell 0 0 rfl rfl rfl
    have c01 : w2.cell? ⟨q, 1, none⟩ = some (.slice B m d) := FR.out.cell 0 1 rfl rfl rfl
    have c02 : w2.cell? ⟨q, 2, none⟩ = some (.slice C k f) := FR.out.cell 0 2 rfl rfl rfl
    have c03 : w2.cell? ⟨q, 3, none⟩ = some (.int .i64 ce) := FR.out.cell 0 3 rfl rfl rfl
    have c04 : w2.cell? ⟨q, 4, none⟩ = some (.int .i64 re) := FR.out.cell 0 4 rfl rfl rfl
    have c05 : w2.cell? ⟨q, 5, none⟩ = some (.int .i64 pa) := FR.out.cell 0 5 rfl rfl rfl
    go_wp2_with fail
    refine ((g1.out _)).mono ?_
    rintro e w3 ⟨rfl, hb⟩
    clear c00 c01 c02 c03 c04 c05
    replace FR := Lib.hid (FR.out.step hb)
    clear hb
    go_wp2
    go_ret
    exact ⟨rfl, FR.out.bel⟩
  · rw [decide_eq_false h1] at g1
    replace g1 := Lib.hid g1
    have hn : n ≤ 16384 := by omega
    have hm : m ≤ 16384 := by omega
    have hk : k ≤ 16384 := by omega
    have hn61 : n ≤ 61 := by omega
    have hm20 : m ≤ 20 := by omega
    clear h1
    have c5 := fun (W : World) (h1 : I4s W A n c co) (h2 : Is W B m d ki) (h3 : Is W C k f si) => cdRight_any A n c B m d C k f co ki si ce re pa W h1 h2 h3 hn hm hk hpb
    rw [hrb] at c5
    replace c5 := Lib.hid c5
    cases rb
    · clear hrb hpb
      go_enter Try.func6, Try.ntmps6
      have c00 : v1.cell? ⟨q, 0, none⟩ = some (.slice A n c) := FR.out.cell 0 0 rfl rfl rfl
      have c01 : v1.cell? ⟨q, 1, none⟩ = some (.slice B m d) := FR.out.cell 0 1 rfl rfl rfl
      have c02 : v1.cell? ⟨q, 2, none⟩ = some (.slice C k f) := FR.out.cell 0 2 rfl rfl rfl
      have c03 : v1.cell? ⟨q, 3, none⟩ = some (.int .i64 ce) := FR.out.cell 0 3 rfl rfl rfl
      have c04 : v1.cell? ⟨q, 4, none⟩ = some (.int .i64 re) := FR.out.cell 0 4 rfl rfl rfl
      have c05 : v1.cell? ⟨q, 5, none⟩ = some (.int .i64 pa) := FR.out.cell 0 5 rfl rfl rfl
      go_wp2_with fail
      refine ((AL.out _)).mono ?_
      rintro e w2 ⟨rfl, hb⟩
      clear c00 c01 c02 c03 c04 c05
      replace FR := Lib.hid (FR.out.step hb)
      clear hb
      have c00 : w2.cell? ⟨q, 0, none⟩ = some (.slice A n c) := FR.out.cell 0 0 rfl rfl rfl
      have c01 : w2.cell? ⟨q, 1, none⟩ = some (.slice B m d) := FR.out.cell 0 1 rfl rfl rfl
      have c02 : w2.cell? ⟨q, 2, none⟩ = some (.slice C k f) := FR.out.cell 0 2 rfl rfl rfl
      have c03 : w2.cell? ⟨q, 3, none⟩ = some (.int .i64 ce) := FR.out.cell 0 3 rfl rfl rfl
      have c04 : w2.cell? ⟨q, 4, none⟩ = some (.int .i64 re) := FR.out.cell 0 4 rfl rfl rfl
      have c05 : w2.cell? ⟨q, 5, none⟩ = some (.int .i64 pa) := FR.out.cell 0 5 rfl rfl rfl
      go_wp2_with fail
      refine ((g1.out _)).mono ?_
      rintro e w3 ⟨rfl, hb⟩
      clear c00 c01 c02 c03 c04 c05
      replace FR := Lib.hid (FR.out.step hb)
      clear hb
      have c00 : w3.cell? ⟨q, 0, none⟩ = some (.slice A n c) := FR.out.cell 0 0 rfl rfl rfl
      have c01 : w3.cell? ⟨q, 1, none⟩ = some (.slice B m d) := FR.out.cell 0 1 rfl rfl rfl
      have c02 : w3.cell? ⟨q, 2, none⟩ = some (.slice C k f) := FR.out.cell 0 2 rfl rfl rfl
      have c03 : w3.cell? ⟨q, 3, none⟩ = some (.int .i64 ce) := FR.out.cell 0 3 rfl rfl rfl
      have c04 : w3.cell? ⟨q, 4, none⟩ = some (.int .i64 re) := FR.out.cell 0 4 rfl rfl rfl
      have c05 : w3.cell? ⟨q, 5, none⟩ = some (.int .i64 pa) := FR.out.cell 0 5 rfl rfl rfl
      go_wp2_with fail
      refine ((c5.out _ (FR.out.es RX.out) (FR.out.es RY.out) (FR.out.es RZ.out))).mono ?_
      rintro e w4 ⟨rfl, hb⟩
      clear c00 c01 c02 c03 c04 c05
      replace FR := Lib.hid (FR.out.step hb)
      clear hb
      go_wp2
      go_ret
      exact ⟨rfl, FR.out.bel⟩
    · have hr := rightPg_iff.1 hrb
      have n1 : 1 ≤ n := by have h2 := hr.n1; have := HLN.out; simp only at h2; omega
      obtain ⟨kk, hkk⟩ : ∃ kk : Nat, kk = (iv % (n : Int)).toNat := ⟨_, rfl⟩
      have hkl : kk < n := by have h2 := Int.emod_lt_of_pos iv (show (0 : Int) < (n : Int) by omega); have h3 := Int.emod_nonneg iv (show (n : Int) ≠ 0 by omega); omega
      have hrem : iv.tmod (n : Int) = (kk : Int) := by rw [Int.tmod_eq_emod_of_nonneg v0]; have h3 := Int.emod_nonneg iv (show (n : Int) ≠ 0 by omega); omega
      have hmod : iv % (n : Int) = (kk : Int) := by have h3 := Int.emod_nonneg iv (show (n : Int) ≠ 0 by omega); omega
      obtain ⟨hins, hgo, hlast⟩ := goes_at (p := ⟨co, ki, si, ce, re, pa⟩) hr (k := kk) (by show kk < co.length; have := HLN.out; omega)
      simp only at hgo hlast
      rw [show (co.length : Int) = (n : Int) by rw [HLN.out], show (ki.length : Int) = (m : Int) by rw [HLM.out]] at hgo
      rw [show co.length = n from HLN.out] at hlast
      obtain ⟨⟨o, a, b, x⟩, hix⟩ : ∃ z, inAt co kk = z := ⟨_, rfl⟩
      have HIX := Lib.hid hix
      rw [hix] at hgo hlast
      simp only at hgo hlast
      obtain ⟨o0, o41, hj, hz2, hs, ho, hrg⟩ := hgo
      have c3 := fun (W : World) (h1 : I4s W A n c co) (h2 : Is W B m d ki) (h3 : Is W C k f si) => cdIns_any A n c B m d C k f co ki si ce re pa W h1 h2 h3 hn hm hk hpb (kk : Int)
      rw [hins] at c3
      replace c3 := Lib.hid c3
      have p0 : (0 : Int) ≤ (kk : Int) := by omega
      have p1 : (kk : Int) < (n : Int) := by omega
      have nz : ((n : Int) == 0) = false := by simp; omega
      have HJ := Lib.hid hj; have HZ2 := Lib.hid hz2; have HSS := Lib.hid hs; have HO := Lib.hid ho; have HRG := Lib.hid hrg; have HLA := Lib.hid hlast
      have HREM := Lib.hid (And.intro hrem hmod)
      have b0 : decide (o < 0) = false := by simp; omega
      have b41 : decide (41 < o) = false := by simp; omega
      have HO41 := Lib.hid (And.intro o0 o41)
      have KN := Lib.hid hkl
      clear hr hins hj hz2 hs ho hrg hlast hix hkk hrem hmod hpb hrb o0 o41 hkl
      go_enter Try.func6, Try.ntmps6
      have c00 : v1.cell? ⟨q, 0, none⟩ = some (.slice A n c) := FR.out.cell 0 0 rfl rfl rfl
      have c01 : v1.cell? ⟨q, 1, none⟩ = some (.slice B m d) := FR.out.cell 0 1 rfl rfl rfl
      have c02 : v1.cell? ⟨q, 2, none⟩ = some (.slice C k f) := FR.out.cell 0 2 rfl rfl rfl
      have c03 : v1.cell? ⟨q, 3, none⟩ = some (.int .i64 ce) := FR.out.cell 0 3 rfl rfl rfl
      have c04 : v1.cell? ⟨q, 4, none⟩ = some (.int .i64 re) := FR.out.cell 0 4 rfl rfl rfl
      have c05 : v1.cell? ⟨q, 5, none⟩ = some (.int .i64 pa) := FR.out.cell 0 5 rfl rfl rfl
      go_wp2_with fail
      refine ((AL.out _)).mono ?_
      rintro e w2 ⟨rfl, hb⟩
      clear c00 c01 c02 c03 c04 c05
      replace FR := Lib.hid (FR.out.step hb)
      clear hb
      have c00 : w2.cell? ⟨q, 0, none⟩ = some (.slice A n c) := FR.out.cell 0 0 rfl rfl rfl
      have c01 : w2.cell? ⟨q, 1, none⟩ = some (.slice B m d) := FR.out.cell 0 1 rfl rfl rfl
      have c02 : w2.cell? ⟨q, 2, none⟩ = some (.slice C k f) := FR.out.cell 0 2 rfl rfl rfl
      have c03 : w2.cell? ⟨q, 3, none⟩ = some (.int .i64 ce) := FR.out.cell 0 3 rfl rfl rfl
      have c04 : w2.cell? ⟨q, 4, none⟩ = some (.int .i64 re) := FR.out.cell 0 4 rfl rfl rfl
      have c05 : w2.cell? ⟨q, 5, none⟩ = some (.int .i64 pa) := FR.out.cell 0 5 rfl rfl rfl
      go_wp2_with fail
      refine ((g1.out _)).mono ?_
      rintro e w3 ⟨rfl, hb⟩
      clear c00 c01 c02 c03 c04 c05
      replace FR := Lib.hid (FR.out.step hb)
      clear hb
      have c00 : w3.cell? ⟨q, 0, none⟩ = some (.slice A n c) := FR.out.cell 0 0 rfl rfl rfl
      have c01 : w3.cell? ⟨q, 1, none⟩ = some (.slice B m d) := FR.out.cell 0 1 rfl rfl rfl
      have c02 : w3.cell? ⟨q, 2, none⟩ = some (.slice C k f) := FR.out.cell 0 2 rfl rfl rfl
      have c03 : w3.cell? ⟨q, 3, none⟩ = some (.int .i64 ce) := FR.out.cell 0 3 rfl rfl rfl
      have c04 : w3.cell? ⟨q, 4, none⟩ = some (.int .i64 re) := FR.out.cell 0 4 rfl rfl rfl
      have c05 : w3.cell? ⟨q, 5, none⟩ = some (.int .i64 pa) := FR.out.cell 0 5 rfl rfl rfl
      go_wp2_with fail
      refine ((c5.out _ (FR.out.es RX.out) (FR.out.es RY.out) (FR.out.es RZ.out))).mono ?_
      rintro e w4 ⟨rfl, hb⟩
      clear c00 c01 c02 c03 c04 c05
      replace FR := Lib.hid (FR.out.step hb)
      clear hb
      obtain ⟨eb, eoff, rfl, hb0, k0, k1, k2, k3⟩ := I4s.look (l := co) (FR.out.es RX.out) kk KN.out
      rw [HIX.out] at k0 k1 k2 k3
      simp only at k0 k1 k2 k3
      clear hb0
      have c00 : w4.cell? ⟨q, 0, none⟩ = some (.slice (some ⟨eb, eoff, none⟩) n c) := FR.out.cell 0 0 rfl rfl rfl
      have c01 : w4.cell? ⟨q, 1, none⟩ = some (.slice B m d) := FR.out.cell 0 1 rfl rfl rfl
      have c02 : w4.cell? ⟨q, 2, none⟩ = some (.slice C k f) := FR.out.cell 0 2 rfl rfl rfl
      have c03 : w4.cell? ⟨q, 3, none⟩ = some (.int .i64 ce) := FR.out.cell 0 3 rfl rfl rfl
      have c04 : w4.cell? ⟨q, 4, none⟩ = some (.int .i64 re) := FR.out.cell 0 4 rfl rfl rfl
      have c05 : w4.cell? ⟨q, 5, none⟩ = some (.int .i64 pa) := FR.out.cell 0 5 rfl rfl rfl
      have ged := FR.out.sz
      simp only [List.length_cons, List.length_nil] at ged
      obtain ⟨w5, hw5⟩ : ∃ W, w4.alloc (.cells #[.int .i64 o, .int .i64 a, .int .i64 b, .int .i64 x] 40) = W := ⟨_, rfl⟩
      have hb : Below w4.heap.size w4 w5 := hw5 ▸ (Below.refl _ _).alloc (Nat.le_refl _) _
      have hv : w5.heap[w4.heap.size]? = some (.cells #[.int .i64 o, .int .i64 a, .int .i64 b, .int .i64 x] 40) := hw5 ▸ heap_alloc_new _ _
      replace FR := Lib.hid (FR.out.step hb)
      have Vd := Lib.hid hv
      generalize hsd : w4.heap.size = sd at *
      clear hb hv
      have nc00 : w5.cell? ⟨q, 0, none⟩ = some (.slice (some ⟨eb, eoff, none⟩) n c) := FR.out.cell 0 0 rfl rfl rfl
      have nc01 : w5.cell? ⟨q, 1, none⟩ = some (.slice B m d) := FR.out.cell 0 1 rfl rfl rfl
      have nc02 : w5.cell? ⟨q, 2, none⟩ = some (.slice C k f) := FR.out.cell 0 2 rfl rfl rfl
      have nc03 : w5.cell? ⟨q, 3, none⟩ = some (.int .i64 ce) := FR.out.cell 0 3 rfl rfl rfl
      have nc04 : w5.cell? ⟨q, 4, none⟩ = some (.int .i64 re) := FR.out.cell 0 4 rfl rfl rfl
      have nc05 : w5.cell? ⟨q, 5, none⟩ = some (.int .i64 pa) := FR.out.cell 0 5 rfl rfl rfl
      have ncd0 : w5.cell? ⟨sd, 0, none⟩ = some (.int .i64 o) := (blk_cell Vd.out 0).trans rfl
      have ncd1 : w5.cell? ⟨sd, 1, none⟩ = some (.int .i64 a) := (blk_cell Vd.out 1).trans rfl
      have ncd2 : w5.cell? ⟨sd, 2, none⟩ = some (.int .i64 b) := (blk_cell Vd.out 2).trans rfl
      have ncd3 : w5.cell? ⟨sd, 3, none⟩ = some (.int .i64 x) := (blk_cell Vd.out 3).trans rfl
      have hrem := HREM.out.1; have hmod := HREM.out.2
      go_wp2_with fail
      refine (c3.out _ (FR.out.es RX.out) (FR.out.es RY.out) (FR.out.es RZ.out)).mono ?_
      rintro e w9 ⟨rfl, hb⟩
      clear hrem hmod k0 k1 k2 k3
      clear c00 c01 c02 c03 c04 c05 nc00 nc01 nc02 nc03 nc04 nc05 ncd0 ncd1 ncd2 ncd3
      replace FR := Lib.hid (FR.out.step hb)
      replace Vd := Lib.hid (blk_below Vd.out hb (blk_lt Vd.out))
      clear hb
      have c00 : w9.cell? ⟨q, 0, none⟩ = some (.slice (some ⟨eb, eoff, none⟩) n c) := FR.out.cell 0 0 rfl rfl rfl
      have c01 : w9.cell? ⟨q, 1, none⟩ = some (.slice B m d) := FR.out.cell 0 1 rfl rfl rfl
      have c02 : w9.cell? ⟨q, 2, none⟩ = some (.slice C k f) := FR.out.cell 0 2 rfl rfl rfl
      have c03 : w9.cell? ⟨q, 3, none⟩ = some (.int .i64 ce) := FR.out.cell 0 3 rfl rfl rfl
      have c04 : w9.cell? ⟨q, 4, none⟩ = some (.int .i64 re) := FR.out.cell 0 4 rfl rfl rfl
      have c05 : w9.cell? ⟨q, 5, none⟩ = some (.int .i64 pa) := FR.out.cell 0 5 rfl rfl rfl
      have cd0 : w9.cell? ⟨sd, 0, none⟩ = some (.int .i64 o) := (blk_cell Vd.out 0).trans rfl
      have cd1 : w9.cell? ⟨sd, 1, none⟩ = some (.int .i64 a) := (blk_cell Vd.out 1).trans rfl
      have cd2 : w9.cell? ⟨sd, 2, none⟩ = some (.int .i64 b) := (blk_cell Vd.out 2).trans rfl
      have cd3 : w9.cell? ⟨sd, 3, none⟩ = some (.int .i64 x) := (blk_cell Vd.out 3).trans rfl
      by_cases ho6 : o = 6
      · obtain ⟨q0, q1⟩ := HJ.out (by omega)
        have d0 : decide (0 ≤ a) = true := decide_eq_true q0
        have d1 : decide (a < (n : Int)) = true := decide_eq_true q1
        clear q0 q1
        subst ho6
        go_wp2
        go_ret
        exact ⟨rfl, FR.out.bel⟩
      have hn6 : (o == 6) = false := by simpa using ho6
      replace ho6 := Lib.hid ho6
      by_cases ho23 : o = 23
      · obtain ⟨q0, q1⟩ := HJ.out (by omega)
        have d0 : decide (0 ≤ a) = true := decide_eq_true q0
        have d1 : decide (a < (n : Int)) = true := decide_eq_true q1
        clear q0 q1
        have hk1 : (kk : Int) + 1 < (n : Int) := by have := HLA.out; omega
        have u1 : decide ((kk : Int) + 1 < (n : Int)) = true := decide_eq_true hk1
        have hk1n : kk + 1 < n := by omega
        have u1n : decide (kk + 1 < n) = true := decide_eq_true hk1n
        clear hk1 hk1n
        subst ho23
        go_wp2
        go_ret
        exact ⟨rfl, FR.out.bel⟩
      have hn23 : (o == 23) = false := by simpa using ho23
      replace ho23 := Lib.hid ho23
      by_cases ho7 : o = 7
      · obtain ⟨q0, q1⟩ := HZ2.out (by omega)
        have d0 : decide (0 ≤ b) = true := decide_eq_true q0
        have d1 : decide (b < (n : Int)) = true := decide_eq_true q1
        clear q0 q1
        have hk1 : (kk : Int) + 1 < (n : Int) := by have := HLA.out; omega
        have u1 : decide ((kk : Int) + 1 < (n : Int)) = true := decide_eq_true hk1
        have hk1n : kk + 1 < n := by omega
        have u1n : decide (kk + 1 < n) = true := decide_eq_true hk1n
        clear hk1 hk1n
        subst ho7
        go_wp2
        go_ret
        exact ⟨rfl, FR.out.bel⟩
      have hn7 : (o == 7) = false := by simpa using ho7
      replace ho7 := Lib.hid ho7
      by_cases ho22 : o = 22
      · obtain ⟨q0, q1⟩ := HZ2.out (by omega)
        have d0 : decide (0 ≤ b) = true := decide_eq_true q0
        have d1 : decide (b < (n : Int)) = true := decide_eq_true q1
        clear q0 q1
        have hk1 : (kk : Int) + 1 < (n : Int) := by have := HLA.out; omega
        have u1 : decide ((kk : Int) + 1 < (n : Int)) = true := decide_eq_true hk1
        have hk1n : kk + 1 < n := by omega
        have u1n : decide (kk + 1 < n) = true := decide_eq_true hk1n
        clear hk1 hk1n
        subst ho22
        go_wp2
        go_ret
        exact ⟨rfl, FR.out.bel⟩
      have hn22 : (o == 22) = false := by simpa using ho22
      replace ho22 := Lib.hid ho22
      by_cases ho0 : o = 0
      · obtain ⟨rfl, rfl⟩ := HSS.out (by omega)
        subst ho0
        go_wp2
        go_ret
        exact ⟨rfl, FR.out.bel⟩
      have hn0 : (o == 0) = false := by simpa using ho0
      replace ho0 := Lib.hid ho0
      by_cases ho24 : o = 24
      · obtain ⟨rfl, rfl⟩ := HSS.out (by omega)
        subst ho24
        go_wp2
        go_ret
        exact ⟨rfl, FR.out.bel⟩
      have hn24 : (o == 24) = false := by simpa using ho24
      replace ho24 := Lib.hid ho24
      by_cases h26 : 26 ≤ o
      · have e26 : decide (26 ≤ o) = true := decide_eq_true h26
        by_cases h40 : o ≤ 40
        · have e40 : decide (o ≤ 40) = true := decide_eq_true h40
          obtain ⟨q0, q1⟩ := HO.out h26 h40
          have d0 : decide (0 ≤ a) = true := decide_eq_true q0
          have d1 : decide (a < (m : Int)) = true := decide_eq_true q1
          clear q0 q1
          have hk1 : (kk : Int) + 1 < (n : Int) := by have := HLA.out; have := ho6.out; have := ho23.out; have := ho7.out; have := ho22.out; have := ho0.out; have := ho24.out; omega
          have u1 : decide ((kk : Int) + 1 < (n : Int)) = true := decide_eq_true hk1
          have hk1n : kk + 1 < n := by omega
          have u1n : decide (kk + 1 < n) = true := decide_eq_true hk1n
          clear hk1 hk1n
          clear h26 h40
          go_wp2
          go_ret
          exact ⟨rfl, FR.out.bel⟩
        · have e40 : decide (o ≤ 40) = false := decide_eq_false h40
          obtain ⟨q0, q1⟩ := HRG.out ho6.out ho23.out ho0.out (by omega)
          have d0 : decide (0 ≤ a) = true := decide_eq_true q0
          have d1 : decide (a < 4) = true := decide_eq_true q1
          clear q0 q1
          have hk1 : (kk : Int) + 1 < (n : Int) := by have := HLA.out; have := ho6.out; have := ho23.out; have := ho7.out; have := ho22.out; have := ho0.out; have := ho24.out; omega
          have u1 : decide ((kk : Int) + 1 < (n : Int)) = true := decide_eq_true hk1
          have hk1n : kk + 1 < n := by omega
          have u1n : decide (kk + 1 < n) = true := decide_eq_true hk1n
          clear hk1 hk1n
          clear h26 h40
          go_wp2
          go_ret
          exact ⟨rfl, FR.out.bel⟩
      · have e26 : decide (26 ≤ o) = false := decide_eq_false h26
        obtain ⟨q0, q1⟩ := HRG.out ho6.out ho23.out ho0.out (by omega)
        have d0 : decide (0 ≤ a) = true := decide_eq_true q0
        have d1 : decide (a < 4) = true := decide_eq_true q1
        clear q0 q1
        have hk1 : (kk : Int) + 1 < (n : Int) := by have := HLA.out; have := ho6.out; have := ho23.out; have := ho7.out; have := ho22.out; have := ho0.out; have := ho24.out; omega
        have u1 : decide ((kk : Int) + 1 < (n : Int)) = true := decide_eq_true hk1
        have hk1n : kk + 1 < n := by omega
        have u1n : decide (kk + 1 < n) = true := decide_eq_true hk1n
        clear hk1 hk1n
        clear h26
        go_wp2
        go_ret
        exact ⟨rfl, FR.out.bel⟩
end Go.Proofs.Ytkoodhnfphmbnaa
