/- The walk of CodeAnswers: it answers true, over any world; no condition. -/
import Derived.Test.YtkoodhnfphmbnaaCodS
namespace Go.Proofs.Ytkoodhnfphmbnaa
set_option linter.unusedVariables false
set_option linter.unusedSimpArgs false
open Go.RowKit
theorem append_byte {bs : List Int} {p : Pg} (hb : ∀ b ∈ bs, 0 ≤ b ∧ b ≤ 255) : ∀ b ∈ (appendPg bs p).1, 0 ≤ b ∧ b ≤ 255 := by
  unfold appendPg
  split
  · intro b h
    rcases List.mem_append.1 h with h | h
    · exact hb b h
    · exact bytesN_byte _ b h
  · intro b h; simp at h
set_option maxRecDepth 100000 in
set_option maxHeartbeats 8000000 in
theorem great13_any (A : Option Addr) (n c : Nat) (B : Option Addr) (m d : Nat) (C : Option Addr) (k f : Nat) (co : List I4) (ki si : List Int) (ce re pa : Int) (w : World) : Calls Try.prog 8 #[.agg #[.slice A n c, .slice B m d, .slice C k f, .int .i64 ce, .int .i64 re, .int .i64 pa]] w (YesC w (decide (61 < n ∨ 20 < m ∨ 20 < k))) := by
  obtain ⟨v1, hv1⟩ : ∃ W, w.alloc (.cells #[.slice A n c, .slice B m d, .slice C k f, .int .i64 ce, .int .i64 re, .int .i64 pa] 25) = W := ⟨_, rfl⟩
  have fr1 : Fr w v1 w.heap.size [.cells #[.slice A n c, .slice B m d, .slice C k f, .int .i64 ce, .int .i64 re, .int .i64 pa] 25] := hv1 ▸ Fr.first w _
  have z1 : v1.heap.size = w.heap.size + 1 := by rw [← hv1, Fr.size1]
  generalize hq : w.heap.size = q at *
  have FR := Lib.hid fr1
  clear fr1
  obtain ⟨R, hR⟩ : ∃ R, decide (61 < n ∨ 20 < m ∨ 20 < k) = R := ⟨_, rfl⟩
  rw [hR]
  replace hR := Lib.hid hR
  by_cases hn : 61 < n
  · have tn : decide ((61 : Int) < (n : Int)) = true := by simp; omega
    have un : decide (61 < n) = true := by simpa using hn
    have HE := Lib.hid (show R = true from by rw [← hR.out]; exact decide_eq_true (by omega))
    clear hn
    go_enter Try.func8, Try.ntmps8
    have c00 : v1.cell? ⟨q, 0, none⟩ = some (.slice A n c) := FR.out.cell 0 0 rfl rfl rfl
    have c01 : v1.cell? ⟨q, 1, none⟩ = some (.slice B m d) := FR.out.cell 0 1 rfl rfl rfl
    have c02 : v1.cell? ⟨q, 2, none⟩ = some (.slice C k f) := FR.out.cell 0 2 rfl rfl rfl
    have c03 : v1.cell? ⟨q, 3, none⟩ = some (.int .i64 ce) := FR.out.cell 0 3 rfl rfl rfl
    have c04 : v1.cell? ⟨q, 4, none⟩ = some (.int .i64 re) := FR.out.cell 0 4 rfl rfl rfl
    have c05 : v1.cell? ⟨q, 5, none⟩ = some (.int .i64 pa) := FR.out.cell 0 5 rfl rfl rfl
    go_wp2
    go_ret
    rw [HE.out]
    exact ⟨rfl, FR.out.out⟩
  have tn : decide ((61 : Int) < (n : Int)) = false := by simp; omega
  have un : decide (61 < n) = false := by simpa using hn
  by_cases hm : 20 < m
  · have tm : decide ((20 : Int) < (m : Int)) = true := by simp; omega
    have um : decide (20 < m) = true := by simpa using hm
    have HE := Lib.hid (show R = true from by rw [← hR.out]; exact decide_eq_true (by omega))
    clear hm
    go_enter Try.func8, Try.ntmps8
    have c00 : v1.cell? ⟨q, 0, none⟩ = some (.slice A n c) := FR.out.cell 0 0 rfl rfl rfl
    have c01 : v1.cell? ⟨q, 1, none⟩ = some (.slice B m d) := FR.out.cell 0 1 rfl rfl rfl
    have c02 : v1.cell? ⟨q, 2, none⟩ = some (.slice C k f) := FR.out.cell 0 2 rfl rfl rfl
    have c03 : v1.cell? ⟨q, 3, none⟩ = some (.int .i64 ce) := FR.out.cell 0 3 rfl rfl rfl
    have c04 : v1.cell? ⟨q, 4, none⟩ = some (.int .i64 re) := FR.out.cell 0 4 rfl rfl rfl
    have c05 : v1.cell? ⟨q, 5, none⟩ = some (.int .i64 pa) := FR.out.cell 0 5 rfl rfl rfl
    go_wp2
    go_ret
    rw [HE.out]
    exact ⟨rfl, FR.out.out⟩
  have tm : decide ((20 : Int) < (m : Int)) = false := by simp; omega
  have um : decide (20 < m) = false := by simpa using hm
  by_cases hk : 20 < k
  · have tk : decide ((20 : Int) < (k : Int)) = true := by simp; omega
    have uk : decide (20 < k) = true := by simpa using hk
    have HE := Lib.hid (show R = true from by rw [← hR.out]; exact decide_eq_true (by omega))
    clear hk
    go_enter Try.func8, Try.ntmps8
    have c00 : v1.cell? ⟨q, 0, none⟩ = some (.slice A n c) := FR.out.cell 0 0 rfl rfl rfl
    have c01 : v1.cell? ⟨q, 1, none⟩ = some (.slice B m d) := FR.out.cell 0 1 rfl rfl rfl
    have c02 : v1.cell? ⟨q, 2, none⟩ = some (.slice C k f) := FR.out.cell 0 2 rfl rfl rfl
    have c03 : v1.cell? ⟨q, 3, none⟩ = some (.int .i64 ce) := FR.out.cell 0 3 rfl rfl rfl
    have c04 : v1.cell? ⟨q, 4, none⟩ = some (.int .i64 re) := FR.out.cell 0 4 rfl rfl rfl
    have c05 : v1.cell? ⟨q, 5, none⟩ = some (.int .i64 pa) := FR.out.cell 0 5 rfl rfl rfl
    go_wp2
    go_ret
    rw [HE.out]
    exact ⟨rfl, FR.out.out⟩
  have tk : decide ((20 : Int) < (k : Int)) = false := by simp; omega
  have uk : decide (20 < k) = false := by simpa using hk
  have HE := Lib.hid (show R = false from by rw [← hR.out]; exact decide_eq_false (by omega))
  clear hn hm hk
  go_enter Try.func8, Try.ntmps8
  have c00 : v1.cell? ⟨q, 0, none⟩ = some (.slice A n c) := FR.out.cell 0 0 rfl rfl rfl
  have c01 : v1.cell? ⟨q, 1, none⟩ = some (.slice B m d) := FR.out.cell 0 1 rfl rfl rfl
  have c02 : v1.cell? ⟨q, 2, none⟩ = some (.slice C k f) := FR.out.cell 0 2 rfl rfl rfl
  have c03 : v1.cell? ⟨q, 3, none⟩ = some (.int .i64 ce) := FR.out.cell 0 3 rfl rfl rfl
  have c04 : v1.cell? ⟨q, 4, none⟩ = some (.int .i64 re) := FR.out.cell 0 4 rfl rfl rfl
  have c05 : v1.cell? ⟨q, 5, none⟩ = some (.int .i64 pa) := FR.out.cell 0 5 rfl rfl rfl
  go_wp2
  go_ret
  rw [HE.out]
  exact ⟨rfl, FR.out.out⟩
set_option maxRecDepth 100000 in
set_option maxHeartbeats 8000000 in
theorem answers13_walk (A : Option Addr) (n c : Nat) (B : Option Addr) (m d : Nat) (C : Option Addr) (k f : Nat) (co : List I4) (ki si : List Int) (ce re pa : Int) (A2 : Option Addr) (n2 c2 : Nat) (B2 : Option Addr) (m2 d2 : Nat) (C2 : Option Addr) (k2 f2 : Nat) (co2 : List I4) (ki2 si2 : List Int) (ce2 re2 pa2 : Int) (y : Int) (w : World) (hx : I4s w A n c co) (hy : Is w B m d ki) (hz : Is w C k f si) (hx2 : I4s w A2 n2 c2 co2) (hy2 : Is w B2 m2 d2 ki2) (hz2 : Is w C2 k2 f2 si2) (hpb : PB ⟨co, ki, si, ce, re, pa⟩) (hpb2 : PB ⟨co2, ki2, si2, ce2, re2, pa2⟩) :
    Calls Try.prog 3 #[.agg #[.slice A n c, .slice B m d, .slice C k f, .int .i64 ce, .int .i64 re, .int .i64 pa], .agg #[.slice A2 n2 c2, .slice B2 m2 d2, .slice C2 k2 f2, .int .i64 ce2, .int .i64 re2, .int .i64 pa2], .int .i64 y] w fun e w' => e = .returned (.bool true) ∧ Below w.heap.size w w' := by
  have RX := Lib.hid hx; have RY := Lib.hid hy; have RZ := Lib.hid hz; have RX2 := Lib.hid hx2; have RY2 := Lib.hid hy2; have RZ2 := Lib.hid hz2
  clear hx hy hz hx2 hy2 hz2
  have HB := Lib.hid (And.intro (Below.refl w.heap.size w) (Nat.le_refl w.heap.size))
  have gq := HB.out.2
  obtain ⟨w1, hw1⟩ : ∃ W, ((w.alloc (.cells #[.slice A n c, .slice B m d, .slice C k f, .int .i64 ce, .int .i64 re, .int .i64 pa] 25)).alloc (.cells #[.slice A2 n2 c2, .slice B2 m2 d2, .slice C2 k2 f2, .int .i64 ce2, .int .i64 re2, .int .i64 pa2] 25)) = W := ⟨_, rfl⟩
  have hb : Below w.heap.size w w1 := hw1 ▸ (((Below.refl _ _).alloc (Nat.le_refl _) _).alloc (by first | (simp; done) | (simp; omega)) _)
  have hv0 : w1.heap[w.heap.size]? = some (.cells #[.slice A n c, .slice B m d, .slice C k f, .int .i64 ce, .int .i64 re, .int .i64 pa] 25) := by
    have h0 := heap_alloc_new w (.cells #[.slice A n c, .slice B m d, .slice C k f, .int .i64 ce, .int .i64 re, .int .i64 pa] 25)
    rw [show w.heap.size = w.heap.size by simp [Nat.add_assoc]] at h0
    rw [← hw1]
    rw [heap_alloc_old _ _ (by simp <;> omega)]; exact h0
  have hv1 : w1.heap[w.heap.size + 1]? = some (.cells #[.slice A2 n2 c2, .slice B2 m2 d2, .slice C2 k2 f2, .int .i64 ce2, .int .i64 re2, .int .i64 pa2] 25) := by
    have h0 := heap_alloc_new (w.alloc (.cells #[.slice A n c, .slice B m d, .slice C k f, .int .i64 ce, .int .i64 re, .int .i64 pa] 25)) (.cells #[.slice A2 n2 c2, .slice B2 m2 d2, .slice C2 k2 f2, .int .i64 ce2, .int .i64 re2, .int .i64 pa2] 25)
    rw [show (w.alloc (.cells #[.slice A n c, .slice B m d, .slice C k f, .int .i64 ce, .int .i64 re, .int .i64 pa] 25)).heap.size = w.heap.size + 1 by simp [Nat.add_assoc]] at h0
    rw [← hw1]
    exact h0
  replace RX := Lib.hid (Es.below RX.out hb)
  replace RY := Lib.hid (Es.below RY.out hb)
  replace RZ := Lib.hid (Es.below RZ.out hb)
  replace RX2 := Lib.hid (Es.below RX2.out hb)
  replace RY2 := Lib.hid (Es.below RY2.out hb)
  replace RZ2 := Lib.hid (Es.below RZ2.out hb)
  replace HB := Lib.hid (And.intro (HB.out.1.trans (hb.mono HB.out.2)) (Nat.le_trans HB.out.2 hb.size))
  have Vt := Lib.hid hv0
  have get := gq
  have Vu := Lib.hid hv1
  have net_u : w.heap.size ≠ w.heap.size + 1 := by omega
  have geu : _ ≤ w.heap.size + 1 := Nat.le_trans gq (Nat.le_add_right _ 1)
  generalize hst : w.heap.size = st at *
  clear hb gq hv0 hv1
  subst hst
  have g1 := fun (W : World) => great13_any A n c B m d C k f co ki si ce re pa W
  have g2 := fun (W : World) => great13_any A2 n2 c2 B2 m2 d2 C2 k2 f2 co2 ki2 si2 ce2 re2 pa2 W
  by_cases h1 : 61 < n ∨ 20 < m ∨ 20 < k
  · rw [decide_eq_true h1] at g1
    replace g1 := Lib.hid g1
    clear h1 g2
    go_enter Try.func3, Try.ntmps3
    go_wp2_with fail
    refine (alive13 _).mono ?_
    rintro e w2 ⟨rfl, hb⟩
    replace Vt := Lib.hid (blk_below Vt.out hb (blk_lt Vt.out))
    replace Vu := Lib.hid (blk_below Vu.out hb (blk_lt Vu.out))
    replace RX := Lib.hid (Es.below RX.out hb)
    replace RY := Lib.hid (Es.below RY.out hb)
    replace RZ := Lib.hid (Es.below RZ.out hb)
    replace RX2 := Lib.hid (Es.below RX2.out hb)
    replace RY2 := Lib.hid (Es.below RY2.out hb)
    replace RZ2 := Lib.hid (Es.below RZ2.out hb)
    replace HB := Lib.hid (And.intro (HB.out.1.trans (hb.mono HB.out.2)) (Nat.le_trans HB.out.2 hb.size))
    clear hb
    have ct0 : w2.cell? ⟨w.heap.size, 0, none⟩ = some (.slice A n c) := (blk_cell Vt.out 0).trans rfl
    have ct1 : w2.cell? ⟨w.heap.size, 1, none⟩ = some (.slice B m d) := (blk_cell Vt.out 1).trans rfl
    have ct2 : w2.cell? ⟨w.heap.size, 2, none⟩ = some (.slice C k f) := (blk_cell Vt.out 2).trans rfl
    have ct3 : w2.cell? ⟨w.heap.size, 3, none⟩ = some (.int .i64 ce) := (blk_cell Vt.out 3).trans rfl
    have ct4 : w2.cell? ⟨w.heap.size, 4, none⟩ = some (.int .i64 re) := (blk_cell Vt.out 4).trans rfl
    have ct5 : w2.cell? ⟨w.heap.size, 5, none⟩ = some (.int .i64 pa) := (blk_cell Vt.out 5).trans rfl
    go_wp2_with fail
    refine (g1.out _).mono ?_
    rintro e w3 ⟨rfl, hb⟩
    clear ct0 ct1 ct2 ct3 ct4 ct5
    replace Vt := Lib.hid (blk_below Vt.out hb (blk_lt Vt.out))
    replace Vu := Lib.hid (blk_below Vu.out hb (blk_lt Vu.out))
    replace RX := Lib.hid (Es.below RX.out hb)
    replace RY := Lib.hid (Es.below RY.out hb)
    replace RZ := Lib.hid (Es.below RZ.out hb)
    replace RX2 := Lib.hid (Es.below RX2.out hb)
    replace RY2 := Lib.hid (Es.below RY2.out hb)
    replace RZ2 := Lib.hid (Es.below RZ2.out hb)
    replace HB := Lib.hid (And.intro (HB.out.1.trans (hb.mono HB.out.2)) (Nat.le_trans HB.out.2 hb.size))
    clear hb
    go_wp2
    go_ret
    exact ⟨rfl, HB.out.1⟩
  · rw [decide_eq_false h1] at g1
    replace g1 := Lib.hid g1
    by_cases h2 : 61 < n2 ∨ 20 < m2 ∨ 20 < k2
    · rw [decide_eq_true h2] at g2
      replace g2 := Lib.hid g2
      clear h1 h2
      go_enter Try.func3, Try.ntmps3
      go_wp2_with fail
      refine (alive13 _).mono ?_
      rintro e w2 ⟨rfl, hb⟩
      replace Vt := Lib.hid (blk_below Vt.out hb (blk_lt Vt.out))
      replace Vu := Lib.hid (blk_below Vu.out hb (blk_lt Vu.out))
      replace RX := Lib.hid (Es.below RX.out hb)
      replace RY := Lib.hid (Es.below RY.out hb)
      replace RZ := Lib.hid (Es.below RZ.out hb)
      replace RX2 := Lib.hid (Es.below RX2.out hb)
      replace RY2 := Lib.hid (Es.below RY2.out hb)
      replace RZ2 := Lib.hid (Es.below RZ2.out hb)
      replace HB := Lib.hid (And.intro (HB.out.1.trans (hb.mono HB.out.2)) (Nat.le_trans HB.out.2 hb.size))
      clear hb
      have ct0 : w2.cell? ⟨w.heap.size, 0, none⟩ = some (.slice A n c) := (blk_cell Vt.out 0).trans rfl
      have ct1 : w2.cell? ⟨w.heap.size, 1, none⟩ = some (.slice B m d) := (blk_cell Vt.out 1).trans rfl
      have ct2 : w2.cell? ⟨w.heap.size, 2, none⟩ = some (.slice C k f) := (blk_cell Vt.out 2).trans rfl
      have ct3 : w2.cell? ⟨w.heap.size, 3, none⟩ = some (.int .i64 ce) := (blk_cell Vt.out 3).trans rfl
      have ct4 : w2.cell? ⟨w.heap.size, 4, none⟩ = some (.int .i64 re) := (blk_cell Vt.out 4).trans rfl
      have ct5 : w2.cell? ⟨w.heap.size, 5, none⟩ = some (.int .i64 pa) := (blk_cell Vt.out 5).trans rfl
      go_wp2_with fail
      refine (g1.out _).mono ?_
      rintro e w3 ⟨rfl, hb⟩
      clear ct0 ct1 ct2 ct3 ct4 ct5
      replace Vt := Lib.hid (blk_below Vt.out hb (blk_lt Vt.out))
      replace Vu := Lib.hid (blk_below Vu.out hb (blk_lt Vu.out))
      replace RX := Lib.hid (Es.below RX.out hb)
      replace RY := Lib.hid (Es.below RY.out hb)
      replace RZ := Lib.hid (Es.below RZ.out hb)
      replace RX2 := Lib.hid (Es.below RX2.out hb)
      replace RY2 := Lib.hid (Es.below RY2.out hb)
      replace RZ2 := Lib.hid (Es.below RZ2.out hb)
      replace HB := Lib.hid (And.intro (HB.out.1.trans (hb.mono HB.out.2)) (Nat.le_trans HB.out.2 hb.size))
      clear hb
      have cu0 : w3.cell? ⟨w.heap.size + 1, 0, none⟩ = some (.slice A2 n2 c2) := (blk_cell Vu.out 0).trans rfl
      have cu1 : w3.cell? ⟨w.heap.size + 1, 1, none⟩ = some (.slice B2 m2 d2) := (blk_cell Vu.out 1).trans rfl
      have cu2 : w3.cell? ⟨w.heap.size + 1, 2, none⟩ = some (.slice C2 k2 f2) := (blk_cell Vu.out 2).trans rfl
      have cu3 : w3.cell? ⟨w.heap.size + 1, 3, none⟩ = some (.int .i64 ce2) := (blk_cell Vu.out 3).trans rfl
      have cu4 : w3.cell? ⟨w.heap.size + 1, 4, none⟩ = some (.int .i64 re2) := (blk_cell Vu.out 4).trans rfl
      have cu5 : w3.cell? ⟨w.heap.size + 1, 5, none⟩ = some (.int .i64 pa2) := (blk_cell Vu.out 5).trans rfl
      go_wp2_with fail
      refine (g2.out _).mono ?_
      rintro e w4 ⟨rfl, hb⟩
      clear cu0 cu1 cu2 cu3 cu4 cu5
      replace Vt := Lib.hid (blk_below Vt.out hb (blk_lt Vt.out))
      replace Vu := Lib.hid (blk_below Vu.out hb (blk_lt Vu.out))
      replace RX := Lib.hid (Es.below RX.out hb)
      replace RY := Lib.hid (Es.below RY.out hb)
      replace RZ := Lib.hid (Es.below RZ.out hb)
      replace RX2 := Lib.hid (Es.below RX2.out hb)
      replace RY2 := Lib.hid (Es.below RY2.out hb)
      replace RZ2 := Lib.hid (Es.below RZ2.out hb)
      replace HB := Lib.hid (And.intro (HB.out.1.trans (hb.mono HB.out.2)) (Nat.le_trans HB.out.2 hb.size))
      clear hb
      go_wp2
      go_ret
      exact ⟨rfl, HB.out.1⟩
    · rw [decide_eq_false h2] at g2
      replace g2 := Lib.hid g2
      have hn : n ≤ 16384 := by omega
      have hm : m ≤ 16384 := by omega
      have hk : k ≤ 16384 := by omega
      clear h1 h2
      obtain ⟨⟨bl, be⟩, hbl⟩ : ∃ r, appendPg [] ⟨co, ki, si, ce, re, pa⟩ = r := ⟨_, rfl⟩
      have hby : ∀ b ∈ bl, 0 ≤ b ∧ b ≤ 255 := by have h := append_byte (bs := []) (p := ⟨co, ki, si, ce, re, pa⟩) (by simp); rw [hbl] at h; exact h
      obtain ⟨ib, hib⟩ : ∃ r, insB ⟨co, ki, si, ce, re, pa⟩ y = r := ⟨_, rfl⟩
      obtain ⟨rb, hrb⟩ : ∃ r, rightPg ⟨co, ki, si, ce, re, pa⟩ = r := ⟨_, rfl⟩
      obtain ⟨sb, hsb⟩ : ∃ r, sameB ⟨co, ki, si, ce, re, pa⟩ ⟨co2, ki2, si2, ce2, re2, pa2⟩ = r := ⟨_, rfl⟩
      have z1 := fun (W : World) (h1 : I4s W A n c co) (h2 : Is W B m d ki) (h3 : Is W C k f si) => cdAppend_any A n c B m d C k f co ki si ce re pa W h1 h2 h3 hn hm hk hpb none 0 0 [] (Bs.nil _ _ _) (by omega)
      rw [hbl] at z1
      replace z1 := Lib.hid z1
      have z2 := fun (W : World) (h1 : I4s W A n c co) (h2 : Is W B m d ki) (h3 : Is W C k f si) => refAppend13_any A n c B m d C k f co ki si ce re pa none 0 0 [] W h1 h2 h3 hn hm hk (Bs.nil _ _ _) (by omega) hpb
      rw [hbl] at z2
      replace z2 := Lib.hid z2
      have z3 := fun (W : World) (h1 : I4s W A n c co) (h2 : Is W B m d ki) (h3 : Is W C k f si) => cdIns_any A n c B m d C k f co ki si ce re pa W h1 h2 h3 hn hm hk hpb y
      rw [hib] at z3
      replace z3 := Lib.hid z3
      have z4 := fun (W : World) (h1 : I4s W A n c co) (h2 : Is W B m d ki) (h3 : Is W C k f si) => refIns_any A n c B m d C k f co ki si ce re pa y W h1 h2 h3 hn hm hk
      rw [hib] at z4
      replace z4 := Lib.hid z4
      have z5 := fun (W : World) (h1 : I4s W A n c co) (h2 : Is W B m d ki) (h3 : Is W C k f si) => cdRight_any A n c B m d C k f co ki si ce re pa W h1 h2 h3 hn hm hk hpb
      rw [hrb] at z5
      replace z5 := Lib.hid z5
      have z6 := fun (W : World) (h1 : I4s W A n c co) (h2 : Is W B m d ki) (h3 : Is W C k f si) => refRight13_any A n c B m d C k f co ki si ce re pa W h1 h2 h3 hn hm hk
      rw [hrb] at z6
      replace z6 := Lib.hid z6
      have z7 := fun (W : World) (h1 : I4s W A n c co) (h2 : Is W B m d ki) (h3 : Is W C k f si) (h4 : I4s W A2 n2 c2 co2) (h5 : Is W B2 m2 d2 ki2) (h6 : Is W C2 k2 f2 si2) => cdSame_any A n c B m d C k f co ki si ce re pa W h1 h2 h3 hn hm hk hpb A2 n2 c2 B2 m2 d2 C2 k2 f2 co2 ki2 si2 ce2 re2 pa2 h4 h5 h6
      rw [hsb] at z7
      replace z7 := Lib.hid z7
      have z8 := fun (W : World) (h1 : I4s W A n c co) (h2 : Is W B m d ki) (h3 : Is W C k f si) (h4 : I4s W A2 n2 c2 co2) (h5 : Is W B2 m2 d2 ki2) (h6 : Is W C2 k2 f2 si2) => refSame13_any A n c B m d C k f co ki si ce re pa A2 n2 c2 B2 m2 d2 C2 k2 f2 co2 ki2 si2 ce2 re2 pa2 W h1 h2 h3 hn hm hk h4 h5 h6
      rw [hsb] at z8
      replace z8 := Lib.hid z8
      have z9 := fun (W : World) (h1 : I4s W A n c co) (h2 : Is W B m d ki) (h3 : Is W C k f si) => cdSame_any A n c B m d C k f co ki si ce re pa W h1 h2 h3 hn hm hk hpb A n c B m d C k f co ki si ce re pa h1 h2 h3
      rw [sameB_self] at z9
      replace z9 := Lib.hid z9
      have HBY := Lib.hid hby
      have q1 : (be == be) = true := by simp
      have q2 : (ib == ib) = true := by simp
      have q3 : (rb == rb) = true := by simp
      have q4 : (sb == sb) = true := by simp
      clear hbl hib hrb hsb hby hpb hpb2
      go_enter Try.func3, Try.ntmps3
      go_wp2_with fail
      refine (alive13 _).mono ?_
      rintro e w2 ⟨rfl, hb⟩
      replace Vt := Lib.hid (blk_below Vt.out hb (blk_lt Vt.out))
      replace Vu := Lib.hid (blk_below Vu.out hb (blk_lt Vu.out))
      replace RX := Lib.hid (Es.below RX.out hb)
      replace RY := Lib.hid (Es.below RY.out hb)
      replace RZ := Lib.hid (Es.below RZ.out hb)
      replace RX2 := Lib.hid (Es.below RX2.out hb)
      replace RY2 := Lib.hid (Es.below RY2.out hb)
      replace RZ2 := Lib.hid (Es.below RZ2.out hb)
      replace HB := Lib.hid (And.intro (HB.out.1.trans (hb.mono HB.out.2)) (Nat.le_trans HB.out.2 hb.size))
      clear hb
      have ct0 : w2.cell? ⟨w.heap.size, 0, none⟩ = some (.slice A n c) := (blk_cell Vt.out 0).trans rfl
      have ct1 : w2.cell? ⟨w.heap.size, 1, none⟩ = some (.slice B m d) := (blk_cell Vt.out 1).trans rfl
      have ct2 : w2.cell? ⟨w.heap.size, 2, none⟩ = some (.slice C k f) := (blk_cell Vt.out 2).trans rfl
      have ct3 : w2.cell? ⟨w.heap.size, 3, none⟩ = some (.int .i64 ce) := (blk_cell Vt.out 3).trans rfl
      have ct4 : w2.cell? ⟨w.heap.size, 4, none⟩ = some (.int .i64 re) := (blk_cell Vt.out 4).trans rfl
      have ct5 : w2.cell? ⟨w.heap.size, 5, none⟩ = some (.int .i64 pa) := (blk_cell Vt.out 5).trans rfl
      go_wp2_with fail
      refine (g1.out _).mono ?_
      rintro e w3 ⟨rfl, hb⟩
      clear ct0 ct1 ct2 ct3 ct4 ct5
      replace Vt := Lib.hid (blk_below Vt.out hb (blk_lt Vt.out))
      replace Vu := Lib.hid (blk_below Vu.out hb (blk_lt Vu.out))
      replace RX := Lib.hid (Es.below RX.out hb)
      replace RY := Lib.hid (Es.below RY.out hb)
      replace RZ := Lib.hid (Es.below RZ.out hb)
      replace RX2 := Lib.hid (Es.below RX2.out hb)
      replace RY2 := Lib.hid (Es.below RY2.out hb)
      replace RZ2 := Lib.hid (Es.below RZ2.out hb)
      replace HB := Lib.hid (And.intro (HB.out.1.trans (hb.mono HB.out.2)) (Nat.le_trans HB.out.2 hb.size))
      clear hb
      have cu0 : w3.cell? ⟨w.heap.size + 1, 0, none⟩ = some (.slice A2 n2 c2) := (blk_cell Vu.out 0).trans rfl
      have cu1 : w3.cell? ⟨w.heap.size + 1, 1, none⟩ = some (.slice B2 m2 d2) := (blk_cell Vu.out 1).trans rfl
      have cu2 : w3.cell? ⟨w.heap.size + 1, 2, none⟩ = some (.slice C2 k2 f2) := (blk_cell Vu.out 2).trans rfl
      have cu3 : w3.cell? ⟨w.heap.size + 1, 3, none⟩ = some (.int .i64 ce2) := (blk_cell Vu.out 3).trans rfl
      have cu4 : w3.cell? ⟨w.heap.size + 1, 4, none⟩ = some (.int .i64 re2) := (blk_cell Vu.out 4).trans rfl
      have cu5 : w3.cell? ⟨w.heap.size + 1, 5, none⟩ = some (.int .i64 pa2) := (blk_cell Vu.out 5).trans rfl
      go_wp2_with fail
      refine (g2.out _).mono ?_
      rintro e w4 ⟨rfl, hb⟩
      clear cu0 cu1 cu2 cu3 cu4 cu5
      replace Vt := Lib.hid (blk_below Vt.out hb (blk_lt Vt.out))
      replace Vu := Lib.hid (blk_below Vu.out hb (blk_lt Vu.out))
      replace RX := Lib.hid (Es.below RX.out hb)
      replace RY := Lib.hid (Es.below RY.out hb)
      replace RZ := Lib.hid (Es.below RZ.out hb)
      replace RX2 := Lib.hid (Es.below RX2.out hb)
      replace RY2 := Lib.hid (Es.below RY2.out hb)
      replace RZ2 := Lib.hid (Es.below RZ2.out hb)
      replace HB := Lib.hid (And.intro (HB.out.1.trans (hb.mono HB.out.2)) (Nat.le_trans HB.out.2 hb.size))
      clear hb
      have ct0 : w4.cell? ⟨w.heap.size, 0, none⟩ = some (.slice A n c) := (blk_cell Vt.out 0).trans rfl
      have ct1 : w4.cell? ⟨w.heap.size, 1, none⟩ = some (.slice B m d) := (blk_cell Vt.out 1).trans rfl
      have ct2 : w4.cell? ⟨w.heap.size, 2, none⟩ = some (.slice C k f) := (blk_cell Vt.out 2).trans rfl
      have ct3 : w4.cell? ⟨w.heap.size, 3, none⟩ = some (.int .i64 ce) := (blk_cell Vt.out 3).trans rfl
      have ct4 : w4.cell? ⟨w.heap.size, 4, none⟩ = some (.int .i64 re) := (blk_cell Vt.out 4).trans rfl
      have ct5 : w4.cell? ⟨w.heap.size, 5, none⟩ = some (.int .i64 pa) := (blk_cell Vt.out 5).trans rfl
      go_wp2_with fail
      refine (z1.out _ RX.out RY.out RZ.out).mono ?_
      rintro e w5 ⟨Xb, xb, yb, rfl, ownb, hb⟩
      clear ct0 ct1 ct2 ct3 ct4 ct5
      replace Vt := Lib.hid (blk_below Vt.out hb (blk_lt Vt.out))
      replace Vu := Lib.hid (blk_below Vu.out hb (blk_lt Vu.out))
      replace RX := Lib.hid (Es.below RX.out hb)
      replace RY := Lib.hid (Es.below RY.out hb)
      replace RZ := Lib.hid (Es.below RZ.out hb)
      replace RX2 := Lib.hid (Es.below RX2.out hb)
      replace RY2 := Lib.hid (Es.below RY2.out hb)
      replace RZ2 := Lib.hid (Es.below RZ2.out hb)
      replace HB := Lib.hid (And.intro (HB.out.1.trans (hb.mono HB.out.2)) (Nat.le_trans HB.out.2 hb.size))
      clear hb
      have Lb := Lib.hid (es_own8 ownb)
      clear ownb
      have ct0 : w5.cell? ⟨w.heap.size, 0, none⟩ = some (.slice A n c) := (blk_cell Vt.out 0).trans rfl
      have ct1 : w5.cell? ⟨w.heap.size, 1, none⟩ = some (.slice B m d) := (blk_cell Vt.out 1).trans rfl
      have ct2 : w5.cell? ⟨w.heap.size, 2, none⟩ = some (.slice C k f) := (blk_cell Vt.out 2).trans rfl
      have ct3 : w5.cell? ⟨w.heap.size, 3, none⟩ = some (.int .i64 ce) := (blk_cell Vt.out 3).trans rfl
      have ct4 : w5.cell? ⟨w.heap.size, 4, none⟩ = some (.int .i64 re) := (blk_cell Vt.out 4).trans rfl
      have ct5 : w5.cell? ⟨w.heap.size, 5, none⟩ = some (.int .i64 pa) := (blk_cell Vt.out 5).trans rfl
      go_wp2_with fail
      refine (z2.out _ RX.out RY.out RZ.out).mono ?_
      rintro e w6 ⟨Xc, xc, yc, rfl, ownc, hb⟩
      clear ct0 ct1 ct2 ct3 ct4 ct5
      replace Vt := Lib.hid (blk_below Vt.out hb (blk_lt Vt.out))
      replace Vu := Lib.hid (blk_below Vu.out hb (blk_lt Vu.out))
      replace RX := Lib.hid (Es.below RX.out hb)
      replace RY := Lib.hid (Es.below RY.out hb)
      replace RZ := Lib.hid (Es.below RZ.out hb)
      replace RX2 := Lib.hid (Es.below RX2.out hb)
      replace RY2 := Lib.hid (Es.below RY2.out hb)
      replace RZ2 := Lib.hid (Es.below RZ2.out hb)
      replace Lb := Lib.hid (Es.below Lb.out hb)
      replace HB := Lib.hid (And.intro (HB.out.1.trans (hb.mono HB.out.2)) (Nat.le_trans HB.out.2 hb.size))
      clear hb
      have Lc := Lib.hid (es_own8 ownc)
      clear ownc
      have ct0 : w6.cell? ⟨w.heap.size, 0, none⟩ = some (.slice A n c) := (blk_cell Vt.out 0).trans rfl
      have ct1 : w6.cell? ⟨w.heap.size, 1, none⟩ = some (.slice B m d) := (blk_cell Vt.out 1).trans rfl
      have ct2 : w6.cell? ⟨w.heap.size, 2, none⟩ = some (.slice C k f) := (blk_cell Vt.out 2).trans rfl
      have ct3 : w6.cell? ⟨w.heap.size, 3, none⟩ = some (.int .i64 ce) := (blk_cell Vt.out 3).trans rfl
      have ct4 : w6.cell? ⟨w.heap.size, 4, none⟩ = some (.int .i64 re) := (blk_cell Vt.out 4).trans rfl
      have ct5 : w6.cell? ⟨w.heap.size, 5, none⟩ = some (.int .i64 pa) := (blk_cell Vt.out 5).trans rfl
      have cu0 : w6.cell? ⟨w.heap.size + 1, 0, none⟩ = some (.slice A2 n2 c2) := (blk_cell Vu.out 0).trans rfl
      have cu1 : w6.cell? ⟨w.heap.size + 1, 1, none⟩ = some (.slice B2 m2 d2) := (blk_cell Vu.out 1).trans rfl
      have cu2 : w6.cell? ⟨w.heap.size + 1, 2, none⟩ = some (.slice C2 k2 f2) := (blk_cell Vu.out 2).trans rfl
      have cu3 : w6.cell? ⟨w.heap.size + 1, 3, none⟩ = some (.int .i64 ce2) := (blk_cell Vu.out 3).trans rfl
      have cu4 : w6.cell? ⟨w.heap.size + 1, 4, none⟩ = some (.int .i64 re2) := (blk_cell Vu.out 4).trans rfl
      have cu5 : w6.cell? ⟨w.heap.size + 1, 5, none⟩ = some (.int .i64 pa2) := (blk_cell Vu.out 5).trans rfl
      go_wp2
      refine wp_region_noPanic ?_
      refine wp_region_held_drew (S := (fun wv => Below w6.heap.size w6 wv)) (by kernel_rfl) ((Below.refl w6.heap.size w6).drew) (fun hS => ?_)
      refine wpAnyH_take (i := 0) (oi := ⟨some 29, .load 25 (.tmp 3), 25, "law.go:38", #[], none⟩) (v := .agg (([.slice A n c, .slice B m d, .slice C k f, .int .i64 ce, .int .i64 re, .int .i64 pa] : List Value)).toArray) rfl (by kernel_rfl) (by kernel_rfl) (by kernel_rfl) (fun _ _ _ h => h) (yieldsIf_load_mid (by rfl) _ _ (by rfl) (w.heap.size) (0) (by rfl) (([.slice A n c, .slice B m d, .slice C k f, .int .i64 ce, .int .i64 re, .int .i64 pa] : List Value)) _ (fun wv hS => blk_rngl (blk_below Vt.out hS (blk_lt Vt.out))) Try.underlying25 (by rfl) (by kernel_rfl)) hS ?_
      try simp only [Act.put, List.setIfInBounds_toArray, List.set_cons_zero, List.set_cons_succ]
      refine wpAnyH_take (i := 1) (oi := ⟨some 30, .move (.tmp 2), 3, "law.go:38", #[], none⟩) (v := ?_) rfl (by kernel_rfl) (by kernel_rfl) (by kernel_rfl) (fun _ _ _ h => h) (Or.inl ⟨by rfl, ?_⟩) hS ?_
      rotate_left
      · intro wv _; go_simp; try with_reducible rfl
      try simp only [Act.put, List.setIfInBounds_toArray, List.set_cons_zero, List.set_cons_succ]
      refine wpAnyH_take (i := 3) (oi := ⟨some 32, .load 25 (.tmp 3), 25, "law.go:38", #[], none⟩) (v := .agg (([.slice A n c, .slice B m d, .slice C k f, .int .i64 ce, .int .i64 re, .int .i64 pa] : List Value)).toArray) rfl (by kernel_rfl) (by kernel_rfl) (by kernel_rfl) (fun _ _ _ h => h) (yieldsIf_load_mid (by rfl) _ _ (by rfl) (w.heap.size) (0) (by rfl) (([.slice A n c, .slice B m d, .slice C k f, .int .i64 ce, .int .i64 re, .int .i64 pa] : List Value)) _ (fun wv hS => blk_rngl (blk_below Vt.out hS (blk_lt Vt.out))) Try.underlying25 (by rfl) (by kernel_rfl)) hS ?_
      try simp only [Act.put, List.setIfInBounds_toArray, List.set_cons_zero, List.set_cons_succ]
      refine wpAnyH_take (i := 4) (oi := ⟨some 33, .move (.tmp 2), 3, "law.go:38", #[], none⟩) (v := ?_) rfl (by kernel_rfl) (by kernel_rfl) (by kernel_rfl) (fun _ _ _ h => h) (Or.inl ⟨by rfl, ?_⟩) hS ?_
      rotate_left
      · intro wv _; go_simp; try with_reducible rfl
      try simp only [Act.put, List.setIfInBounds_toArray, List.set_cons_zero, List.set_cons_succ]
      refine wpAnyH_ready (rs := [2]) (by kernel_rfl) (by simp) (AllReadyH.cons (o := ⟨some 31, .call { callee := .value (.func 11), args := #[.tmp 29, .tmp 30], argTypes := #[25, 3] }, 4, "law.go:38", #[⟨0, .data⟩, ⟨1, .data⟩], none⟩) rfl (fun K hK => ?_) AllReadyH.nil)
      go_simp
      refine (z3.out _ (Es.below RX.out hS) (Es.below RY.out hS) (Es.below RZ.out hS)).mono ?_; rintro e u2 ⟨rfl, hb⟩
      replace hS := hS.trans (hb.mono hS.size)
      clear hb
      go_wp2_with fail
      refine Shut.out hK _ _ hS (fun _ => ?_)
      clear hK K
      try simp only [Act.put, List.setIfInBounds_toArray, List.set_cons_zero, List.set_cons_succ]
      refine wpAnyH_ready (rs := [5]) (by kernel_rfl) (by simp) (AllReadyH.cons (o := ⟨some 34, .call { callee := .value (.func 12), args := #[.tmp 32, .tmp 33], argTypes := #[25, 3] }, 4, "law.go:38", #[⟨3, .data⟩, ⟨4, .data⟩, ⟨2, .chain⟩], none⟩) rfl (fun K hK => ?_) AllReadyH.nil)
      go_simp
      refine (z4.out _ (Es.below RX.out hS) (Es.below RY.out hS) (Es.below RZ.out hS)).mono ?_; rintro e u5 ⟨rfl, hb⟩
      replace hS := hS.trans (hb.mono hS.size)
      clear hb
      go_wp2_with fail
      refine Shut.out hK _ _ hS (fun _ => ?_)
      clear hK K
      try simp only [Act.put, List.setIfInBounds_toArray, List.set_cons_zero, List.set_cons_succ]
      refine wpAnyH_take (i := 6) (oi := ⟨some 35, .binOp .eql 4 (.tmp 31) (.tmp 34) 4, 4, "law.go:38", #[⟨2, .data⟩, ⟨5, .data⟩], none⟩) (v := ?_) rfl (by kernel_rfl) (by kernel_rfl) (by kernel_rfl) (fun _ _ _ h => h) (Or.inl ⟨by rfl, ?_⟩) hS ?_
      rotate_left
      · intro wv _; go_simp; try with_reducible rfl
      try simp only [Act.put, List.setIfInBounds_toArray, List.set_cons_zero, List.set_cons_succ]
      refine wpAnyH_take (i := 7) (oi := ⟨some 36, .move (.tmp 35), 4, "law.go:38", #[⟨6, .data⟩, ⟨5, .chain⟩], none⟩) (v := ?_) rfl (by kernel_rfl) (by kernel_rfl) (by kernel_rfl) (fun _ _ _ h => h) (Or.inl ⟨by rfl, ?_⟩) hS ?_
      rotate_left
      · intro wv _; go_simp; try with_reducible rfl
      try simp only [Act.put, List.setIfInBounds_toArray, List.set_cons_zero, List.set_cons_succ]
      refine wpAnyH_take (i := 8) (oi := ⟨some 37, .load 25 (.tmp 3), 25, "law.go:38", #[⟨7, .guard⟩], some (7, true)⟩) (v := .agg (([.slice A n c, .slice B m d, .slice C k f, .int .i64 ce, .int .i64 re, .int .i64 pa] : List Value)).toArray) rfl (by kernel_rfl) (by kernel_rfl) (by kernel_rfl) (fun _ _ _ h => h) (yieldsIf_load_mid (by rfl) _ _ (by rfl) (w.heap.size) (0) (by rfl) (([.slice A n c, .slice B m d, .slice C k f, .int .i64 ce, .int .i64 re, .int .i64 pa] : List Value)) _ (fun wv hS => blk_rngl (blk_below Vt.out hS (blk_lt Vt.out))) Try.underlying25 (by rfl) (by kernel_rfl)) hS ?_
      try simp only [Act.put, List.setIfInBounds_toArray, List.set_cons_zero, List.set_cons_succ]
      refine wpAnyH_take (i := 10) (oi := ⟨some 39, .load 25 (.tmp 3), 25, "law.go:38", #[⟨7, .guard⟩], some (7, true)⟩) (v := .agg (([.slice A n c, .slice B m d, .slice C k f, .int .i64 ce, .int .i64 re, .int .i64 pa] : List Value)).toArray) rfl (by kernel_rfl) (by kernel_rfl) (by kernel_rfl) (fun _ _ _ h => h) (yieldsIf_load_mid (by rfl) _ _ (by rfl) (w.heap.size) (0) (by rfl) (([.slice A n c, .slice B m d, .slice C k f, .int .i64 ce, .int .i64 re, .int .i64 pa] : List Value)) _ (fun wv hS => blk_rngl (blk_below Vt.out hS (blk_lt Vt.out))) Try.underlying25 (by rfl) (by kernel_rfl)) hS ?_
      try simp only [Act.put, List.setIfInBounds_toArray, List.set_cons_zero, List.set_cons_succ]
      refine wpAnyH_ready (rs := [9]) (by kernel_rfl) (by simp) (AllReadyH.cons (o := ⟨some 38, .call { callee := .value (.func 13), args := #[.tmp 37], argTypes := #[25] }, 4, "law.go:38", #[⟨8, .data⟩, ⟨7, .chain⟩, ⟨7, .guard⟩], some (7, true)⟩) rfl (fun K hK => ?_) AllReadyH.nil)
      go_simp
      refine (z5.out _ (Es.below RX.out hS) (Es.below RY.out hS) (Es.below RZ.out hS)).mono ?_; rintro e u9 ⟨rfl, hb⟩
      replace hS := hS.trans (hb.mono hS.size)
      clear hb
      go_wp2_with fail
      refine Shut.out hK _ _ hS (fun _ => ?_)
      clear hK K
      try simp only [Act.put, List.setIfInBounds_toArray, List.set_cons_zero, List.set_cons_succ]
      refine wpAnyH_ready (rs := [11]) (by kernel_rfl) (by simp) (AllReadyH.cons (o := ⟨some 40, .call { callee := .value (.func 14), args := #[.tmp 39], argTypes := #[25] }, 4, "law.go:38", #[⟨10, .data⟩, ⟨9, .chain⟩, ⟨7, .guard⟩], some (7, true)⟩) rfl (fun K hK => ?_) AllReadyH.nil)
      go_simp
      refine (z6.out _ (Es.below RX.out hS) (Es.below RY.out hS) (Es.below RZ.out hS)).mono ?_; rintro e u11 ⟨rfl, hb⟩
      replace hS := hS.trans (hb.mono hS.size)
      clear hb
      go_wp2_with fail
      refine Shut.out hK _ _ hS (fun _ => ?_)
      clear hK K
      try simp only [Act.put, List.setIfInBounds_toArray, List.set_cons_zero, List.set_cons_succ]
      refine wpAnyH_take (i := 12) (oi := ⟨some 41, .binOp .eql 4 (.tmp 38) (.tmp 40) 4, 4, "law.go:38", #[⟨9, .data⟩, ⟨11, .data⟩, ⟨7, .guard⟩], some (7, true)⟩) (v := ?_) rfl (by kernel_rfl) (by kernel_rfl) (by kernel_rfl) (fun _ _ _ h => h) (Or.inl ⟨by rfl, ?_⟩) hS ?_
      rotate_left
      · intro wv _; go_simp; try with_reducible rfl
      try simp only [Act.put, List.setIfInBounds_toArray, List.set_cons_zero, List.set_cons_succ]
      refine wpAnyH_take (i := 13) (oi := ⟨some 42, .pick (.tmp 36) (.tmp 41) (.const (Value.bool false)), 4, "law.go:38", #[⟨7, .data⟩, ⟨12, .data⟩], none⟩) (v := ?_) rfl (by kernel_rfl) (by kernel_rfl) (by kernel_rfl) (fun _ _ _ h => h) (Or.inl ⟨by rfl, ?_⟩) hS ?_
      rotate_left
      · intro wv _; go_simp; try with_reducible rfl
      try simp only [Act.put, List.setIfInBounds_toArray, List.set_cons_zero, List.set_cons_succ]
      refine wpAnyH_take (i := 14) (oi := ⟨some 43, .move (.tmp 42), 4, "law.go:38", #[⟨13, .data⟩, ⟨11, .chain⟩], none⟩) (v := ?_) rfl (by kernel_rfl) (by kernel_rfl) (by kernel_rfl) (fun _ _ _ h => h) (Or.inl ⟨by rfl, ?_⟩) hS ?_
      rotate_left
      · intro wv _; go_simp; try with_reducible rfl
      try simp only [Act.put, List.setIfInBounds_toArray, List.set_cons_zero, List.set_cons_succ]
      refine wpAnyH_take (i := 15) (oi := ⟨some 44, .move (.tmp 7), 28, "law.go:38", #[⟨14, .guard⟩], some (14, true)⟩) (v := ?_) rfl (by kernel_rfl) (by kernel_rfl) (by kernel_rfl) (fun _ _ _ h => h) (Or.inl ⟨by rfl, ?_⟩) hS ?_
      rotate_left
      · intro wv _; go_simp; try with_reducible rfl
      try simp only [Act.put, List.setIfInBounds_toArray, List.set_cons_zero, List.set_cons_succ]
      refine wpAnyH_take (i := 16) (oi := ⟨some 45, .convert 28 9 (.tmp 44), 9, "law.go:38", #[⟨15, .data⟩, ⟨14, .guard⟩], some (14, true)⟩) (v := ?_) rfl (by kernel_rfl) (by kernel_rfl) (by kernel_rfl) (fun _ _ _ h => h) (Or.inl ⟨by rfl, ?_⟩) hS ?_
      rotate_left
      · intro wv hS; have hrun := (Bs.text (bs_es (Es.below Lb.out hS) HBY.out)); go_simp; try with_reducible rfl
      try simp only [Act.put, List.setIfInBounds_toArray, List.set_cons_zero, List.set_cons_succ]
      refine wpAnyH_take (i := 17) (oi := ⟨some 46, .move (.tmp 9), 28, "law.go:38", #[⟨14, .guard⟩], some (14, true)⟩) (v := ?_) rfl (by kernel_rfl) (by kernel_rfl) (by kernel_rfl) (fun _ _ _ h => h) (Or.inl ⟨by rfl, ?_⟩) hS ?_
      rotate_left
      · intro wv _; go_simp; try with_reducible rfl
      try simp only [Act.put, List.setIfInBounds_toArray, List.set_cons_zero, List.set_cons_succ]
      refine wpAnyH_take (i := 18) (oi := ⟨some 47, .convert 28 9 (.tmp 46), 9, "law.go:38", #[⟨17, .data⟩, ⟨14, .guard⟩], some (14, true)⟩) (v := ?_) rfl (by kernel_rfl) (by kernel_rfl) (by kernel_rfl) (fun _ _ _ h => h) (Or.inl ⟨by rfl, ?_⟩) hS ?_
      rotate_left
      · intro wv hS; have hrun := (Bs.text (bs_es (Es.below Lc.out hS) HBY.out)); go_simp; try with_reducible rfl
      try simp only [Act.put, List.setIfInBounds_toArray, List.set_cons_zero, List.set_cons_succ]
      refine wpAnyH_take (i := 19) (oi := ⟨some 48, .binOp .eql 9 (.tmp 45) (.tmp 47) 9, 4, "law.go:38", #[⟨16, .data⟩, ⟨18, .data⟩, ⟨14, .guard⟩], some (14, true)⟩) (v := ?_) rfl (by kernel_rfl) (by kernel_rfl) (by kernel_rfl) (fun _ _ _ h => h) (Or.inl ⟨by rfl, ?_⟩) hS ?_
      rotate_left
      · intro wv _; go_simp; try with_reducible rfl
      try simp only [Act.put, List.setIfInBounds_toArray, List.set_cons_zero, List.set_cons_succ]
      refine wpAnyH_take (i := 20) (oi := ⟨some 49, .pick (.tmp 43) (.tmp 48) (.const (Value.bool false)), 4, "law.go:38", #[⟨14, .data⟩, ⟨19, .data⟩], none⟩) (v := ?_) rfl (by kernel_rfl) (by kernel_rfl) (by kernel_rfl) (fun _ _ _ h => h) (Or.inl ⟨by rfl, ?_⟩) hS ?_
      rotate_left
      · intro wv _; go_simp; try with_reducible rfl
      try simp only [Act.put, List.setIfInBounds_toArray, List.set_cons_zero, List.set_cons_succ]
      refine wpAnyH_take (i := 21) (oi := ⟨some 50, .move (.tmp 49), 4, "law.go:38", #[⟨20, .data⟩, ⟨14, .chain⟩], none⟩) (v := ?_) rfl (by kernel_rfl) (by kernel_rfl) (by kernel_rfl) (fun _ _ _ h => h) (Or.inl ⟨by rfl, ?_⟩) hS ?_
      rotate_left
      · intro wv _; go_simp; try with_reducible rfl
      try simp only [Act.put, List.setIfInBounds_toArray, List.set_cons_zero, List.set_cons_succ]
      refine wpAnyH_take (i := 22) (oi := ⟨some 51, .move (.tmp 8), 29, "law.go:38", #[⟨21, .guard⟩], some (21, true)⟩) (v := ?_) rfl (by kernel_rfl) (by kernel_rfl) (by kernel_rfl) (fun _ _ _ h => h) (Or.inl ⟨by rfl, ?_⟩) hS ?_
      rotate_left
      · intro wv _; go_simp; try with_reducible rfl
      try simp only [Act.put, List.setIfInBounds_toArray, List.set_cons_zero, List.set_cons_succ]
      refine wpAnyH_take (i := 23) (oi := ⟨some 52, .move (.tmp 10), 29, "law.go:38", #[⟨21, .guard⟩], some (21, true)⟩) (v := ?_) rfl (by kernel_rfl) (by kernel_rfl) (by kernel_rfl) (fun _ _ _ h => h) (Or.inl ⟨by rfl, ?_⟩) hS ?_
      rotate_left
      · intro wv _; go_simp; try with_reducible rfl
      try simp only [Act.put, List.setIfInBounds_toArray, List.set_cons_zero, List.set_cons_succ]
      refine wpAnyH_take (i := 24) (oi := ⟨some 53, .binOp .eql 29 (.tmp 51) (.tmp 52) 29, 4, "law.go:38", #[⟨22, .data⟩, ⟨23, .data⟩, ⟨21, .guard⟩], some (21, true)⟩) (v := ?_) rfl (by kernel_rfl) (by kernel_rfl) (by kernel_rfl) (fun _ _ _ h => h) (Or.inl ⟨by rfl, ?_⟩) hS ?_
      rotate_left
      · intro wv _; go_simp; try with_reducible rfl
      try simp only [Act.put, List.setIfInBounds_toArray, List.set_cons_zero, List.set_cons_succ]
      refine wpAnyH_take (i := 25) (oi := ⟨some 54, .pick (.tmp 50) (.tmp 53) (.const (Value.bool false)), 4, "law.go:38", #[⟨21, .data⟩, ⟨24, .data⟩], none⟩) (v := ?_) rfl (by kernel_rfl) (by kernel_rfl) (by kernel_rfl) (fun _ _ _ h => h) (Or.inl ⟨by rfl, ?_⟩) hS ?_
      rotate_left
      · intro wv _; go_simp; try with_reducible rfl
      try simp only [Act.put, List.setIfInBounds_toArray, List.set_cons_zero, List.set_cons_succ]
      refine wpAnyH_take (i := 26) (oi := ⟨some 55, .move (.tmp 54), 4, "law.go:38", #[⟨25, .data⟩, ⟨21, .chain⟩], none⟩) (v := ?_) rfl (by kernel_rfl) (by kernel_rfl) (by kernel_rfl) (fun _ _ _ h => h) (Or.inl ⟨by rfl, ?_⟩) hS ?_
      rotate_left
      · intro wv _; go_simp; try with_reducible rfl
      try simp only [Act.put, List.setIfInBounds_toArray, List.set_cons_zero, List.set_cons_succ]
      refine wpAnyH_take (i := 27) (oi := ⟨some 56, .load 25 (.tmp 3), 25, "law.go:38", #[⟨26, .guard⟩], some (26, true)⟩) (v := .agg (([.slice A n c, .slice B m d, .slice C k f, .int .i64 ce, .int .i64 re, .int .i64 pa] : List Value)).toArray) rfl (by kernel_rfl) (by kernel_rfl) (by kernel_rfl) (fun _ _ _ h => h) (yieldsIf_load_mid (by rfl) _ _ (by rfl) (w.heap.size) (0) (by rfl) (([.slice A n c, .slice B m d, .slice C k f, .int .i64 ce, .int .i64 re, .int .i64 pa] : List Value)) _ (fun wv hS => blk_rngl (blk_below Vt.out hS (blk_lt Vt.out))) Try.underlying25 (by rfl) (by kernel_rfl)) hS ?_
      try simp only [Act.put, List.setIfInBounds_toArray, List.set_cons_zero, List.set_cons_succ]
      refine wpAnyH_take (i := 28) (oi := ⟨some 57, .load 25 (.tmp 4), 25, "law.go:38", #[⟨26, .guard⟩], some (26, true)⟩) (v := .agg (([.slice A2 n2 c2, .slice B2 m2 d2, .slice C2 k2 f2, .int .i64 ce2, .int .i64 re2, .int .i64 pa2] : List Value)).toArray) rfl (by kernel_rfl) (by kernel_rfl) (by kernel_rfl) (fun _ _ _ h => h) (yieldsIf_load_mid (by rfl) _ _ (by rfl) (w.heap.size + 1) (0) (by rfl) (([.slice A2 n2 c2, .slice B2 m2 d2, .slice C2 k2 f2, .int .i64 ce2, .int .i64 re2, .int .i64 pa2] : List Value)) _ (fun wv hS => blk_rngl (blk_below Vu.out hS (blk_lt Vu.out))) Try.underlying25 (by rfl) (by kernel_rfl)) hS ?_
      try simp only [Act.put, List.setIfInBounds_toArray, List.set_cons_zero, List.set_cons_succ]
      refine wpAnyH_take (i := 30) (oi := ⟨some 59, .load 25 (.tmp 3), 25, "law.go:38", #[⟨26, .guard⟩], some (26, true)⟩) (v := .agg (([.slice A n c, .slice B m d, .slice C k f, .int .i64 ce, .int .i64 re, .int .i64 pa] : List Value)).toArray) rfl (by kernel_rfl) (by kernel_rfl) (by kernel_rfl) (fun _ _ _ h => h) (yieldsIf_load_mid (by rfl) _ _ (by rfl) (w.heap.size) (0) (by rfl) (([.slice A n c, .slice B m d, .slice C k f, .int .i64 ce, .int .i64 re, .int .i64 pa] : List Value)) _ (fun wv hS => blk_rngl (blk_below Vt.out hS (blk_lt Vt.out))) Try.underlying25 (by rfl) (by kernel_rfl)) hS ?_
      try simp only [Act.put, List.setIfInBounds_toArray, List.set_cons_zero, List.set_cons_succ]
      refine wpAnyH_take (i := 31) (oi := ⟨some 60, .load 25 (.tmp 4), 25, "law.go:38", #[⟨26, .guard⟩], some (26, true)⟩) (v := .agg (([.slice A2 n2 c2, .slice B2 m2 d2, .slice C2 k2 f2, .int .i64 ce2, .int .i64 re2, .int .i64 pa2] : List Value)).toArray) rfl (by kernel_rfl) (by kernel_rfl) (by kernel_rfl) (fun _ _ _ h => h) (yieldsIf_load_mid (by rfl) _ _ (by rfl) (w.heap.size + 1) (0) (by rfl) (([.slice A2 n2 c2, .slice B2 m2 d2, .slice C2 k2 f2, .int .i64 ce2, .int .i64 re2, .int .i64 pa2] : List Value)) _ (fun wv hS => blk_rngl (blk_below Vu.out hS (blk_lt Vu.out))) Try.underlying25 (by rfl) (by kernel_rfl)) hS ?_
      try simp only [Act.put, List.setIfInBounds_toArray, List.set_cons_zero, List.set_cons_succ]
      refine wpAnyH_ready (rs := [29]) (by kernel_rfl) (by simp) (AllReadyH.cons (o := ⟨some 58, .call { callee := .value (.func 15), args := #[.tmp 56, .tmp 57], argTypes := #[25, 25] }, 4, "law.go:38", #[⟨27, .data⟩, ⟨28, .data⟩, ⟨26, .chain⟩, ⟨26, .guard⟩], some (26, true)⟩) rfl (fun K hK => ?_) AllReadyH.nil)
      go_simp
      refine (z7.out _ (Es.below RX.out hS) (Es.below RY.out hS) (Es.below RZ.out hS) (Es.below RX2.out hS) (Es.below RY2.out hS) (Es.below RZ2.out hS)).mono ?_; rintro e u29 ⟨rfl, hb⟩
      replace hS := hS.trans (hb.mono hS.size)
      clear hb
      go_wp2_with fail
      refine Shut.out hK _ _ hS (fun _ => ?_)
      clear hK K
      try simp only [Act.put, List.setIfInBounds_toArray, List.set_cons_zero, List.set_cons_succ]
      refine wpAnyH_ready (rs := [32]) (by kernel_rfl) (by simp) (AllReadyH.cons (o := ⟨some 61, .call { callee := .value (.func 16), args := #[.tmp 59, .tmp 60], argTypes := #[25, 25] }, 4, "law.go:38", #[⟨30, .data⟩, ⟨31, .data⟩, ⟨29, .chain⟩, ⟨26, .guard⟩], some (26, true)⟩) rfl (fun K hK => ?_) AllReadyH.nil)
      go_simp
      refine (z8.out _ (Es.below RX.out hS) (Es.below RY.out hS) (Es.below RZ.out hS) (Es.below RX2.out hS) (Es.below RY2.out hS) (Es.below RZ2.out hS)).mono ?_; rintro e u32 ⟨rfl, hb⟩
      replace hS := hS.trans (hb.mono hS.size)
      clear hb
      go_wp2_with fail
      refine Shut.out hK _ _ hS (fun _ => ?_)
      clear hK K
      try simp only [Act.put, List.setIfInBounds_toArray, List.set_cons_zero, List.set_cons_succ]
      refine wpAnyH_take (i := 33) (oi := ⟨some 62, .binOp .eql 4 (.tmp 58) (.tmp 61) 4, 4, "law.go:38", #[⟨29, .data⟩, ⟨32, .data⟩, ⟨26, .guard⟩], some (26, true)⟩) (v := ?_) rfl (by kernel_rfl) (by kernel_rfl) (by kernel_rfl) (fun _ _ _ h => h) (Or.inl ⟨by rfl, ?_⟩) hS ?_
      rotate_left
      · intro wv _; go_simp; try with_reducible rfl
      try simp only [Act.put, List.setIfInBounds_toArray, List.set_cons_zero, List.set_cons_succ]
      refine wpAnyH_take (i := 34) (oi := ⟨some 63, .pick (.tmp 55) (.tmp 62) (.const (Value.bool false)), 4, "law.go:38", #[⟨26, .data⟩, ⟨33, .data⟩], none⟩) (v := ?_) rfl (by kernel_rfl) (by kernel_rfl) (by kernel_rfl) (fun _ _ _ h => h) (Or.inl ⟨by rfl, ?_⟩) hS ?_
      rotate_left
      · intro wv _; go_simp; try with_reducible rfl
      try simp only [Act.put, List.setIfInBounds_toArray, List.set_cons_zero, List.set_cons_succ]
      refine wpAnyH_take (i := 35) (oi := ⟨some 64, .move (.tmp 63), 4, "law.go:38", #[⟨34, .data⟩, ⟨32, .chain⟩], none⟩) (v := ?_) rfl (by kernel_rfl) (by kernel_rfl) (by kernel_rfl) (fun _ _ _ h => h) (Or.inl ⟨by rfl, ?_⟩) hS ?_
      rotate_left
      · intro wv _; go_simp; try with_reducible rfl
      try simp only [Act.put, List.setIfInBounds_toArray, List.set_cons_zero, List.set_cons_succ]
      refine wpAnyH_take (i := 36) (oi := ⟨some 65, .load 25 (.tmp 3), 25, "law.go:38", #[⟨35, .guard⟩], some (35, true)⟩) (v := .agg (([.slice A n c, .slice B m d, .slice C k f, .int .i64 ce, .int .i64 re, .int .i64 pa] : List Value)).toArray) rfl (by kernel_rfl) (by kernel_rfl) (by kernel_rfl) (fun _ _ _ h => h) (yieldsIf_load_mid (by rfl) _ _ (by rfl) (w.heap.size) (0) (by rfl) (([.slice A n c, .slice B m d, .slice C k f, .int .i64 ce, .int .i64 re, .int .i64 pa] : List Value)) _ (fun wv hS => blk_rngl (blk_below Vt.out hS (blk_lt Vt.out))) Try.underlying25 (by rfl) (by kernel_rfl)) hS ?_
      try simp only [Act.put, List.setIfInBounds_toArray, List.set_cons_zero, List.set_cons_succ]
      refine wpAnyH_take (i := 37) (oi := ⟨some 66, .load 25 (.tmp 3), 25, "law.go:38", #[⟨35, .guard⟩], some (35, true)⟩) (v := .agg (([.slice A n c, .slice B m d, .slice C k f, .int .i64 ce, .int .i64 re, .int .i64 pa] : List Value)).toArray) rfl (by kernel_rfl) (by kernel_rfl) (by kernel_rfl) (fun _ _ _ h => h) (yieldsIf_load_mid (by rfl) _ _ (by rfl) (w.heap.size) (0) (by rfl) (([.slice A n c, .slice B m d, .slice C k f, .int .i64 ce, .int .i64 re, .int .i64 pa] : List Value)) _ (fun wv hS => blk_rngl (blk_below Vt.out hS (blk_lt Vt.out))) Try.underlying25 (by rfl) (by kernel_rfl)) hS ?_
      try simp only [Act.put, List.setIfInBounds_toArray, List.set_cons_zero, List.set_cons_succ]
      refine wpAnyH_ready (rs := [38]) (by kernel_rfl) (by simp) (AllReadyH.cons (o := ⟨some 67, .call { callee := .value (.func 15), args := #[.tmp 65, .tmp 66], argTypes := #[25, 25] }, 4, "law.go:38", #[⟨36, .data⟩, ⟨37, .data⟩, ⟨35, .chain⟩, ⟨35, .guard⟩], some (35, true)⟩) rfl (fun K hK => ?_) AllReadyH.nil)
      go_simp
      refine (z9.out _ (Es.below RX.out hS) (Es.below RY.out hS) (Es.below RZ.out hS)).mono ?_; rintro e u38 ⟨rfl, hb⟩
      replace hS := hS.trans (hb.mono hS.size)
      clear hb
      go_wp2_with fail
      refine Shut.out hK _ _ hS (fun _ => ?_)
      clear hK K
      try simp only [Act.put, List.setIfInBounds_toArray, List.set_cons_zero, List.set_cons_succ]
      refine wpAnyH_take (i := 39) (oi := ⟨some 68, .pick (.tmp 64) (.tmp 67) (.const (Value.bool false)), 4, "law.go:38", #[⟨35, .data⟩, ⟨38, .data⟩], none⟩) (v := ?_) rfl (by kernel_rfl) (by kernel_rfl) (by kernel_rfl) (fun _ _ _ h => h) (Or.inl ⟨by rfl, ?_⟩) hS ?_
      rotate_left
      · intro wv _; go_simp; try with_reducible rfl
      try simp only [Act.put, List.setIfInBounds_toArray, List.set_cons_zero, List.set_cons_succ]
      refine wpAnyH_take (i := 40) (oi := ⟨some 6, .assign (.tmp 68), 4, "law.go:38", #[⟨39, .data⟩, ⟨38, .chain⟩, ⟨0, .phase⟩, ⟨1, .phase⟩, ⟨2, .phase⟩, ⟨3, .phase⟩, ⟨4, .phase⟩, ⟨5, .phase⟩, ⟨6, .phase⟩, ⟨7, .phase⟩, ⟨8, .phase⟩, ⟨9, .phase⟩, ⟨10, .phase⟩, ⟨11, .phase⟩, ⟨12, .phase⟩, ⟨13, .phase⟩, ⟨14, .phase⟩, ⟨15, .phase⟩, ⟨16, .phase⟩, ⟨17, .phase⟩, ⟨18, .phase⟩, ⟨19, .phase⟩, ⟨20, .phase⟩, ⟨21, .phase⟩, ⟨22, .phase⟩, ⟨23, .phase⟩, ⟨24, .phase⟩, ⟨25, .phase⟩, ⟨26, .phase⟩, ⟨27, .phase⟩, ⟨28, .phase⟩, ⟨29, .phase⟩, ⟨30, .phase⟩, ⟨31, .phase⟩, ⟨32, .phase⟩, ⟨33, .phase⟩, ⟨34, .phase⟩, ⟨35, .phase⟩, ⟨36, .phase⟩, ⟨37, .phase⟩, ⟨38, .phase⟩, ⟨39, .phase⟩], none⟩) (v := ?_) rfl (by kernel_rfl) (by kernel_rfl) (by kernel_rfl) (fun _ _ _ h => h) (Or.inl ⟨by rfl, ?_⟩) hS ?_
      rotate_left
      · intro wv _; go_simp; try with_reducible rfl
      try simp only [Act.put, List.setIfInBounds_toArray, List.set_cons_zero, List.set_cons_succ]
      refine wpAnyH_done (by kernel_rfl) ?_ _
      refine NoPanic.normal ?_
      go_wp2
      go_ret
      exact ⟨rfl, HB.out.1.trans (hS.mono HB.out.2)⟩
end Go.Proofs.Ytkoodhnfphmbnaa
