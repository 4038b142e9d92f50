/- The walk of CodeBack: it answers true, over any world; no condition. -/
import Derived.Test.YtkoodhnfphmbnaaCodT
namespace Go.Proofs.Ytkoodhnfphmbnaa
set_option linter.unusedVariables false
set_option linter.unusedSimpArgs false
open Go.RowKit
theorem str_take {a l : List Int} : (a ++ l).take a.length = a := by simp
theorem bytesN_len : ∀ (l : List Int), (∀ y ∈ l, B64 y) → (bytesN l).length ≤ 10 * l.length
  | [], _ => Nat.le_refl _
  | y :: l, h => by
    have h1 := vs_le10 (zig y).toNat (zig_nat (h y (by simp))).2
    have h2 := bytesN_len l (fun z hz => h z (by simp [hz]))
    simp only [bytesN, List.length_append, List.length_cons, vb_len]
    omega
theorem own_bs {w : World} {base n d : Nat} {B : Option Addr} {l : List Int} (h : w.ownsRow base 5 1 (.slice B n d) n (l.map (Value.int .u8))) (hb : ∀ b ∈ l, 0 ≤ b ∧ b ≤ 255) : Bs w B n d l := bs_es (es_own8 h) hb
set_option maxRecDepth 100000 in
set_option maxHeartbeats 8000000 in
theorem back13_walk (A : Option Addr) (n c : Nat) (B : Option Addr) (m d : Nat) (C : Option Addr) (k f : Nat) (co : List I4) (ki si : List Int) (ce re pa : Int) (Ea : Option Addr) (ua va : Nat) (al : List Int) (Eb : Option Addr) (ub vb_ : Nat) (bs : List Int) (w : World) (hx : I4s w A n c co) (hy : Is w B m d ki) (hz : Is w C k f si) (hpb : PB ⟨co, ki, si, ce, re, pa⟩) (ha : Bs w Ea ua va al) (hb0 : Bs w Eb ub vb_ bs) :
    Calls Try.prog 5 #[.agg #[.slice A n c, .slice B m d, .slice C k f, .int .i64 ce, .int .i64 re, .int .i64 pa], .slice Ea ua va, .slice Eb ub vb_] w fun e w' => e = .returned (.bool true) ∧ Below w.heap.size w w' := by
  have RX := Lib.hid hx; have RY := Lib.hid hy; have RZ := Lib.hid hz; have RA := Lib.hid ha; have RB := Lib.hid hb0
  have hlen := hx.len; have hlm : ki.length = m := Is.len hy; have hlk : si.length = k := Is.len hz
  have hla : al.length = ua := ha.len
  have hlb : bs.length = ub := hb0.len
  have BYA := Lib.hid ha.byte; have BYB := Lib.hid hb0.byte
  clear hx hy hz ha hb0
  have HB := Lib.hid (And.intro (Below.refl w.heap.size w) (Nat.le_refl w.heap.size))
  have gq := HB.out.2
  obtain ⟨w1, hw1⟩ : ∃ W, (w.alloc (.cells #[.slice A n c, .slice B m d, .slice C k f, .int .i64 ce, .int .i64 re, .int .i64 pa] 25)) = W := ⟨_, rfl⟩
  have hb : Below w.heap.size w w1 := hw1 ▸ ((Below.refl _ _).alloc (Nat.le_refl _) _)
  have hv0 : w1.heap[w.heap.size]? = some (.cells #[.slice A n c, .slice B m d, .slice C k f, .int .i64 ce, .int .i64 re, .int .i64 pa] 25) := by
    have h0 := heap_alloc_new w (.cells #[.slice A n c, .slice B m d, .slice C k f, .int .i64 ce, .int .i64 re, .int .i64 pa] 25)
    rw [show w.heap.size = w.heap.size by simp [Nat.add_assoc]] at h0
    rw [← hw1]
    exact h0
  replace RX := Lib.hid (Es.below RX.out hb)
  replace RY := Lib.hid (Es.below RY.out hb)
  replace RZ := Lib.hid (Es.below RZ.out hb)
  replace HB := Lib.hid (And.intro (HB.out.1.trans (hb.mono HB.out.2)) (Nat.le_trans HB.out.2 hb.size))
  have Vt := Lib.hid hv0
  have get := gq
  generalize hst : w.heap.size = st at *
  clear hb gq hv0
  subst hst
  have g1 := fun (W : World) => great13_any A n c B m d C k f co ki si ce re pa W
  by_cases h1 : 61 < n ∨ 20 < m ∨ 20 < k
  · rw [decide_eq_true h1] at g1
    replace g1 := Lib.hid g1
    clear h1
    go_enter Try.func5, Try.ntmps5
    go_wp2_with fail
    refine (alive13 _).mono ?_
    rintro e w2 ⟨rfl, hb⟩
    replace Vt := Lib.hid (blk_below Vt.out hb (blk_lt Vt.out))
    replace RX := Lib.hid (Es.below RX.out hb)
    replace RY := Lib.hid (Es.below RY.out hb)
    replace RZ := Lib.hid (Es.below RZ.out hb)
    replace HB := Lib.hid (And.intro (HB.out.1.trans (hb.mono HB.out.2)) (Nat.le_trans HB.out.2 hb.size))
    clear hb
    have ct0 : w2.cell? ⟨w.heap.size, 0, none⟩ = some (.slice A n c) := (blk_cell Vt.out 0).trans rfl
    have ct1 : w2.cell? ⟨w.heap.size, 1, none⟩ = some (.slice B m d) := (blk_cell Vt.out 1).trans rfl
    have ct2 : w2.cell? ⟨w.heap.size, 2, none⟩ = some (.slice C k f) := (blk_cell Vt.out 2).trans rfl
    have ct3 : w2.cell? ⟨w.heap.size, 3, none⟩ = some (.int .i64 ce) := (blk_cell Vt.out 3).trans rfl
    have ct4 : w2.cell? ⟨w.heap.size, 4, none⟩ = some (.int .i64 re) := (blk_cell Vt.out 4).trans rfl
    have ct5 : w2.cell? ⟨w.heap.size, 5, none⟩ = some (.int .i64 pa) := (blk_cell Vt.out 5).trans rfl
    go_wp2_with fail
    refine (g1.out _).mono ?_
    rintro e w3 ⟨rfl, hb⟩
    clear ct0 ct1 ct2 ct3 ct4 ct5
    replace Vt := Lib.hid (blk_below Vt.out hb (blk_lt Vt.out))
    replace RX := Lib.hid (Es.below RX.out hb)
    replace RY := Lib.hid (Es.below RY.out hb)
    replace RZ := Lib.hid (Es.below RZ.out hb)
    replace HB := Lib.hid (And.intro (HB.out.1.trans (hb.mono HB.out.2)) (Nat.le_trans HB.out.2 hb.size))
    clear hb
    go_wp2
    go_ret
    exact ⟨rfl, HB.out.1⟩
  · rw [decide_eq_false h1] at g1
    replace g1 := Lib.hid g1
    by_cases h2 : 300 < ua
    · have tua : decide ((300 : Int) < (ua : Int)) = true := by simp; omega
      have tuan : decide (300 < ua) = true := by simp; omega
      clear h1 h2
      go_enter Try.func5, Try.ntmps5
      go_wp2_with fail
      refine (alive13 _).mono ?_
      rintro e w2 ⟨rfl, hb⟩
      replace Vt := Lib.hid (blk_below Vt.out hb (blk_lt Vt.out))
      replace RX := Lib.hid (Es.below RX.out hb)
      replace RY := Lib.hid (Es.below RY.out hb)
      replace RZ := Lib.hid (Es.below RZ.out hb)
      replace HB := Lib.hid (And.intro (HB.out.1.trans (hb.mono HB.out.2)) (Nat.le_trans HB.out.2 hb.size))
      clear hb
      have ct0 : w2.cell? ⟨w.heap.size, 0, none⟩ = some (.slice A n c) := (blk_cell Vt.out 0).trans rfl
      have ct1 : w2.cell? ⟨w.heap.size, 1, none⟩ = some (.slice B m d) := (blk_cell Vt.out 1).trans rfl
      have ct2 : w2.cell? ⟨w.heap.size, 2, none⟩ = some (.slice C k f) := (blk_cell Vt.out 2).trans rfl
      have ct3 : w2.cell? ⟨w.heap.size, 3, none⟩ = some (.int .i64 ce) := (blk_cell Vt.out 3).trans rfl
      have ct4 : w2.cell? ⟨w.heap.size, 4, none⟩ = some (.int .i64 re) := (blk_cell Vt.out 4).trans rfl
      have ct5 : w2.cell? ⟨w.heap.size, 5, none⟩ = some (.int .i64 pa) := (blk_cell Vt.out 5).trans rfl
      go_wp2_with fail
      refine (g1.out _).mono ?_
      rintro e w3 ⟨rfl, hb⟩
      clear ct0 ct1 ct2 ct3 ct4 ct5
      replace Vt := Lib.hid (blk_below Vt.out hb (blk_lt Vt.out))
      replace RX := Lib.hid (Es.below RX.out hb)
      replace RY := Lib.hid (Es.below RY.out hb)
      replace RZ := Lib.hid (Es.below RZ.out hb)
      replace HB := Lib.hid (And.intro (HB.out.1.trans (hb.mono HB.out.2)) (Nat.le_trans HB.out.2 hb.size))
      clear hb
      go_wp2
      go_ret
      exact ⟨rfl, HB.out.1⟩
    · have tua : decide ((300 : Int) < (ua : Int)) = false := by simp; omega
      have tuan : decide (300 < ua) = false := by simp; omega
      by_cases h3 : 300 < ub
      · have tub : decide ((300 : Int) < (ub : Int)) = true := by simp; omega
        have tubn : decide (300 < ub) = true := by simp; omega
        clear h1 h2 h3
        go_enter Try.func5, Try.ntmps5
        go_wp2_with fail
        refine (alive13 _).mono ?_
        rintro e w2 ⟨rfl, hb⟩
        replace Vt := Lib.hid (blk_below Vt.out hb (blk_lt Vt.out))
        replace RX := Lib.hid (Es.below RX.out hb)
        replace RY := Lib.hid (Es.below RY.out hb)
        replace RZ := Lib.hid (Es.below RZ.out hb)
        replace HB := Lib.hid (And.intro (HB.out.1.trans (hb.mono HB.out.2)) (Nat.le_trans HB.out.2 hb.size))
        clear hb
        have ct0 : w2.cell? ⟨w.heap.size, 0, none⟩ = some (.slice A n c) := (blk_cell Vt.out 0).trans rfl
        have ct1 : w2.cell? ⟨w.heap.size, 1, none⟩ = some (.slice B m d) := (blk_cell Vt.out 1).trans rfl
        have ct2 : w2.cell? ⟨w.heap.size, 2, none⟩ = some (.slice C k f) := (blk_cell Vt.out 2).trans rfl
        have ct3 : w2.cell? ⟨w.heap.size, 3, none⟩ = some (.int .i64 ce) := (blk_cell Vt.out 3).trans rfl
        have ct4 : w2.cell? ⟨w.heap.size, 4, none⟩ = some (.int .i64 re) := (blk_cell Vt.out 4).trans rfl
        have ct5 : w2.cell? ⟨w.heap.size, 5, none⟩ = some (.int .i64 pa) := (blk_cell Vt.out 5).trans rfl
        go_wp2_with fail
        refine (g1.out _).mono ?_
        rintro e w3 ⟨rfl, hb⟩
        clear ct0 ct1 ct2 ct3 ct4 ct5
        replace Vt := Lib.hid (blk_below Vt.out hb (blk_lt Vt.out))
        replace RX := Lib.hid (Es.below RX.out hb)
        replace RY := Lib.hid (Es.below RY.out hb)
        replace RZ := Lib.hid (Es.below RZ.out hb)
        replace HB := Lib.hid (And.intro (HB.out.1.trans (hb.mono HB.out.2)) (Nat.le_trans HB.out.2 hb.size))
        clear hb
        go_wp2
        go_ret
        exact ⟨rfl, HB.out.1⟩
      · have tub : decide ((300 : Int) < (ub : Int)) = false := by simp; omega
        have tubn : decide (300 < ub) = false := by simp; omega
        have hn : n ≤ 16384 := by omega
        have hm : m ≤ 16384 := by omega
        have hk : k ≤ 16384 := by omega
        have hua : ua ≤ 300 := by omega
        have hub : ub ≤ 300 := by omega
        clear h1 h2 h3
        obtain ⟨⟨⟨qc, qk, qs, qce, qre, qpa⟩, nx, er⟩, hr⟩ : ∃ r, readPg bs 0 = r := ⟨_, rfl⟩
        have c2 := Lib.hid (fun (W : World) (h : Bs W Eb ub vb_ bs) => by have h9 := cdRead_any Eb ub vb_ bs 0 W h (by omega); rw [hr] at h9; exact h9)
        have HER := Lib.hid (fun (he : er ≠ 0) => (show nx = 0 ∧ qc = [] from by obtain ⟨h8, h9⟩ := read_err hr he; injection h9 with h9; exact ⟨h8, h9⟩))
        have HOK := Lib.hid (fun (he : er = 0) => read_short BYB.out (by rw [he] at hr; exact hr))
        have HSM := Lib.hid (read_small hr)
        clear hr
        have c1 := fun (W : World) (h1 : I4s W A n c co) (h2 : Is W B m d ki) (h3 : Is W C k f si) (h : Bs W Ea ua va al) => cdAppend_any A n c B m d C k f co ki si ce re pa W h1 h2 h3 hn hm hk hpb Ea ua va al h (by omega)
        by_cases hrt : rightPg ⟨co, ki, si, ce, re, pa⟩ = true
        · obtain ⟨z, hz⟩ : ∃ x : Int, x = 0 := ⟨_, rfl⟩
          have e0z : noPg = ⟨[], [], [], z, z, z⟩ := by subst hz; rfl
          have hr := rightPg_iff.1 hrt
          obtain ⟨nb, hnb⟩ : ∃ l, bytesN (numsP ⟨co, ki, si, ce, re, pa⟩) = l := ⟨_, rfl⟩
          have hap : appendPg al ⟨co, ki, si, ce, re, pa⟩ = (al ++ nb, 0) := by unfold appendPg; rw [if_pos hrt, hnb]
          rw [hap] at c1
          have BYN := Lib.hid (show ∀ b ∈ nb, 0 ≤ b ∧ b ≤ 255 from by rw [← hnb]; exact bytesN_byte _)
          have hrb := read_back hr hpb al bs
          have hrc := read_cut hr hpb al
          rw [hnb] at hrb hrc
          have hnl : nb.length ≤ 3000 := by have h8 := nums_len hr; have h9 := bytesN_len (numsP ⟨co, ki, si, ce, re, pa⟩) (nums_all hr hpb); rw [hnb] at h9; omega
          obtain ⟨xl, hxl⟩ : ∃ l, al ++ nb = l := ⟨_, rfl⟩
          have hll : xl.length = ua + nb.length := by rw [← hxl]; simp; omega
          have HTK := Lib.hid (show xl.take ua = al from by rw [← hxl, ← hla]; exact str_take)
          have BYX := Lib.hid (show ∀ b ∈ xl, 0 ≤ b ∧ b ≤ 255 from fun b hb => by rw [← hxl] at hb; rcases List.mem_append.1 hb with h | h; exact BYA.out b h; exact BYN.out b h)
          rw [hxl] at c1 hrb hrc
          rw [hla] at hrb hrc
          obtain ⟨xn, hxn⟩ : ∃ l, xl.length = l := ⟨_, rfl⟩
          rw [hxn] at hrb hrc hll
          have HXN := Lib.hid hxn
          replace c1 := Lib.hid c1
          have c3 := Lib.hid (fun (E : Option Addr) (u v : Nat) (W : World) (h : Bs W E u v (xl ++ bs)) => by have h9 := cdRead_any E u v (xl ++ bs) (ua : Int) W h (by have h8 := h.len; simp at h8; omega); rw [hrb] at h9; exact h9)
          have c4 := Lib.hid (fun (kk : Nat) (hk1 : ua ≤ kk) (hk2 : kk < xn) (E : Option Addr) (v : Nat) (W : World) (h : Bs W E kk v (xl.take kk)) => by have h9 := cdRead_any E kk v (xl.take kk) (ua : Int) W h (by omega); rw [hrc kk hk1 hk2, e0z] at h9; exact h9)
          have cs := Lib.hid (fun (W : World) (h1 : I4s W A n c co) (h2 : Is W B m d ki) (h3 : Is W C k f si) (A2 : Option Addr) (n2 c2 : Nat) (B2 : Option Addr) (m2 d2 : Nat) (C2 : Option Addr) (k2 f2 : Nat) (h4 : I4s W A2 n2 c2 co) (h5 : Is W B2 m2 d2 ki) (h6 : Is W C2 k2 f2 si) => by have h9 := refSame13_any A n c B m d C k f co ki si ce re pa A2 n2 c2 B2 m2 d2 C2 k2 f2 co ki si ce re pa W h1 h2 h3 hn hm hk h4 h5 h6; rw [sameB_self] at h9; exact h9)
          have HXL := Lib.hid hll
          have HNL := Lib.hid hnl
          obtain ⟨i5, hi5, hz0, hz1, hz2⟩ := info_of infoByte
          have HI := Lib.hid hi5; have HZ0 := Lib.hid hz0; have HZ1 := Lib.hid hz1; have HZ2 := Lib.hid hz2
          clear hi5 hz0 hz1 hz2 hr hnb hap hrb hrc hxl hxn hrt hpb hll hnl hz e0z
          go_enter Try.func5, Try.ntmps5
          go_wp2_with fail
          refine (alive13 _).mono ?_
          rintro e w2 ⟨rfl, hb⟩
          replace Vt := Lib.hid (blk_below Vt.out hb (blk_lt Vt.out))
          replace RX := Lib.hid (Es.below RX.out hb)
          replace RY := Lib.hid (Es.below RY.out hb)
          replace RZ := Lib.hid (Es.below RZ.out hb)
          replace HB := Lib.hid (And.intro (HB.out.1.trans (hb.mono HB.out.2)) (Nat.le_trans HB.out.2 hb.size))
          clear hb
          have ct0 : w2.cell? ⟨w.heap.size, 0, none⟩ = some (.slice A n c) := (blk_cell Vt.out 0).trans rfl
          have ct1 : w2.cell? ⟨w.heap.size, 1, none⟩ = some (.slice B m d) := (blk_cell Vt.out 1).trans rfl
          have ct2 : w2.cell? ⟨w.heap.size, 2, none⟩ = some (.slice C k f) := (blk_cell Vt.out 2).trans rfl
          have ct3 : w2.cell? ⟨w.heap.size, 3, none⟩ = some (.int .i64 ce) := (blk_cell Vt.out 3).trans rfl
          have ct4 : w2.cell? ⟨w.heap.size, 4, none⟩ = some (.int .i64 re) := (blk_cell Vt.out 4).trans rfl
          have ct5 : w2.cell? ⟨w.heap.size, 5, none⟩ = some (.int .i64 pa) := (blk_cell Vt.out 5).trans rfl
          go_wp2_with fail
          refine (g1.out _).mono ?_
          rintro e w3 ⟨rfl, hb⟩
          clear ct0 ct1 ct2 ct3 ct4 ct5
          replace Vt := Lib.hid (blk_below Vt.out hb (blk_lt Vt.out))
          replace RX := Lib.hid (Es.below RX.out hb)
          replace RY := Lib.hid (Es.below RY.out hb)
          replace RZ := Lib.hid (Es.below RZ.out hb)
          replace HB := Lib.hid (And.intro (HB.out.1.trans (hb.mono HB.out.2)) (Nat.le_trans HB.out.2 hb.size))
          clear hb
          have HSZ := Lib.hid HB.out.2
          have ct0 : w3.cell? ⟨w.heap.size, 0, none⟩ = some (.slice A n c) := (blk_cell Vt.out 0).trans rfl
          have ct1 : w3.cell? ⟨w.heap.size, 1, none⟩ = some (.slice B m d) := (blk_cell Vt.out 1).trans rfl
          have ct2 : w3.cell? ⟨w.heap.size, 2, none⟩ = some (.slice C k f) := (blk_cell Vt.out 2).trans rfl
          have ct3 : w3.cell? ⟨w.heap.size, 3, none⟩ = some (.int .i64 ce) := (blk_cell Vt.out 3).trans rfl
          have ct4 : w3.cell? ⟨w.heap.size, 4, none⟩ = some (.int .i64 re) := (blk_cell Vt.out 4).trans rfl
          have ct5 : w3.cell? ⟨w.heap.size, 5, none⟩ = some (.int .i64 pa) := (blk_cell Vt.out 5).trans rfl
          go_wp2_with fail
          refine (c1.out _ RX.out RY.out RZ.out (Bs.below RA.out HB.out.1)).mono ?_
          rintro e w4 ⟨X1, x1, y1, rfl, o1, hb⟩
          clear ct0 ct1 ct2 ct3 ct4 ct5
          replace Vt := Lib.hid (blk_below Vt.out hb (blk_lt Vt.out))
          replace RX := Lib.hid (Es.below RX.out hb)
          replace RY := Lib.hid (Es.below RY.out hb)
          replace RZ := Lib.hid (Es.below RZ.out hb)
          replace HB := Lib.hid (And.intro (HB.out.1.trans (hb.mono HB.out.2)) (Nat.le_trans HB.out.2 hb.size))
          clear hb
          replace o1 := own_base o1 HSZ.out
          clear HSZ
          have Ox := Lib.hid (show w4.ownsRow _ 5 1 (.slice X1 x1 y1) x1 (xl.map (Value.int .u8)) from o1)
          clear o1
          obtain rfl : x1 = xn := by have h8 : xl.length = x1 := own_len8 Ox.out; have := HXN.out; omega
          have hx1 : x1 ≤ 3300 := by have h1 := HXL.out; have h2 := HNL.out; omega
          obtain ⟨A3_, c3_, w20, hap1, hown1, hb20, hbel1⟩ := app_lit0 (P := Try.prog) w4 28 28 5 i5 _ Try.underlying28 HI.out HZ0.out HZ1.out HZ2.out rfl X1 x1 y1 _ (own_bs Ox.out BYX.out) (by omega)
          have O2 := Lib.hid hown1
          obtain ⟨v3, w21, hap2, hown2, hgr2, hbs2⟩ := app_own (P := Try.prog) w20 w4.heap.size 28 28 5 i5 _ Try.underlying28 HI.out HZ0.out HZ1.out HZ2.out rfl _ x1 xl O2.out Eb ub vb_ bs (Bs.below (Bs.below RB.out HB.out.1) hbel1) (by omega) hbel1.size
          obtain ⟨A4_, c4_, hv3, hbs21⟩ := Bs.of_own hown2 (fun b hb => by rcases List.mem_append.1 hb with h | h; exact BYX.out b h; exact BYB.out b h)
          subst hv3
          have hb21 : Below w4.heap.size w4 w21 := hbel1.grown hgr2 hbel1.size (fun g hg => (O2.out.lt g hg).1)
          clear O2 hown1 hgr2 hbs2 hown2
          replace Vt := Lib.hid (blk_below Vt.out hb21 (blk_lt Vt.out))
          replace RX := Lib.hid (Es.below RX.out hb21)
          replace RY := Lib.hid (Es.below RY.out hb21)
          replace RZ := Lib.hid (Es.below RZ.out hb21)
          replace Ox := Lib.hid (own_below Ox.out hb21)
          replace HB := Lib.hid (And.intro (HB.out.1.trans (hb21.mono HB.out.2)) (Nat.le_trans HB.out.2 hb21.size))
          have RXB := Lib.hid hbs21
          clear hbs21 hbel1 hb20 hb21
          go_wp2_with (at_builtin; first | (refine wpl_app_run rfl rfl rfl rfl hap1 ?_; clear hap1) | (refine wpl_app_run rfl rfl rfl rfl hap2 ?_; clear hap2))
          skip
          refine (c3.out _ _ _ _ RXB.out).mono ?_
          rintro e w5 ⟨A2, n2, c2x, B2, m2, d2, C2, k2, f2, rfl, oc, ok, os, hb⟩
          replace Vt := Lib.hid (blk_below Vt.out hb (blk_lt Vt.out))
          replace RX := Lib.hid (Es.below RX.out hb)
          replace RY := Lib.hid (Es.below RY.out hb)
          replace RZ := Lib.hid (Es.below RZ.out hb)
          replace Ox := Lib.hid (own_below Ox.out hb)
          replace HB := Lib.hid (And.intro (HB.out.1.trans (hb.mono HB.out.2)) (Nat.le_trans HB.out.2 hb.size))
          clear hb
          clear RXB
          have Oq1 := Lib.hid oc
          clear oc
          have Oq2 := Lib.hid ok
          clear ok
          have Oq3 := Lib.hid os
          clear os
          have ltt := blk_lt Vt.out
          have gq := HB.out.2
          obtain ⟨w6, hw6⟩ : ∃ W, (w5.alloc (.cells #[.slice A2 n2 c2x, .slice B2 m2 d2, .slice C2 k2 f2, .int .i64 ce, .int .i64 re, .int .i64 pa] 25)) = W := ⟨_, rfl⟩
          have hb : Below w5.heap.size w5 w6 := hw6 ▸ ((Below.refl _ _).alloc (Nat.le_refl _) _)
          have hv0 : w6.heap[w5.heap.size]? = some (.cells #[.slice A2 n2 c2x, .slice B2 m2 d2, .slice C2 k2 f2, .int .i64 ce, .int .i64 re, .int .i64 pa] 25) := by
            have h0 := heap_alloc_new w5 (.cells #[.slice A2 n2 c2x, .slice B2 m2 d2, .slice C2 k2 f2, .int .i64 ce, .int .i64 re, .int .i64 pa] 25)
            rw [show w5.heap.size = w5.heap.size by simp [Nat.add_assoc]] at h0
            rw [← hw6]
            exact h0
          replace Vt := Lib.hid (blk_below Vt.out hb (blk_lt Vt.out))
          replace RX := Lib.hid (Es.below RX.out hb)
          replace RY := Lib.hid (Es.below RY.out hb)
          replace RZ := Lib.hid (Es.below RZ.out hb)
          replace Ox := Lib.hid (own_below Ox.out hb)
          replace Oq1 := Lib.hid (own_below Oq1.out hb)
          replace Oq2 := Lib.hid (own_below Oq2.out hb)
          replace Oq3 := Lib.hid (own_below Oq3.out hb)
          replace HB := Lib.hid (And.intro (HB.out.1.trans (hb.mono HB.out.2)) (Nat.le_trans HB.out.2 hb.size))
          have Vq := Lib.hid hv0
          have net_q := Nat.ne_of_lt ltt
          have geq := gq
          generalize hsq : w5.heap.size = sq at *
          clear hb gq hv0 ltt
          have RAn := Lib.hid (Bs.below RA.out HB.out.1)
          have RXn := Lib.hid (own_bs Ox.out BYX.out)
          obtain ⟨A6, c6, hsl, hb6⟩ := RXn.out.sliceh (P := Try.prog) 28 undBytes sizeByte (ua : Int) ua rfl (by have := HXL.out; omega)
          rw [HTK.out] at hb6
          have HSL := Lib.hid hsl; have RB6 := Lib.hid hb6
          have e0 : ((0 : Int) != 0) = false := rfl
          have e1 : ((x1 : Int) != (x1 : Int)) = false := by simp
          have e2 : (x1 != x1) = false := by simp
          clear hsl hb6
          have ct0 : w6.cell? ⟨w.heap.size, 0, none⟩ = some (.slice A n c) := (blk_cell Vt.out 0).trans rfl
          have ct1 : w6.cell? ⟨w.heap.size, 1, none⟩ = some (.slice B m d) := (blk_cell Vt.out 1).trans rfl
          have ct2 : w6.cell? ⟨w.heap.size, 2, none⟩ = some (.slice C k f) := (blk_cell Vt.out 2).trans rfl
          have ct3 : w6.cell? ⟨w.heap.size, 3, none⟩ = some (.int .i64 ce) := (blk_cell Vt.out 3).trans rfl
          have ct4 : w6.cell? ⟨w.heap.size, 4, none⟩ = some (.int .i64 re) := (blk_cell Vt.out 4).trans rfl
          have ct5 : w6.cell? ⟨w.heap.size, 5, none⟩ = some (.int .i64 pa) := (blk_cell Vt.out 5).trans rfl
          have cq0 : w6.cell? ⟨sq, 0, none⟩ = some (.slice A2 n2 c2x) := (blk_cell Vq.out 0).trans rfl
          have cq1 : w6.cell? ⟨sq, 1, none⟩ = some (.slice B2 m2 d2) := (blk_cell Vq.out 1).trans rfl
          have cq2 : w6.cell? ⟨sq, 2, none⟩ = some (.slice C2 k2 f2) := (blk_cell Vq.out 2).trans rfl
          have cq3 : w6.cell? ⟨sq, 3, none⟩ = some (.int .i64 ce) := (blk_cell Vq.out 3).trans rfl
          have cq4 : w6.cell? ⟨sq, 4, none⟩ = some (.int .i64 re) := (blk_cell Vq.out 4).trans rfl
          have cq5 : w6.cell? ⟨sq, 5, none⟩ = some (.int .i64 pa) := (blk_cell Vq.out 5).trans rfl
          go_wp2
          refine wp_region_noPanic ?_
          refine wp_region_held_drew (S := (fun wv => Below w6.heap.size w6 wv)) (by kernel_rfl) ((Below.refl w6.heap.size w6).drew) (fun hS => ?_)
          refine wpAnyH_take (i := 0) (oi := ⟨some 55, .move (.tmp 11), 29, "law.go:65", #[], none⟩) (v := ?_) rfl (by kernel_rfl) (by kernel_rfl) (by kernel_rfl) (fun _ _ _ h => h) (Or.inl ⟨by rfl, ?_⟩) hS ?_
          rotate_left
          · intro wv _; go_simp; try with_reducible rfl
          try simp only [Act.put, List.setIfInBounds_toArray, List.set_cons_zero, List.set_cons_succ]
          refine wpAnyH_take (i := 1) (oi := ⟨some 56, .binOp .neq 29 (.tmp 55) (.const (Value.int IntKind.i64 0)) 29, 4, "law.go:65", #[⟨0, .data⟩], none⟩) (v := ?_) rfl (by kernel_rfl) (by kernel_rfl) (by kernel_rfl) (fun _ _ _ h => h) (Or.inl ⟨by rfl, ?_⟩) hS ?_
          rotate_left
          · intro wv _; go_simp; try with_reducible rfl
          try simp only [Act.put, List.setIfInBounds_toArray, List.set_cons_zero, List.set_cons_succ]
          refine wpAnyH_take (i := 2) (oi := ⟨some 57, .move (.tmp 56), 4, "law.go:65", #[⟨1, .data⟩], none⟩) (v := ?_) rfl (by kernel_rfl) (by kernel_rfl) (by kernel_rfl) (fun _ _ _ h => h) (Or.inl ⟨by rfl, ?_⟩) hS ?_
          rotate_left
          · intro wv _; go_simp; try with_reducible rfl
          try simp only [Act.put, List.setIfInBounds_toArray, List.set_cons_zero, List.set_cons_succ]
          refine wpAnyH_take (i := 3) (oi := ⟨some 58, .move (.tmp 10), 3, "law.go:65", #[⟨2, .guard⟩], some (2, false)⟩) (v := ?_) rfl (by kernel_rfl) (by kernel_rfl) (by kernel_rfl) (fun _ _ _ h => h) (Or.inl ⟨by rfl, ?_⟩) hS ?_
          rotate_left
          · intro wv _; go_simp; try with_reducible rfl
          try simp only [Act.put, List.setIfInBounds_toArray, List.set_cons_zero, List.set_cons_succ]
          refine wpAnyH_take (i := 4) (oi := ⟨some 59, .move (.tmp 7), 28, "law.go:65", #[⟨2, .guard⟩], some (2, false)⟩) (v := ?_) rfl (by kernel_rfl) (by kernel_rfl) (by kernel_rfl) (fun _ _ _ h => h) (Or.inl ⟨by rfl, ?_⟩) hS ?_
          rotate_left
          · intro wv _; go_simp; try with_reducible rfl
          try simp only [Act.put, List.setIfInBounds_toArray, List.set_cons_zero, List.set_cons_succ]
          refine wpAnyH_take (i := 5) (oi := ⟨some 60, .call { callee := .builtin .len, args := #[.tmp 59], argTypes := #[28] }, 3, "law.go:65", #[⟨4, .data⟩, ⟨2, .guard⟩], some (2, false)⟩) (v := ?_) rfl (by kernel_rfl) (by kernel_rfl) (by kernel_rfl) (fun _ _ _ h => h) (Or.inl ⟨by rfl, ?_⟩) hS ?_
          rotate_left
          · intro wv _; go_simp; try with_reducible rfl
          try simp only [Act.put, List.setIfInBounds_toArray, List.set_cons_zero, List.set_cons_succ]
          refine wpAnyH_take (i := 6) (oi := ⟨some 61, .binOp .neq 3 (.tmp 58) (.tmp 60) 3, 4, "law.go:65", #[⟨3, .data⟩, ⟨5, .data⟩, ⟨2, .guard⟩], some (2, false)⟩) (v := ?_) rfl (by kernel_rfl) (by kernel_rfl) (by kernel_rfl) (fun _ _ _ h => h) (Or.inl ⟨by rfl, ?_⟩) hS ?_
          rotate_left
          · intro wv _; go_simp; try with_reducible rfl
          try simp only [Act.put, List.setIfInBounds_toArray, List.set_cons_zero, List.set_cons_succ]
          refine wpAnyH_take (i := 7) (oi := ⟨some 62, .pick (.tmp 57) (.const (Value.bool true)) (.tmp 61), 4, "law.go:65", #[⟨2, .data⟩, ⟨6, .data⟩], none⟩) (v := ?_) rfl (by kernel_rfl) (by kernel_rfl) (by kernel_rfl) (fun _ _ _ h => h) (Or.inl ⟨by rfl, ?_⟩) hS ?_
          rotate_left
          · intro wv _; go_simp; try with_reducible rfl
          try simp only [Act.put, List.setIfInBounds_toArray, List.set_cons_zero, List.set_cons_succ]
          refine wpAnyH_take (i := 8) (oi := ⟨some 63, .move (.tmp 62), 4, "law.go:65", #[⟨7, .data⟩, ⟨2, .chain⟩], none⟩) (v := ?_) rfl (by kernel_rfl) (by kernel_rfl) (by kernel_rfl) (fun _ _ _ h => h) (Or.inl ⟨by rfl, ?_⟩) hS ?_
          rotate_left
          · intro wv _; go_simp; try with_reducible rfl
          try simp only [Act.put, List.setIfInBounds_toArray, List.set_cons_zero, List.set_cons_succ]
          refine wpAnyH_take (i := 9) (oi := ⟨some 64, .load 25 (.tmp 3), 25, "law.go:65", #[⟨8, .guard⟩], some (8, false)⟩) (v := .agg (([.slice A n c, .slice B m d, .slice C k f, .int .i64 ce, .int .i64 re, .int .i64 pa] : List Value)).toArray) rfl (by kernel_rfl) (by kernel_rfl) (by kernel_rfl) (fun _ _ _ h => h) (yieldsIf_load_mid (by rfl) _ _ (by rfl) (w.heap.size) (0) (by rfl) (([.slice A n c, .slice B m d, .slice C k f, .int .i64 ce, .int .i64 re, .int .i64 pa] : List Value)) _ (fun wv hS => blk_rngl (blk_below Vt.out hS (blk_lt Vt.out))) Try.underlying25 (by rfl) (by kernel_rfl)) hS ?_
          try simp only [Act.put, List.setIfInBounds_toArray, List.set_cons_zero, List.set_cons_succ]
          refine wpAnyH_take (i := 10) (oi := ⟨some 65, .load 25 (.tmp 9), 25, "law.go:65", #[⟨8, .guard⟩], some (8, false)⟩) (v := .agg (([.slice A2 n2 c2x, .slice B2 m2 d2, .slice C2 k2 f2, .int .i64 ce, .int .i64 re, .int .i64 pa] : List Value)).toArray) rfl (by kernel_rfl) (by kernel_rfl) (by kernel_rfl) (fun _ _ _ h => h) (yieldsIf_load_mid (by rfl) _ _ (by rfl) (sq) (0) (by rfl) (([.slice A2 n2 c2x, .slice B2 m2 d2, .slice C2 k2 f2, .int .i64 ce, .int .i64 re, .int .i64 pa] : List Value)) _ (fun wv hS => blk_rngl (blk_below Vq.out hS (blk_lt Vq.out))) Try.underlying25 (by rfl) (by kernel_rfl)) hS ?_
          try simp only [Act.put, List.setIfInBounds_toArray, List.set_cons_zero, List.set_cons_succ]
          refine wpAnyH_ready (rs := [11]) (by kernel_rfl) (by simp) (AllReadyH.cons (o := ⟨some 66, .call { callee := .value (.func 16), args := #[.tmp 64, .tmp 65], argTypes := #[25, 25] }, 4, "law.go:65", #[⟨9, .data⟩, ⟨10, .data⟩, ⟨8, .chain⟩, ⟨8, .guard⟩], some (8, false)⟩) rfl (fun K hK => ?_) AllReadyH.nil)
          go_simp
          refine (cs.out _ (Es.below RX.out hS) (Es.below RY.out hS) (Es.below RZ.out hS) _ _ _ _ _ _ _ _ _ (Es.below (i4s_own Oq1.out) hS) (Es.below (is_own Oq2.out) hS) (Es.below (is_own Oq3.out) hS)).mono ?_; rintro e u11 ⟨rfl, hb⟩
          replace hS := hS.trans (hb.mono hS.size)
          clear hb
          go_wp2_with fail
          refine Shut.out hK _ _ hS (fun _ => ?_)
          clear hK K
          try simp only [Act.put, List.setIfInBounds_toArray, List.set_cons_zero, List.set_cons_succ]
          refine wpAnyH_take (i := 12) (oi := ⟨some 67, .unOp .not 4 (.tmp 66), 4, "law.go:65", #[⟨11, .data⟩, ⟨8, .guard⟩], some (8, false)⟩) (v := ?_) rfl (by kernel_rfl) (by kernel_rfl) (by kernel_rfl) (fun _ _ _ h => h) (Or.inl ⟨by rfl, ?_⟩) hS ?_
          rotate_left
          · intro wv _; go_simp; try with_reducible rfl
          try simp only [Act.put, List.setIfInBounds_toArray, List.set_cons_zero, List.set_cons_succ]
          refine wpAnyH_take (i := 13) (oi := ⟨some 68, .pick (.tmp 63) (.const (Value.bool true)) (.tmp 67), 4, "law.go:65", #[⟨8, .data⟩, ⟨12, .data⟩], none⟩) (v := ?_) rfl (by kernel_rfl) (by kernel_rfl) (by kernel_rfl) (fun _ _ _ h => h) (Or.inl ⟨by rfl, ?_⟩) hS ?_
          rotate_left
          · intro wv _; go_simp; try with_reducible rfl
          try simp only [Act.put, List.setIfInBounds_toArray, List.set_cons_zero, List.set_cons_succ]
          refine wpAnyH_take (i := 14) (oi := ⟨some 69, .move (.tmp 68), 4, "law.go:65", #[⟨13, .data⟩, ⟨11, .chain⟩], none⟩) (v := ?_) rfl (by kernel_rfl) (by kernel_rfl) (by kernel_rfl) (fun _ _ _ h => h) (Or.inl ⟨by rfl, ?_⟩) hS ?_
          rotate_left
          · intro wv _; go_simp; try with_reducible rfl
          try simp only [Act.put, List.setIfInBounds_toArray, List.set_cons_zero, List.set_cons_succ]
          refine wpAnyH_take (i := 15) (oi := ⟨some 70, .move (.tmp 7), 28, "law.go:65", #[⟨14, .guard⟩], some (14, false)⟩) (v := ?_) rfl (by kernel_rfl) (by kernel_rfl) (by kernel_rfl) (fun _ _ _ h => h) (Or.inl ⟨by rfl, ?_⟩) hS ?_
          rotate_left
          · intro wv _; go_simp; try with_reducible rfl
          try simp only [Act.put, List.setIfInBounds_toArray, List.set_cons_zero, List.set_cons_succ]
          refine wpAnyH_take (i := 16) (oi := ⟨some 71, .move (.tmp 1), 28, "law.go:65", #[⟨14, .guard⟩], some (14, false)⟩) (v := ?_) rfl (by kernel_rfl) (by kernel_rfl) (by kernel_rfl) (fun _ _ _ h => h) (Or.inl ⟨by rfl, ?_⟩) hS ?_
          rotate_left
          · intro wv _; go_simp; try with_reducible rfl
          try simp only [Act.put, List.setIfInBounds_toArray, List.set_cons_zero, List.set_cons_succ]
          refine wpAnyH_take (i := 17) (oi := ⟨some 72, .call { callee := .builtin .len, args := #[.tmp 71], argTypes := #[28] }, 3, "law.go:65", #[⟨16, .data⟩, ⟨14, .guard⟩], some (14, false)⟩) (v := ?_) rfl (by kernel_rfl) (by kernel_rfl) (by kernel_rfl) (fun _ _ _ h => h) (Or.inl ⟨by rfl, ?_⟩) hS ?_
          rotate_left
          · intro wv _; go_simp; try with_reducible rfl
          try simp only [Act.put, List.setIfInBounds_toArray, List.set_cons_zero, List.set_cons_succ]
          refine wpAnyH_take (i := 18) (oi := ⟨some 73, .slice 28 (.tmp 70) none (some (.tmp 72)) none, 28, "law.go:65", #[⟨15, .data⟩, ⟨17, .data⟩, ⟨14, .guard⟩], some (14, false)⟩) (v := ?_) rfl (by kernel_rfl) (by kernel_rfl) (by kernel_rfl) (fun _ _ _ h => h) (Or.inl ⟨by rfl, ?_⟩) hS ?_
          rotate_left
          · intro wv hS; have hrun := (HSL.out wv); go_simp; try with_reducible rfl
          try simp only [Act.put, List.setIfInBounds_toArray, List.set_cons_zero, List.set_cons_succ]
          refine wpAnyH_take (i := 19) (oi := ⟨some 74, .convert 28 9 (.tmp 73), 9, "law.go:65", #[⟨18, .data⟩, ⟨14, .guard⟩], some (14, false)⟩) (v := ?_) rfl (by kernel_rfl) (by kernel_rfl) (by kernel_rfl) (fun _ _ _ h => h) (Or.inl ⟨by rfl, ?_⟩) hS ?_
          rotate_left
          · intro wv hS; have hrun := (Bs.text (Bs.below RB6.out hS)); go_simp; try with_reducible rfl
          try simp only [Act.put, List.setIfInBounds_toArray, List.set_cons_zero, List.set_cons_succ]
          refine wpAnyH_take (i := 20) (oi := ⟨some 75, .move (.tmp 1), 28, "law.go:65", #[⟨14, .guard⟩], some (14, false)⟩) (v := ?_) rfl (by kernel_rfl) (by kernel_rfl) (by kernel_rfl) (fun _ _ _ h => h) (Or.inl ⟨by rfl, ?_⟩) hS ?_
          rotate_left
          · intro wv _; go_simp; try with_reducible rfl
          try simp only [Act.put, List.setIfInBounds_toArray, List.set_cons_zero, List.set_cons_succ]
          refine wpAnyH_take (i := 21) (oi := ⟨some 76, .convert 28 9 (.tmp 75), 9, "law.go:65", #[⟨20, .data⟩, ⟨14, .guard⟩], some (14, false)⟩) (v := ?_) rfl (by kernel_rfl) (by kernel_rfl) (by kernel_rfl) (fun _ _ _ h => h) (Or.inl ⟨by rfl, ?_⟩) hS ?_
          rotate_left
          · intro wv hS; have hrun := (Bs.text (Bs.below RAn.out hS)); go_simp; try with_reducible rfl
          try simp only [Act.put, List.setIfInBounds_toArray, List.set_cons_zero, List.set_cons_succ]
          refine wpAnyH_take (i := 22) (oi := ⟨some 77, .binOp .neq 9 (.tmp 74) (.tmp 76) 9, 4, "law.go:65", #[⟨19, .data⟩, ⟨21, .data⟩, ⟨14, .guard⟩], some (14, false)⟩) (v := ?_) rfl (by kernel_rfl) (by kernel_rfl) (by kernel_rfl) (fun _ _ _ h => h) (Or.inl ⟨by rfl, ?_⟩) hS ?_
          rotate_left
          · intro wv _; go_simp; try with_reducible rfl
          try simp only [Act.put, List.setIfInBounds_toArray, List.set_cons_zero, List.set_cons_succ]
          refine wpAnyH_take (i := 23) (oi := ⟨some 78, .pick (.tmp 69) (.const (Value.bool true)) (.tmp 77), 4, "law.go:65", #[⟨14, .data⟩, ⟨22, .data⟩], none⟩) (v := ?_) rfl (by kernel_rfl) (by kernel_rfl) (by kernel_rfl) (fun _ _ _ h => h) (Or.inl ⟨by rfl, ?_⟩) hS ?_
          rotate_left
          · intro wv _; go_simp; try with_reducible rfl
          try simp only [Act.put, List.setIfInBounds_toArray, List.set_cons_zero, List.set_cons_succ]
          refine wpAnyH_done (by kernel_rfl) ?_ _
          refine NoPanic.normal ?_
          clear ct0 ct1 ct2 ct3 ct4 ct5 cq0 cq1 cq2 cq3 cq4 cq5
          replace HB := Lib.hid (And.intro (HB.out.1.trans (hS.mono HB.out.2)) (Nat.le_trans HB.out.2 hS.size))
          have Ox2 := Lib.hid (own_below Ox.out hS)
          have Vt2 := Lib.hid (blk_below Vt.out hS (blk_lt Vt.out))
          clear Oq1 Oq2 Oq3 Vq RX RY RZ RAn RXn HSL RB6 Ox Vt hS c3 cs c1
          have Ox := Ox2; have Vt := Vt2
          clear Ox2 Vt2
          go_wp2
          go_loopw [12] (fun kv wr => ∃ kk : Nat, kv = .int .i64 (kk : Int) ∧ ua ≤ kk ∧ kk ≤ x1 ∧ Hid (Below w.heap.size w wr ∧ w.heap.size ≤ wr.heap.size) ∧ Hid (wr.ownsRow w.heap.size 5 1 (.slice X1 x1 y1) x1 (xl.map (Value.int .u8)))) (fun kv _ => x1 - (intOf kv).toNat)
          case atStart => exact ⟨ua, rfl, by omega, by have := HXL.out; omega, HB, Ox⟩
          case round =>
            clear HB Ox Vt
            obtain ⟨kk, rfl, hk1, hk2, HB, Ox⟩ := hrel
            by_cases hlt : kk < x1
            · have b1 : decide ((kk : Int) < (x1 : Int)) = true := by simpa using hlt
              have RXn := Lib.hid (own_bs Ox.out BYX.out)
              obtain ⟨A6, c6, hsl, hb6⟩ := RXn.out.sliceh (P := Try.prog) 28 undBytes sizeByte (kk : Int) kk rfl hk2
              have RB6 := Lib.hid hb6
              have CQ := Lib.hid (c4.out kk hk1 hlt)
              clear hb6 RXn
              go_wp2_with fail
              refine (CQ.out _ _ _ RB6.out).mono ?_
              rintro e w7 ⟨A9, n9, c9x, B9, m9, d9, C9, k9, f9, rfl, oc, ok, os, hb⟩
              replace Ox := Lib.hid (own_below Ox.out hb)
              replace HB := Lib.hid (And.intro (HB.out.1.trans (hb.mono HB.out.2)) (Nat.le_trans HB.out.2 hb.size))
              clear hb
              clear hsl RB6 oc ok os CQ
              have gq := HB.out.2
              obtain ⟨w8, hw8⟩ : ∃ W, (w7.alloc (.cells #[.slice A9 n9 c9x, .slice B9 m9 d9, .slice C9 k9 f9, .int .i64 z, .int .i64 z, .int .i64 z] 25)) = W := ⟨_, rfl⟩
              have hb : Below w7.heap.size w7 w8 := hw8 ▸ ((Below.refl _ _).alloc (Nat.le_refl _) _)
              have hv0 : w8.heap[w7.heap.size]? = some (.cells #[.slice A9 n9 c9x, .slice B9 m9 d9, .slice C9 k9 f9, .int .i64 z, .int .i64 z, .int .i64 z] 25) := by
                have h0 := heap_alloc_new w7 (.cells #[.slice A9 n9 c9x, .slice B9 m9 d9, .slice C9 k9 f9, .int .i64 z, .int .i64 z, .int .i64 z] 25)
                rw [show w7.heap.size = w7.heap.size by simp [Nat.add_assoc]] at h0
                rw [← hw8]
                exact h0
              replace Ox := Lib.hid (own_below Ox.out hb)
              replace HB := Lib.hid (And.intro (HB.out.1.trans (hb.mono HB.out.2)) (Nat.le_trans HB.out.2 hb.size))
              have Vz := Lib.hid hv0
              have gez := gq
              generalize hsz : w7.heap.size = sz at *
              clear hb gq hv0
              go_wp2
              go_roundw
              case rel => exact ⟨kk + 1, by go_num, by omega, by omega, HB, Ox⟩
              case measure => simp [intOf]; omega
            · have b1 : decide ((kk : Int) < (x1 : Int)) = false := by simp; omega
              have b1n : decide (kk < x1) = false := by simp; omega
              clear hlt
              go_wp2_with fail
              refine (c2.out _ (Bs.below RB.out HB.out.1)).mono ?_
              rintro e w7 ⟨A3, n3, c3x, B3, m3, d3, C3, k3, f3, rfl, oc, ok, os, hb⟩
              replace Ox := Lib.hid (own_below Ox.out hb)
              replace HB := Lib.hid (And.intro (HB.out.1.trans (hb.mono HB.out.2)) (Nat.le_trans HB.out.2 hb.size))
              clear hb
              have Or1 := Lib.hid oc
              clear oc
              have Or2 := Lib.hid ok
              clear ok
              have Or3 := Lib.hid os
              clear os
              have gq := HB.out.2
              obtain ⟨w8, hw8⟩ : ∃ W, (w7.alloc (.cells #[.slice A3 n3 c3x, .slice B3 m3 d3, .slice C3 k3 f3, .int .i64 qce, .int .i64 qre, .int .i64 qpa] 25)) = W := ⟨_, rfl⟩
              have hb : Below w7.heap.size w7 w8 := hw8 ▸ ((Below.refl _ _).alloc (Nat.le_refl _) _)
              have hv0 : w8.heap[w7.heap.size]? = some (.cells #[.slice A3 n3 c3x, .slice B3 m3 d3, .slice C3 k3 f3, .int .i64 qce, .int .i64 qre, .int .i64 qpa] 25) := by
                have h0 := heap_alloc_new w7 (.cells #[.slice A3 n3 c3x, .slice B3 m3 d3, .slice C3 k3 f3, .int .i64 qce, .int .i64 qre, .int .i64 qpa] 25)
                rw [show w7.heap.size = w7.heap.size by simp [Nat.add_assoc]] at h0
                rw [← hw8]
                exact h0
              replace Ox := Lib.hid (own_below Ox.out hb)
              replace Or1 := Lib.hid (own_below Or1.out hb)
              replace Or2 := Lib.hid (own_below Or2.out hb)
              replace Or3 := Lib.hid (own_below Or3.out hb)
              replace HB := Lib.hid (And.intro (HB.out.1.trans (hb.mono HB.out.2)) (Nat.le_trans HB.out.2 hb.size))
              have Vv := Lib.hid hv0
              have gev := gq
              generalize hsv : w7.heap.size = sv at *
              clear hb gq hv0
              by_cases he : er = 0
              · obtain ⟨q1, q2, mm, q3, q4, q5⟩ := HOK.out he
                subst he
                obtain rfl : nx = (mm : Int) := q3
                have z0 : ((0 : Int) != 0) = false := rfl
                have z1 : ((0 : Int) == 0) = true := rfl
                have HL1 := Lib.hid (show n3 ≤ 60 ∧ m3 ≤ 8 ∧ k3 ≤ 8 from by have h7 : qc.length = n3 := I4s.len (i4s_own Or1.out); have h8 : qk.length = m3 := Is.len (is_own Or2.out); have h9 : qs.length = k3 := Is.len (is_own Or3.out); have h10 : qc.length ≤ 60 ∧ qk.length ≤ 8 ∧ qs.length ≤ 8 := HSM.out; omega)
                have hnb : appendPg [] ⟨qc, qk, qs, qce, qre, qpa⟩ = (bs.take mm, 0) := by unfold appendPg; rw [if_pos (rightPg_iff.2 q1), q5, List.nil_append]
                have CA := Lib.hid (fun (W : World) (h1 : I4s W A3 n3 c3x qc) (h2 : Is W B3 m3 d3 qk) (h3 : Is W C3 k3 f3 qs) => by have h9 := cdAppend_any A3 n3 c3x B3 m3 d3 C3 k3 f3 qc qk qs qce qre qpa W h1 h2 h3 (by have := HL1.out; omega) (by have := HL1.out; omega) (by have := HL1.out; omega) q2 none 0 0 [] (Bs.nil _ _ _) (by omega); rw [hnb] at h9; exact h9)
                have CR := Lib.hid (fun (W : World) (h1 : I4s W A3 n3 c3x qc) (h2 : Is W B3 m3 d3 qk) (h3 : Is W C3 k3 f3 qs) => by have h9 := refRight13_any A3 n3 c3x B3 m3 d3 C3 k3 f3 qc qk qs qce qre qpa W h1 h2 h3 (by have := HL1.out; omega) (by have := HL1.out; omega) (by have := HL1.out; omega); rw [rightPg_iff.2 q1] at h9; exact h9)
                have hmb : mm ≤ ub := by omega
                have lm : decide ((mm : Int) ≤ (ub : Int)) = true := by simp; omega
                have lmn : decide (mm ≤ ub) = true := by simp; omega
                have BYT := Lib.hid (show ∀ b ∈ bs.take mm, 0 ≤ b ∧ b ≤ 255 from fun b hb => BYB.out b (List.mem_of_mem_take hb))
                clear q1 q2 q4 q5 hnb
                have cv0 : w8.cell? ⟨sv, 0, none⟩ = some (.slice A3 n3 c3x) := (blk_cell Vv.out 0).trans rfl
                have cv1 : w8.cell? ⟨sv, 1, none⟩ = some (.slice B3 m3 d3) := (blk_cell Vv.out 1).trans rfl
                have cv2 : w8.cell? ⟨sv, 2, none⟩ = some (.slice C3 k3 f3) := (blk_cell Vv.out 2).trans rfl
                have cv3 : w8.cell? ⟨sv, 3, none⟩ = some (.int .i64 qce) := (blk_cell Vv.out 3).trans rfl
                have cv4 : w8.cell? ⟨sv, 4, none⟩ = some (.int .i64 qre) := (blk_cell Vv.out 4).trans rfl
                have cv5 : w8.cell? ⟨sv, 5, none⟩ = some (.int .i64 qpa) := (blk_cell Vv.out 5).trans rfl
                go_wp2_with fail
                refine (CA.out _ (i4s_own Or1.out) (is_own Or2.out) (is_own Or3.out)).mono ?_
                rintro e w9 ⟨X5, x5, y5, rfl, o5, hb⟩
                clear cv0 cv1 cv2 cv3 cv4 cv5
                replace Vv := Lib.hid (blk_below Vv.out hb (blk_lt Vv.out))
                replace Ox := Lib.hid (own_below Ox.out hb)
                replace Or1 := Lib.hid (own_below Or1.out hb)
                replace Or2 := Lib.hid (own_below Or2.out hb)
                replace Or3 := Lib.hid (own_below Or3.out hb)
                replace HB := Lib.hid (And.intro (HB.out.1.trans (hb.mono HB.out.2)) (Nat.le_trans HB.out.2 hb.size))
                clear hb
                have Oy5 := Lib.hid (show w9.ownsRow _ 5 1 (.slice X5 x5 y5) x5 ((bs.take mm).map (Value.int .u8)) from o5)
                clear o5
                have RBn := Lib.hid (Bs.below RB.out HB.out.1)
                obtain ⟨A6, c6, hsl, hb6⟩ := RBn.out.sliceh (P := Try.prog) 28 undBytes sizeByte (mm : Int) mm rfl hmb
                have HSL := Lib.hid hsl; have RB6 := Lib.hid hb6
                clear hsl hb6
                have cv0 : w9.cell? ⟨sv, 0, none⟩ = some (.slice A3 n3 c3x) := (blk_cell Vv.out 0).trans rfl
                have cv1 : w9.cell? ⟨sv, 1, none⟩ = some (.slice B3 m3 d3) := (blk_cell Vv.out 1).trans rfl
                have cv2 : w9.cell? ⟨sv, 2, none⟩ = some (.slice C3 k3 f3) := (blk_cell Vv.out 2).trans rfl
                have cv3 : w9.cell? ⟨sv, 3, none⟩ = some (.int .i64 qce) := (blk_cell Vv.out 3).trans rfl
                have cv4 : w9.cell? ⟨sv, 4, none⟩ = some (.int .i64 qre) := (blk_cell Vv.out 4).trans rfl
                have cv5 : w9.cell? ⟨sv, 5, none⟩ = some (.int .i64 qpa) := (blk_cell Vv.out 5).trans rfl
                go_wp2
                refine wp_region_noPanic ?_
                refine wp_region_held_drew (S := (fun wv => Below w9.heap.size w9 wv)) (by kernel_rfl) ((Below.refl w9.heap.size w9).drew) (fun hS => ?_)
                refine wpAnyH_take (i := 0) (oi := ⟨some 120, .move (.tmp 20), 29, "law.go:80", #[], none⟩) (v := ?_) rfl (by kernel_rfl) (by kernel_rfl) (by kernel_rfl) (fun _ _ _ h => h) (Or.inl ⟨by rfl, ?_⟩) hS ?_
                rotate_left
                · intro wv _; go_simp; try with_reducible rfl
                try simp only [Act.put, List.setIfInBounds_toArray, List.set_cons_zero, List.set_cons_succ]
                refine wpAnyH_take (i := 1) (oi := ⟨some 121, .binOp .eql 29 (.tmp 120) (.const (Value.int IntKind.i64 0)) 29, 4, "law.go:80", #[⟨0, .data⟩], none⟩) (v := ?_) rfl (by kernel_rfl) (by kernel_rfl) (by kernel_rfl) (fun _ _ _ h => h) (Or.inl ⟨by rfl, ?_⟩) hS ?_
                rotate_left
                · intro wv _; go_simp; try with_reducible rfl
                try simp only [Act.put, List.setIfInBounds_toArray, List.set_cons_zero, List.set_cons_succ]
                refine wpAnyH_take (i := 2) (oi := ⟨some 122, .move (.tmp 121), 4, "law.go:80", #[⟨1, .data⟩], none⟩) (v := ?_) rfl (by kernel_rfl) (by kernel_rfl) (by kernel_rfl) (fun _ _ _ h => h) (Or.inl ⟨by rfl, ?_⟩) hS ?_
                rotate_left
                · intro wv _; go_simp; try with_reducible rfl
                try simp only [Act.put, List.setIfInBounds_toArray, List.set_cons_zero, List.set_cons_succ]
                refine wpAnyH_take (i := 3) (oi := ⟨some 123, .move (.tmp 17), 3, "law.go:80", #[⟨2, .guard⟩], some (2, true)⟩) (v := ?_) rfl (by kernel_rfl) (by kernel_rfl) (by kernel_rfl) (fun _ _ _ h => h) (Or.inl ⟨by rfl, ?_⟩) hS ?_
                rotate_left
                · intro wv _; go_simp; try with_reducible rfl
                try simp only [Act.put, List.setIfInBounds_toArray, List.set_cons_zero, List.set_cons_succ]
                refine wpAnyH_take (i := 4) (oi := ⟨some 124, .move (.tmp 2), 28, "law.go:80", #[⟨2, .guard⟩], some (2, true)⟩) (v := ?_) rfl (by kernel_rfl) (by kernel_rfl) (by kernel_rfl) (fun _ _ _ h => h) (Or.inl ⟨by rfl, ?_⟩) hS ?_
                rotate_left
                · intro wv _; go_simp; try with_reducible rfl
                try simp only [Act.put, List.setIfInBounds_toArray, List.set_cons_zero, List.set_cons_succ]
                refine wpAnyH_take (i := 5) (oi := ⟨some 125, .call { callee := .builtin .len, args := #[.tmp 124], argTypes := #[28] }, 3, "law.go:80", #[⟨4, .data⟩, ⟨2, .guard⟩], some (2, true)⟩) (v := ?_) rfl (by kernel_rfl) (by kernel_rfl) (by kernel_rfl) (fun _ _ _ h => h) (Or.inl ⟨by rfl, ?_⟩) hS ?_
                rotate_left
                · intro wv _; go_simp; try with_reducible rfl
                try simp only [Act.put, List.setIfInBounds_toArray, List.set_cons_zero, List.set_cons_succ]
                refine wpAnyH_take (i := 6) (oi := ⟨some 126, .binOp .leq 3 (.tmp 123) (.tmp 125) 3, 4, "law.go:80", #[⟨3, .data⟩, ⟨5, .data⟩, ⟨2, .guard⟩], some (2, true)⟩) (v := ?_) rfl (by kernel_rfl) (by kernel_rfl) (by kernel_rfl) (fun _ _ _ h => h) (Or.inl ⟨by rfl, ?_⟩) hS ?_
                rotate_left
                · intro wv _; go_simp; try with_reducible rfl
                try simp only [Act.put, List.setIfInBounds_toArray, List.set_cons_zero, List.set_cons_succ]
                refine wpAnyH_take (i := 7) (oi := ⟨some 127, .pick (.tmp 122) (.tmp 126) (.const (Value.bool false)), 4, "law.go:80", #[⟨2, .data⟩, ⟨6, .data⟩], none⟩) (v := ?_) rfl (by kernel_rfl) (by kernel_rfl) (by kernel_rfl) (fun _ _ _ h => h) (Or.inl ⟨by rfl, ?_⟩) hS ?_
                rotate_left
                · intro wv _; go_simp; try with_reducible rfl
                try simp only [Act.put, List.setIfInBounds_toArray, List.set_cons_zero, List.set_cons_succ]
                refine wpAnyH_take (i := 8) (oi := ⟨some 128, .move (.tmp 127), 4, "law.go:80", #[⟨7, .data⟩, ⟨2, .chain⟩], none⟩) (v := ?_) rfl (by kernel_rfl) (by kernel_rfl) (by kernel_rfl) (fun _ _ _ h => h) (Or.inl ⟨by rfl, ?_⟩) hS ?_
                rotate_left
                · intro wv _; go_simp; try with_reducible rfl
                try simp only [Act.put, List.setIfInBounds_toArray, List.set_cons_zero, List.set_cons_succ]
                refine wpAnyH_take (i := 9) (oi := ⟨some 129, .move (.tmp 19), 28, "law.go:80", #[⟨8, .guard⟩], some (8, true)⟩) (v := ?_) rfl (by kernel_rfl) (by kernel_rfl) (by kernel_rfl) (fun _ _ _ h => h) (Or.inl ⟨by rfl, ?_⟩) hS ?_
                rotate_left
                · intro wv _; go_simp; try with_reducible rfl
                try simp only [Act.put, List.setIfInBounds_toArray, List.set_cons_zero, List.set_cons_succ]
                refine wpAnyH_take (i := 10) (oi := ⟨some 130, .convert 28 9 (.tmp 129), 9, "law.go:80", #[⟨9, .data⟩, ⟨8, .guard⟩], some (8, true)⟩) (v := ?_) rfl (by kernel_rfl) (by kernel_rfl) (by kernel_rfl) (fun _ _ _ h => h) (Or.inl ⟨by rfl, ?_⟩) hS ?_
                rotate_left
                · intro wv hS; have hrun := (Bs.text (Bs.below (own_bs Oy5.out BYT.out) hS)); go_simp; try with_reducible rfl
                try simp only [Act.put, List.setIfInBounds_toArray, List.set_cons_zero, List.set_cons_succ]
                refine wpAnyH_take (i := 11) (oi := ⟨some 131, .move (.tmp 2), 28, "law.go:80", #[⟨8, .guard⟩], some (8, true)⟩) (v := ?_) rfl (by kernel_rfl) (by kernel_rfl) (by kernel_rfl) (fun _ _ _ h => h) (Or.inl ⟨by rfl, ?_⟩) hS ?_
                rotate_left
                · intro wv _; go_simp; try with_reducible rfl
                try simp only [Act.put, List.setIfInBounds_toArray, List.set_cons_zero, List.set_cons_succ]
                refine wpAnyH_take (i := 12) (oi := ⟨some 132, .move (.tmp 17), 3, "law.go:80", #[⟨8, .guard⟩], some (8, true)⟩) (v := ?_) rfl (by kernel_rfl) (by kernel_rfl) (by kernel_rfl) (fun _ _ _ h => h) (Or.inl ⟨by rfl, ?_⟩) hS ?_
                rotate_left
                · intro wv _; go_simp; try with_reducible rfl
                try simp only [Act.put, List.setIfInBounds_toArray, List.set_cons_zero, List.set_cons_succ]
                refine wpAnyH_take (i := 13) (oi := ⟨some 133, .slice 28 (.tmp 131) none (some (.tmp 132)) none, 28, "law.go:80", #[⟨11, .data⟩, ⟨12, .data⟩, ⟨8, .guard⟩], some (8, true)⟩) (v := ?_) rfl (by kernel_rfl) (by kernel_rfl) (by kernel_rfl) (fun _ _ _ h => h) (Or.inl ⟨by rfl, ?_⟩) hS ?_
                rotate_left
                · intro wv hS; have hrun := (HSL.out wv); go_simp; try with_reducible rfl
                try simp only [Act.put, List.setIfInBounds_toArray, List.set_cons_zero, List.set_cons_succ]
                refine wpAnyH_take (i := 14) (oi := ⟨some 134, .convert 28 9 (.tmp 133), 9, "law.go:80", #[⟨13, .data⟩, ⟨8, .guard⟩], some (8, true)⟩) (v := ?_) rfl (by kernel_rfl) (by kernel_rfl) (by kernel_rfl) (fun _ _ _ h => h) (Or.inl ⟨by rfl, ?_⟩) hS ?_
                rotate_left
                · intro wv hS; have hrun := (Bs.text (Bs.below RB6.out hS)); go_simp; try with_reducible rfl
                try simp only [Act.put, List.setIfInBounds_toArray, List.set_cons_zero, List.set_cons_succ]
                refine wpAnyH_take (i := 15) (oi := ⟨some 135, .binOp .eql 9 (.tmp 130) (.tmp 134) 9, 4, "law.go:80", #[⟨10, .data⟩, ⟨14, .data⟩, ⟨8, .guard⟩], some (8, true)⟩) (v := ?_) rfl (by kernel_rfl) (by kernel_rfl) (by kernel_rfl) (fun _ _ _ h => h) (Or.inl ⟨by rfl, ?_⟩) hS ?_
                rotate_left
                · intro wv _; go_simp; try with_reducible rfl
                try simp only [Act.put, List.setIfInBounds_toArray, List.set_cons_zero, List.set_cons_succ]
                refine wpAnyH_take (i := 16) (oi := ⟨some 136, .pick (.tmp 128) (.tmp 135) (.const (Value.bool false)), 4, "law.go:80", #[⟨8, .data⟩, ⟨15, .data⟩], none⟩) (v := ?_) rfl (by kernel_rfl) (by kernel_rfl) (by kernel_rfl) (fun _ _ _ h => h) (Or.inl ⟨by rfl, ?_⟩) hS ?_
                rotate_left
                · intro wv _; go_simp; try with_reducible rfl
                try simp only [Act.put, List.setIfInBounds_toArray, List.set_cons_zero, List.set_cons_succ]
                refine wpAnyH_take (i := 17) (oi := ⟨some 137, .move (.tmp 136), 4, "law.go:80", #[⟨16, .data⟩, ⟨8, .chain⟩], none⟩) (v := ?_) rfl (by kernel_rfl) (by kernel_rfl) (by kernel_rfl) (fun _ _ _ h => h) (Or.inl ⟨by rfl, ?_⟩) hS ?_
                rotate_left
                · intro wv _; go_simp; try with_reducible rfl
                try simp only [Act.put, List.setIfInBounds_toArray, List.set_cons_zero, List.set_cons_succ]
                refine wpAnyH_take (i := 18) (oi := ⟨some 138, .load 25 (.tmp 16), 25, "law.go:80", #[⟨17, .guard⟩], some (17, true)⟩) (v := .agg (([.slice A3 n3 c3x, .slice B3 m3 d3, .slice C3 k3 f3, .int .i64 qce, .int .i64 qre, .int .i64 qpa] : List Value)).toArray) rfl (by kernel_rfl) (by kernel_rfl) (by kernel_rfl) (fun _ _ _ h => h) (yieldsIf_load_mid (by rfl) _ _ (by rfl) (sv) (0) (by rfl) (([.slice A3 n3 c3x, .slice B3 m3 d3, .slice C3 k3 f3, .int .i64 qce, .int .i64 qre, .int .i64 qpa] : List Value)) _ (fun wv hS => blk_rngl (blk_below Vv.out hS (blk_lt Vv.out))) Try.underlying25 (by rfl) (by kernel_rfl)) hS ?_
                try simp only [Act.put, List.setIfInBounds_toArray, List.set_cons_zero, List.set_cons_succ]
                refine wpAnyH_ready (rs := [19]) (by kernel_rfl) (by simp) (AllReadyH.cons (o := ⟨some 139, .call { callee := .value (.func 14), args := #[.tmp 138], argTypes := #[25] }, 4, "law.go:80", #[⟨18, .data⟩, ⟨17, .chain⟩, ⟨17, .guard⟩], some (17, true)⟩) rfl (fun K hK => ?_) AllReadyH.nil)
                go_simp
                refine (CR.out _ (Es.below (i4s_own Or1.out) hS) (Es.below (is_own Or2.out) hS) (Es.below (is_own Or3.out) hS)).mono ?_; rintro e u19 ⟨rfl, hb⟩
                replace hS := hS.trans (hb.mono hS.size)
                clear hb
                go_wp2_with fail
                refine Shut.out hK _ _ hS (fun _ => ?_)
                clear hK K
                try simp only [Act.put, List.setIfInBounds_toArray, List.set_cons_zero, List.set_cons_succ]
                refine wpAnyH_take (i := 20) (oi := ⟨some 140, .pick (.tmp 137) (.tmp 139) (.const (Value.bool false)), 4, "law.go:80", #[⟨17, .data⟩, ⟨19, .data⟩], none⟩) (v := ?_) rfl (by kernel_rfl) (by kernel_rfl) (by kernel_rfl) (fun _ _ _ h => h) (Or.inl ⟨by rfl, ?_⟩) hS ?_
                rotate_left
                · intro wv _; go_simp; try with_reducible rfl
                try simp only [Act.put, List.setIfInBounds_toArray, List.set_cons_zero, List.set_cons_succ]
                refine wpAnyH_take (i := 21) (oi := ⟨some 6, .assign (.tmp 140), 4, "law.go:80", #[⟨20, .data⟩, ⟨19, .chain⟩, ⟨0, .phase⟩, ⟨1, .phase⟩, ⟨2, .phase⟩, ⟨3, .phase⟩, ⟨4, .phase⟩, ⟨5, .phase⟩, ⟨6, .phase⟩, ⟨7, .phase⟩, ⟨8, .phase⟩, ⟨9, .phase⟩, ⟨10, .phase⟩, ⟨11, .phase⟩, ⟨12, .phase⟩, ⟨13, .phase⟩, ⟨14, .phase⟩, ⟨15, .phase⟩, ⟨16, .phase⟩, ⟨17, .phase⟩, ⟨18, .phase⟩, ⟨19, .phase⟩, ⟨20, .phase⟩], none⟩) (v := ?_) rfl (by kernel_rfl) (by kernel_rfl) (by kernel_rfl) (fun _ _ _ h => h) (Or.inl ⟨by rfl, ?_⟩) hS ?_
                rotate_left
                · intro wv _; go_simp; try with_reducible rfl
                try simp only [Act.put, List.setIfInBounds_toArray, List.set_cons_zero, List.set_cons_succ]
                refine wpAnyH_done (by kernel_rfl) ?_ _
                refine NoPanic.normal ?_
                go_wp2
                go_ret
                exact ⟨rfl, HB.out.1.trans (hS.mono HB.out.2)⟩
              · obtain ⟨hnx, hqc⟩ := HER.out he
                have z0 : (er != 0) = true := by simpa using he
                have z1 : (nx == 0) = true := by simp [hnx]
                have HN3 : n3 = 0 := by have h7 : qc.length = n3 := I4s.len (i4s_own Or1.out); rw [hqc] at h7; simp at h7; omega
                have t3 : ((n3 : Int) == 0) = true := by simp; omega
                have t3n : (n3 == 0) = true := by simp; omega
                clear he HN3 hnx hqc
                have cv0 : w8.cell? ⟨sv, 0, none⟩ = some (.slice A3 n3 c3x) := (blk_cell Vv.out 0).trans rfl
                have cv1 : w8.cell? ⟨sv, 1, none⟩ = some (.slice B3 m3 d3) := (blk_cell Vv.out 1).trans rfl
                have cv2 : w8.cell? ⟨sv, 2, none⟩ = some (.slice C3 k3 f3) := (blk_cell Vv.out 2).trans rfl
                have cv3 : w8.cell? ⟨sv, 3, none⟩ = some (.int .i64 qce) := (blk_cell Vv.out 3).trans rfl
                have cv4 : w8.cell? ⟨sv, 4, none⟩ = some (.int .i64 qre) := (blk_cell Vv.out 4).trans rfl
                have cv5 : w8.cell? ⟨sv, 5, none⟩ = some (.int .i64 qpa) := (blk_cell Vv.out 5).trans rfl
                go_wp2
                go_ret
                exact ⟨rfl, HB.out.1⟩
        · have hap : appendPg al ⟨co, ki, si, ce, re, pa⟩ = ([], 1) := by unfold appendPg; rw [if_neg hrt]
          rw [hap] at c1
          replace c1 := Lib.hid c1
          clear hap hrt hpb
          go_enter Try.func5, Try.ntmps5
          go_wp2_with fail
          refine (alive13 _).mono ?_
          rintro e w2 ⟨rfl, hb⟩
          replace Vt := Lib.hid (blk_below Vt.out hb (blk_lt Vt.out))
          replace RX := Lib.hid (Es.below RX.out hb)
          replace RY := Lib.hid (Es.below RY.out hb)
          replace RZ := Lib.hid (Es.below RZ.out hb)
          replace HB := Lib.hid (And.intro (HB.out.1.trans (hb.mono HB.out.2)) (Nat.le_trans HB.out.2 hb.size))
          clear hb
          have ct0 : w2.cell? ⟨w.heap.size, 0, none⟩ = some (.slice A n c) := (blk_cell Vt.out 0).trans rfl
          have ct1 : w2.cell? ⟨w.heap.size, 1, none⟩ = some (.slice B m d) := (blk_cell Vt.out 1).trans rfl
          have ct2 : w2.cell? ⟨w.heap.size, 2, none⟩ = some (.slice C k f) := (blk_cell Vt.out 2).trans rfl
          have ct3 : w2.cell? ⟨w.heap.size, 3, none⟩ = some (.int .i64 ce) := (blk_cell Vt.out 3).trans rfl
          have ct4 : w2.cell? ⟨w.heap.size, 4, none⟩ = some (.int .i64 re) := (blk_cell Vt.out 4).trans rfl
          have ct5 : w2.cell? ⟨w.heap.size, 5, none⟩ = some (.int .i64 pa) := (blk_cell Vt.out 5).trans rfl
          go_wp2_with fail
          refine (g1.out _).mono ?_
          rintro e w3 ⟨rfl, hb⟩
          clear ct0 ct1 ct2 ct3 ct4 ct5
          replace Vt := Lib.hid (blk_below Vt.out hb (blk_lt Vt.out))
          replace RX := Lib.hid (Es.below RX.out hb)
          replace RY := Lib.hid (Es.below RY.out hb)
          replace RZ := Lib.hid (Es.below RZ.out hb)
          replace HB := Lib.hid (And.intro (HB.out.1.trans (hb.mono HB.out.2)) (Nat.le_trans HB.out.2 hb.size))
          clear hb
          have ct0 : w3.cell? ⟨w.heap.size, 0, none⟩ = some (.slice A n c) := (blk_cell Vt.out 0).trans rfl
          have ct1 : w3.cell? ⟨w.heap.size, 1, none⟩ = some (.slice B m d) := (blk_cell Vt.out 1).trans rfl
          have ct2 : w3.cell? ⟨w.heap.size, 2, none⟩ = some (.slice C k f) := (blk_cell Vt.out 2).trans rfl
          have ct3 : w3.cell? ⟨w.heap.size, 3, none⟩ = some (.int .i64 ce) := (blk_cell Vt.out 3).trans rfl
          have ct4 : w3.cell? ⟨w.heap.size, 4, none⟩ = some (.int .i64 re) := (blk_cell Vt.out 4).trans rfl
          have ct5 : w3.cell? ⟨w.heap.size, 5, none⟩ = some (.int .i64 pa) := (blk_cell Vt.out 5).trans rfl
          go_wp2_with fail
          refine (c1.out _ RX.out RY.out RZ.out (Bs.below RA.out HB.out.1)).mono ?_
          rintro e w4 ⟨X1, x1, y1, rfl, o1, hb⟩
          clear ct0 ct1 ct2 ct3 ct4 ct5
          replace Vt := Lib.hid (blk_below Vt.out hb (blk_lt Vt.out))
          replace RX := Lib.hid (Es.below RX.out hb)
          replace RY := Lib.hid (Es.below RY.out hb)
          replace RZ := Lib.hid (Es.below RZ.out hb)
          replace HB := Lib.hid (And.intro (HB.out.1.trans (hb.mono HB.out.2)) (Nat.le_trans HB.out.2 hb.size))
          clear hb
          clear o1
          go_wp2_with fail
          refine (c2.out _ (Bs.below RB.out HB.out.1)).mono ?_
          rintro e w5 ⟨A3, n3, c3x, B3, m3, d3, C3, k3, f3, rfl, oc, ok, os, hb⟩
          replace Vt := Lib.hid (blk_below Vt.out hb (blk_lt Vt.out))
          replace RX := Lib.hid (Es.below RX.out hb)
          replace RY := Lib.hid (Es.below RY.out hb)
          replace RZ := Lib.hid (Es.below RZ.out hb)
          replace HB := Lib.hid (And.intro (HB.out.1.trans (hb.mono HB.out.2)) (Nat.le_trans HB.out.2 hb.size))
          clear hb
          have Or1 := Lib.hid oc
          clear oc
          have Or2 := Lib.hid ok
          clear ok
          have Or3 := Lib.hid os
          clear os
          have ltt := blk_lt Vt.out
          have gq := HB.out.2
          obtain ⟨w6, hw6⟩ : ∃ W, (w5.alloc (.cells #[.slice A3 n3 c3x, .slice B3 m3 d3, .slice C3 k3 f3, .int .i64 qce, .int .i64 qre, .int .i64 qpa] 25)) = W := ⟨_, rfl⟩
          have hb : Below w5.heap.size w5 w6 := hw6 ▸ ((Below.refl _ _).alloc (Nat.le_refl _) _)
          have hv0 : w6.heap[w5.heap.size]? = some (.cells #[.slice A3 n3 c3x, .slice B3 m3 d3, .slice C3 k3 f3, .int .i64 qce, .int .i64 qre, .int .i64 qpa] 25) := by
            have h0 := heap_alloc_new w5 (.cells #[.slice A3 n3 c3x, .slice B3 m3 d3, .slice C3 k3 f3, .int .i64 qce, .int .i64 qre, .int .i64 qpa] 25)
            rw [show w5.heap.size = w5.heap.size by simp [Nat.add_assoc]] at h0
            rw [← hw6]
            exact h0
          replace Vt := Lib.hid (blk_below Vt.out hb (blk_lt Vt.out))
          replace RX := Lib.hid (Es.below RX.out hb)
          replace RY := Lib.hid (Es.below RY.out hb)
          replace RZ := Lib.hid (Es.below RZ.out hb)
          replace Or1 := Lib.hid (own_below Or1.out hb)
          replace Or2 := Lib.hid (own_below Or2.out hb)
          replace Or3 := Lib.hid (own_below Or3.out hb)
          replace HB := Lib.hid (And.intro (HB.out.1.trans (hb.mono HB.out.2)) (Nat.le_trans HB.out.2 hb.size))
          have Vv := Lib.hid hv0
          have net_v := Nat.ne_of_lt ltt
          have gev := gq
          generalize hsv : w5.heap.size = sv at *
          clear hb gq hv0 ltt
          by_cases he : er = 0
          · obtain ⟨q1, q2, mm, q3, q4, q5⟩ := HOK.out he
            subst he
            obtain rfl : nx = (mm : Int) := q3
            have z0 : ((0 : Int) != 0) = false := rfl
            have z1 : ((0 : Int) == 0) = true := rfl
            have HL1 := Lib.hid (show n3 ≤ 60 ∧ m3 ≤ 8 ∧ k3 ≤ 8 from by have h7 : qc.length = n3 := I4s.len (i4s_own Or1.out); have h8 : qk.length = m3 := Is.len (is_own Or2.out); have h9 : qs.length = k3 := Is.len (is_own Or3.out); have h10 : qc.length ≤ 60 ∧ qk.length ≤ 8 ∧ qs.length ≤ 8 := HSM.out; omega)
            have hnb : appendPg [] ⟨qc, qk, qs, qce, qre, qpa⟩ = (bs.take mm, 0) := by unfold appendPg; rw [if_pos (rightPg_iff.2 q1), q5, List.nil_append]
            have CA := Lib.hid (fun (W : World) (h1 : I4s W A3 n3 c3x qc) (h2 : Is W B3 m3 d3 qk) (h3 : Is W C3 k3 f3 qs) => by have h9 := cdAppend_any A3 n3 c3x B3 m3 d3 C3 k3 f3 qc qk qs qce qre qpa W h1 h2 h3 (by have := HL1.out; omega) (by have := HL1.out; omega) (by have := HL1.out; omega) q2 none 0 0 [] (Bs.nil _ _ _) (by omega); rw [hnb] at h9; exact h9)
            have CR := Lib.hid (fun (W : World) (h1 : I4s W A3 n3 c3x qc) (h2 : Is W B3 m3 d3 qk) (h3 : Is W C3 k3 f3 qs) => by have h9 := refRight13_any A3 n3 c3x B3 m3 d3 C3 k3 f3 qc qk qs qce qre qpa W h1 h2 h3 (by have := HL1.out; omega) (by have := HL1.out; omega) (by have := HL1.out; omega); rw [rightPg_iff.2 q1] at h9; exact h9)
            have hmb : mm ≤ ub := by omega
            have lm : decide ((mm : Int) ≤ (ub : Int)) = true := by simp; omega
            have lmn : decide (mm ≤ ub) = true := by simp; omega
            have BYT := Lib.hid (show ∀ b ∈ bs.take mm, 0 ≤ b ∧ b ≤ 255 from fun b hb => BYB.out b (List.mem_of_mem_take hb))
            clear q1 q2 q4 q5 hnb
            have cv0 : w6.cell? ⟨sv, 0, none⟩ = some (.slice A3 n3 c3x) := (blk_cell Vv.out 0).trans rfl
            have cv1 : w6.cell? ⟨sv, 1, none⟩ = some (.slice B3 m3 d3) := (blk_cell Vv.out 1).trans rfl
            have cv2 : w6.cell? ⟨sv, 2, none⟩ = some (.slice C3 k3 f3) := (blk_cell Vv.out 2).trans rfl
            have cv3 : w6.cell? ⟨sv, 3, none⟩ = some (.int .i64 qce) := (blk_cell Vv.out 3).trans rfl
            have cv4 : w6.cell? ⟨sv, 4, none⟩ = some (.int .i64 qre) := (blk_cell Vv.out 4).trans rfl
            have cv5 : w6.cell? ⟨sv, 5, none⟩ = some (.int .i64 qpa) := (blk_cell Vv.out 5).trans rfl
            go_wp2_with fail
            refine (CA.out _ (i4s_own Or1.out) (is_own Or2.out) (is_own Or3.out)).mono ?_
            rintro e w7 ⟨X5, x5, y5, rfl, o5, hb⟩
            clear cv0 cv1 cv2 cv3 cv4 cv5
            replace Vt := Lib.hid (blk_below Vt.out hb (blk_lt Vt.out))
            replace Vv := Lib.hid (blk_below Vv.out hb (blk_lt Vv.out))
            replace RX := Lib.hid (Es.below RX.out hb)
            replace RY := Lib.hid (Es.below RY.out hb)
            replace RZ := Lib.hid (Es.below RZ.out hb)
            replace Or1 := Lib.hid (own_below Or1.out hb)
            replace Or2 := Lib.hid (own_below Or2.out hb)
            replace Or3 := Lib.hid (own_below Or3.out hb)
            replace HB := Lib.hid (And.intro (HB.out.1.trans (hb.mono HB.out.2)) (Nat.le_trans HB.out.2 hb.size))
            clear hb
            have Oy5 := Lib.hid (show w7.ownsRow _ 5 1 (.slice X5 x5 y5) x5 ((bs.take mm).map (Value.int .u8)) from o5)
            clear o5
            have RBn := Lib.hid (Bs.below RB.out HB.out.1)
            obtain ⟨A6, c6, hsl, hb6⟩ := RBn.out.sliceh (P := Try.prog) 28 undBytes sizeByte (mm : Int) mm rfl hmb
            have HSL := Lib.hid hsl; have RB6 := Lib.hid hb6
            clear hsl hb6
            have cv0 : w7.cell? ⟨sv, 0, none⟩ = some (.slice A3 n3 c3x) := (blk_cell Vv.out 0).trans rfl
            have cv1 : w7.cell? ⟨sv, 1, none⟩ = some (.slice B3 m3 d3) := (blk_cell Vv.out 1).trans rfl
            have cv2 : w7.cell? ⟨sv, 2, none⟩ = some (.slice C3 k3 f3) := (blk_cell Vv.out 2).trans rfl
            have cv3 : w7.cell? ⟨sv, 3, none⟩ = some (.int .i64 qce) := (blk_cell Vv.out 3).trans rfl
            have cv4 : w7.cell? ⟨sv, 4, none⟩ = some (.int .i64 qre) := (blk_cell Vv.out 4).trans rfl
            have cv5 : w7.cell? ⟨sv, 5, none⟩ = some (.int .i64 qpa) := (blk_cell Vv.out 5).trans rfl
            go_wp2
            refine wp_region_noPanic ?_
            refine wp_region_held_drew (S := (fun wv => Below w7.heap.size w7 wv)) (by kernel_rfl) ((Below.refl w7.heap.size w7).drew) (fun hS => ?_)
            refine wpAnyH_take (i := 0) (oi := ⟨some 120, .move (.tmp 20), 29, "law.go:80", #[], none⟩) (v := ?_) rfl (by kernel_rfl) (by kernel_rfl) (by kernel_rfl) (fun _ _ _ h => h) (Or.inl ⟨by rfl, ?_⟩) hS ?_
            rotate_left
            · intro wv _; go_simp; try with_reducible rfl
            try simp only [Act.put, List.setIfInBounds_toArray, List.set_cons_zero, List.set_cons_succ]
            refine wpAnyH_take (i := 1) (oi := ⟨some 121, .binOp .eql 29 (.tmp 120) (.const (Value.int IntKind.i64 0)) 29, 4, "law.go:80", #[⟨0, .data⟩], none⟩) (v := ?_) rfl (by kernel_rfl) (by kernel_rfl) (by kernel_rfl) (fun _ _ _ h => h) (Or.inl ⟨by rfl, ?_⟩) hS ?_
            rotate_left
            · intro wv _; go_simp; try with_reducible rfl
            try simp only [Act.put, List.setIfInBounds_toArray, List.set_cons_zero, List.set_cons_succ]
            refine wpAnyH_take (i := 2) (oi := ⟨some 122, .move (.tmp 121), 4, "law.go:80", #[⟨1, .data⟩], none⟩) (v := ?_) rfl (by kernel_rfl) (by kernel_rfl) (by kernel_rfl) (fun _ _ _ h => h) (Or.inl ⟨by rfl, ?_⟩) hS ?_
            rotate_left
            · intro wv _; go_simp; try with_reducible rfl
            try simp only [Act.put, List.setIfInBounds_toArray, List.set_cons_zero, List.set_cons_succ]
            refine wpAnyH_take (i := 3) (oi := ⟨some 123, .move (.tmp 17), 3, "law.go:80", #[⟨2, .guard⟩], some (2, true)⟩) (v := ?_) rfl (by kernel_rfl) (by kernel_rfl) (by kernel_rfl) (fun _ _ _ h => h) (Or.inl ⟨by rfl, ?_⟩) hS ?_
            rotate_left
            · intro wv _; go_simp; try with_reducible rfl
            try simp only [Act.put, List.setIfInBounds_toArray, List.set_cons_zero, List.set_cons_succ]
            refine wpAnyH_take (i := 4) (oi := ⟨some 124, .move (.tmp 2), 28, "law.go:80", #[⟨2, .guard⟩], some (2, true)⟩) (v := ?_) rfl (by kernel_rfl) (by kernel_rfl) (by kernel_rfl) (fun _ _ _ h => h) (Or.inl ⟨by rfl, ?_⟩) hS ?_
            rotate_left
            · intro wv _; go_simp; try with_reducible rfl
            try simp only [Act.put, List.setIfInBounds_toArray, List.set_cons_zero, List.set_cons_succ]
            refine wpAnyH_take (i := 5) (oi := ⟨some 125, .call { callee := .builtin .len, args := #[.tmp 124], argTypes := #[28] }, 3, "law.go:80", #[⟨4, .data⟩, ⟨2, .guard⟩], some (2, true)⟩) (v := ?_) rfl (by kernel_rfl) (by kernel_rfl) (by kernel_rfl) (fun _ _ _ h => h) (Or.inl ⟨by rfl, ?_⟩) hS ?_
            rotate_left
            · intro wv _; go_simp; try with_reducible rfl
            try simp only [Act.put, List.setIfInBounds_toArray, List.set_cons_zero, List.set_cons_succ]
            refine wpAnyH_take (i := 6) (oi := ⟨some 126, .binOp .leq 3 (.tmp 123) (.tmp 125) 3, 4, "law.go:80", #[⟨3, .data⟩, ⟨5, .data⟩, ⟨2, .guard⟩], some (2, true)⟩) (v := ?_) rfl (by kernel_rfl) (by kernel_rfl) (by kernel_rfl) (fun _ _ _ h => h) (Or.inl ⟨by rfl, ?_⟩) hS ?_
            rotate_left
            · intro wv _; go_simp; try with_reducible rfl
            try simp only [Act.put, List.setIfInBounds_toArray, List.set_cons_zero, List.set_cons_succ]
            refine wpAnyH_take (i := 7) (oi := ⟨some 127, .pick (.tmp 122) (.tmp 126) (.const (Value.bool false)), 4, "law.go:80", #[⟨2, .data⟩, ⟨6, .data⟩], none⟩) (v := ?_) rfl (by kernel_rfl) (by kernel_rfl) (by kernel_rfl) (fun _ _ _ h => h) (Or.inl ⟨by rfl, ?_⟩) hS ?_
            rotate_left
            · intro wv _; go_simp; try with_reducible rfl
            try simp only [Act.put, List.setIfInBounds_toArray, List.set_cons_zero, List.set_cons_succ]
            refine wpAnyH_take (i := 8) (oi := ⟨some 128, .move (.tmp 127), 4, "law.go:80", #[⟨7, .data⟩, ⟨2, .chain⟩], none⟩) (v := ?_) rfl (by kernel_rfl) (by kernel_rfl) (by kernel_rfl) (fun _ _ _ h => h) (Or.inl ⟨by rfl, ?_⟩) hS ?_
            rotate_left
            · intro wv _; go_simp; try with_reducible rfl
            try simp only [Act.put, List.setIfInBounds_toArray, List.set_cons_zero, List.set_cons_succ]
            refine wpAnyH_take (i := 9) (oi := ⟨some 129, .move (.tmp 19), 28, "law.go:80", #[⟨8, .guard⟩], some (8, true)⟩) (v := ?_) rfl (by kernel_rfl) (by kernel_rfl) (by kernel_rfl) (fun _ _ _ h => h) (Or.inl ⟨by rfl, ?_⟩) hS ?_
            rotate_left
            · intro wv _; go_simp; try with_reducible rfl
            try simp only [Act.put, List.setIfInBounds_toArray, List.set_cons_zero, List.set_cons_succ]
            refine wpAnyH_take (i := 10) (oi := ⟨some 130, .convert 28 9 (.tmp 129), 9, "law.go:80", #[⟨9, .data⟩, ⟨8, .guard⟩], some (8, true)⟩) (v := ?_) rfl (by kernel_rfl) (by kernel_rfl) (by kernel_rfl) (fun _ _ _ h => h) (Or.inl ⟨by rfl, ?_⟩) hS ?_
            rotate_left
            · intro wv hS; have hrun := (Bs.text (Bs.below (own_bs Oy5.out BYT.out) hS)); go_simp; try with_reducible rfl
            try simp only [Act.put, List.setIfInBounds_toArray, List.set_cons_zero, List.set_cons_succ]
            refine wpAnyH_take (i := 11) (oi := ⟨some 131, .move (.tmp 2), 28, "law.go:80", #[⟨8, .guard⟩], some (8, true)⟩) (v := ?_) rfl (by kernel_rfl) (by kernel_rfl) (by kernel_rfl) (fun _ _ _ h => h) (Or.inl ⟨by rfl, ?_⟩) hS ?_
            rotate_left
            · intro wv _; go_simp; try with_reducible rfl
            try simp only [Act.put, List.setIfInBounds_toArray, List.set_cons_zero, List.set_cons_succ]
            refine wpAnyH_take (i := 12) (oi := ⟨some 132, .move (.tmp 17), 3, "law.go:80", #[⟨8, .guard⟩], some (8, true)⟩) (v := ?_) rfl (by kernel_rfl) (by kernel_rfl) (by kernel_rfl) (fun _ _ _ h => h) (Or.inl ⟨by rfl, ?_⟩) hS ?_
            rotate_left
            · intro wv _; go_simp; try with_reducible rfl
            try simp only [Act.put, List.setIfInBounds_toArray, List.set_cons_zero, List.set_cons_succ]
            refine wpAnyH_take (i := 13) (oi := ⟨some 133, .slice 28 (.tmp 131) none (some (.tmp 132)) none, 28, "law.go:80", #[⟨11, .data⟩, ⟨12, .data⟩, ⟨8, .guard⟩], some (8, true)⟩) (v := ?_) rfl (by kernel_rfl) (by kernel_rfl) (by kernel_rfl) (fun _ _ _ h => h) (Or.inl ⟨by rfl, ?_⟩) hS ?_
            rotate_left
            · intro wv hS; have hrun := (HSL.out wv); go_simp; try with_reducible rfl
            try simp only [Act.put, List.setIfInBounds_toArray, List.set_cons_zero, List.set_cons_succ]
            refine wpAnyH_take (i := 14) (oi := ⟨some 134, .convert 28 9 (.tmp 133), 9, "law.go:80", #[⟨13, .data⟩, ⟨8, .guard⟩], some (8, true)⟩) (v := ?_) rfl (by kernel_rfl) (by kernel_rfl) (by kernel_rfl) (fun _ _ _ h => h) (Or.inl ⟨by rfl, ?_⟩) hS ?_
            rotate_left
            · intro wv hS; have hrun := (Bs.text (Bs.below RB6.out hS)); go_simp; try with_reducible rfl
            try simp only [Act.put, List.setIfInBounds_toArray, List.set_cons_zero, List.set_cons_succ]
            refine wpAnyH_take (i := 15) (oi := ⟨some 135, .binOp .eql 9 (.tmp 130) (.tmp 134) 9, 4, "law.go:80", #[⟨10, .data⟩, ⟨14, .data⟩, ⟨8, .guard⟩], some (8, true)⟩) (v := ?_) rfl (by kernel_rfl) (by kernel_rfl) (by kernel_rfl) (fun _ _ _ h => h) (Or.inl ⟨by rfl, ?_⟩) hS ?_
            rotate_left
            · intro wv _; go_simp; try with_reducible rfl
            try simp only [Act.put, List.setIfInBounds_toArray, List.set_cons_zero, List.set_cons_succ]
            refine wpAnyH_take (i := 16) (oi := ⟨some 136, .pick (.tmp 128) (.tmp 135) (.const (Value.bool false)), 4, "law.go:80", #[⟨8, .data⟩, ⟨15, .data⟩], none⟩) (v := ?_) rfl (by kernel_rfl) (by kernel_rfl) (by kernel_rfl) (fun _ _ _ h => h) (Or.inl ⟨by rfl, ?_⟩) hS ?_
            rotate_left
            · intro wv _; go_simp; try with_reducible rfl
            try simp only [Act.put, List.setIfInBounds_toArray, List.set_cons_zero, List.set_cons_succ]
            refine wpAnyH_take (i := 17) (oi := ⟨some 137, .move (.tmp 136), 4, "law.go:80", #[⟨16, .data⟩, ⟨8, .chain⟩], none⟩) (v := ?_) rfl (by kernel_rfl) (by kernel_rfl) (by kernel_rfl) (fun _ _ _ h => h) (Or.inl ⟨by rfl, ?_⟩) hS ?_
            rotate_left
            · intro wv _; go_simp; try with_reducible rfl
            try simp only [Act.put, List.setIfInBounds_toArray, List.set_cons_zero, List.set_cons_succ]
            refine wpAnyH_take (i := 18) (oi := ⟨some 138, .load 25 (.tmp 16), 25, "law.go:80", #[⟨17, .guard⟩], some (17, true)⟩) (v := .agg (([.slice A3 n3 c3x, .slice B3 m3 d3, .slice C3 k3 f3, .int .i64 qce, .int .i64 qre, .int .i64 qpa] : List Value)).toArray) rfl (by kernel_rfl) (by kernel_rfl) (by kernel_rfl) (fun _ _ _ h => h) (yieldsIf_load_mid (by rfl) _ _ (by rfl) (sv) (0) (by rfl) (([.slice A3 n3 c3x, .slice B3 m3 d3, .slice C3 k3 f3, .int .i64 qce, .int .i64 qre, .int .i64 qpa] : List Value)) _ (fun wv hS => blk_rngl (blk_below Vv.out hS (blk_lt Vv.out))) Try.underlying25 (by rfl) (by kernel_rfl)) hS ?_
            try simp only [Act.put, List.setIfInBounds_toArray, List.set_cons_zero, List.set_cons_succ]
            refine wpAnyH_ready (rs := [19]) (by kernel_rfl) (by simp) (AllReadyH.cons (o := ⟨some 139, .call { callee := .value (.func 14), args := #[.tmp 138], argTypes := #[25] }, 4, "law.go:80", #[⟨18, .data⟩, ⟨17, .chain⟩, ⟨17, .guard⟩], some (17, true)⟩) rfl (fun K hK => ?_) AllReadyH.nil)
            go_simp
            refine (CR.out _ (Es.below (i4s_own Or1.out) hS) (Es.below (is_own Or2.out) hS) (Es.below (is_own Or3.out) hS)).mono ?_; rintro e u19 ⟨rfl, hb⟩
            replace hS := hS.trans (hb.mono hS.size)
            clear hb
            go_wp2_with fail
            refine Shut.out hK _ _ hS (fun _ => ?_)
            clear hK K
            try simp only [Act.put, List.setIfInBounds_toArray, List.set_cons_zero, List.set_cons_succ]
            refine wpAnyH_take (i := 20) (oi := ⟨some 140, .pick (.tmp 137) (.tmp 139) (.const (Value.bool false)), 4, "law.go:80", #[⟨17, .data⟩, ⟨19, .data⟩], none⟩) (v := ?_) rfl (by kernel_rfl) (by kernel_rfl) (by kernel_rfl) (fun _ _ _ h => h) (Or.inl ⟨by rfl, ?_⟩) hS ?_
            rotate_left
            · intro wv _; go_simp; try with_reducible rfl
            try simp only [Act.put, List.setIfInBounds_toArray, List.set_cons_zero, List.set_cons_succ]
            refine wpAnyH_take (i := 21) (oi := ⟨some 6, .assign (.tmp 140), 4, "law.go:80", #[⟨20, .data⟩, ⟨19, .chain⟩, ⟨0, .phase⟩, ⟨1, .phase⟩, ⟨2, .phase⟩, ⟨3, .phase⟩, ⟨4, .phase⟩, ⟨5, .phase⟩, ⟨6, .phase⟩, ⟨7, .phase⟩, ⟨8, .phase⟩, ⟨9, .phase⟩, ⟨10, .phase⟩, ⟨11, .phase⟩, ⟨12, .phase⟩, ⟨13, .phase⟩, ⟨14, .phase⟩, ⟨15, .phase⟩, ⟨16, .phase⟩, ⟨17, .phase⟩, ⟨18, .phase⟩, ⟨19, .phase⟩, ⟨20, .phase⟩], none⟩) (v := ?_) rfl (by kernel_rfl) (by kernel_rfl) (by kernel_rfl) (fun _ _ _ h => h) (Or.inl ⟨by rfl, ?_⟩) hS ?_
            rotate_left
            · intro wv _; go_simp; try with_reducible rfl
            try simp only [Act.put, List.setIfInBounds_toArray, List.set_cons_zero, List.set_cons_succ]
            refine wpAnyH_done (by kernel_rfl) ?_ _
            refine NoPanic.normal ?_
            go_wp2
            go_ret
            exact ⟨rfl, HB.out.1.trans (hS.mono HB.out.2)⟩
          · obtain ⟨hnx, hqc⟩ := HER.out he
            have z0 : (er != 0) = true := by simpa using he
            have z1 : (nx == 0) = true := by simp [hnx]
            have HN3 : n3 = 0 := by have h7 : qc.length = n3 := I4s.len (i4s_own Or1.out); rw [hqc] at h7; simp at h7; omega
            have t3 : ((n3 : Int) == 0) = true := by simp; omega
            have t3n : (n3 == 0) = true := by simp; omega
            clear he HN3 hnx hqc
            have cv0 : w6.cell? ⟨sv, 0, none⟩ = some (.slice A3 n3 c3x) := (blk_cell Vv.out 0).trans rfl
            have cv1 : w6.cell? ⟨sv, 1, none⟩ = some (.slice B3 m3 d3) := (blk_cell Vv.out 1).trans rfl
            have cv2 : w6.cell? ⟨sv, 2, none⟩ = some (.slice C3 k3 f3) := (blk_cell Vv.out 2).trans rfl
            have cv3 : w6.cell? ⟨sv, 3, none⟩ = some (.int .i64 qce) := (blk_cell Vv.out 3).trans rfl
            have cv4 : w6.cell? ⟨sv, 4, none⟩ = some (.int .i64 qre) := (blk_cell Vv.out 4).trans rfl
            have cv5 : w6.cell? ⟨sv, 5, none⟩ = some (.int .i64 qpa) := (blk_cell Vv.out 5).trans rfl
            go_wp2
            go_ret
            exact ⟨rfl, HB.out.1⟩
end Go.Proofs.Ytkoodhnfphmbnaa
