/- What the document's own numbers and Append of layer 13 answer; for programs of up to 16384 of each. -/
import Derived.Test.YtkoodhnfphmbnaaCodD
import Derived.Test.YtkoodhnfphmbnaaCodM
namespace Go.Proofs.Ytkoodhnfphmbnaa
set_option linter.unusedVariables false
set_option linter.unusedSimpArgs false
open Go.RowKit
/-- numbers of the call's own. -/
def OwnC (w : World) (xs : List Int) (e : Ending) (w' : World) : Prop := ∃ A n c, e = .returned (.slice A n c) ∧ w'.ownsRow w.heap.size 3 1 (.slice A n c) n (intC xs) ∧ Below w.heap.size w w'
/-- bytes of the call's own, and what was wrong. -/
def AppC (w : World) (r : List Int × Int) (e : Ending) (w' : World) : Prop := ∃ A n c, e = .returned (.tuple #[.slice A n c, .int .i64 r.2]) ∧ w'.ownsRow w.heap.size 5 1 (.slice A n c) n (r.1.map (Value.int .u8)) ∧ Below w.heap.size w w'
theorem codeN_app : ∀ a b, codeN (a ++ b) = codeN a ++ codeN b
  | [], b => rfl
  | x :: a, b => by simp [codeN, codeN_app a b]
theorem take_i4 {l : List I4} {i : Nat} (h : i < l.length) : l.take (i + 1) = l.take i ++ [inAt l i] := by
  rw [List.take_add_one, List.getElem?_eq_getElem h]
  unfold inAt
  rw [List.getD_eq_getElem?_getD, List.getElem?_eq_getElem h]; rfl
theorem objsN_take : ∀ {ks ss : List Int} {i : Nat}, ss.length = ks.length → i < ks.length → objsN (ks.take (i + 1)) (ss.take (i + 1)) = objsN (ks.take i) (ss.take i) ++ [ks.getD i 0, ss.getD i 0]
  | [], _, i, _, h => by simp at h
  | k :: ks, [], i, h, _ => by simp at h
  | k :: ks, s :: ss, 0, _, _ => rfl
  | k :: ks, s :: ss, i + 1, h, hi => by
    have := objsN_take (ks := ks) (ss := ss) (i := i) (by simpa using h) (by simpa using hi)
    simp only [List.take_succ_cons, objsN, this]
    rfl
theorem own_len {w : World} {base n c : Nat} {A : Option Addr} {l : List Int} (h : w.ownsRow base 3 1 (.slice A n c) n (intC l)) : l.length = n := by have h := h.1; rw [intC_len] at h; omega
theorem is_own {w : World} {base n c : Nat} {A : Option Addr} {l : List Int} (h : w.ownsRow base 3 1 (.slice A n c) n (intC l)) : Is w A n c l := by
  obtain ⟨B', d', he, hrs⟩ := Es.of_own h (intC_one _)
  injection he with he1 he2 he3; subst he1; subst he3; exact hrs
theorem Fr.over {w0 w w' : World} {q : Nat} {L : List Obj} (h : Fr w0 w q L) (hb : Below (q + L.length) w w') : Fr w0 w' q L :=
  ⟨fun k o hk => (hb.block (q + k) (by have := (List.getElem?_eq_some_iff.1 hk).1; omega)).trans (h.blk k o hk), h.bel.trans (hb.mono (by omega)), by have := hb.size; have := h.sz; omega, h.q0⟩
set_option maxRecDepth 100000 in
set_option maxHeartbeats 16000000 in
theorem refNumbers_any (A : Option Addr) (n c : Nat) (B : Option Addr) (m d : Nat) (C : Option Addr) (k f : Nat) (co : List I4) (ki si : List Int) (ce re pa : Int) (w : World) (hx : I4s w A n c co) (hy : Is w B m d ki) (hz : Is w C k f si) (hn : n ≤ 16384) (hm : m ≤ 16384) (hk : k ≤ 16384) (hkm : k = m) :
    Calls Try.prog 21 #[.agg #[.slice A n c, .slice B m d, .slice C k f, .int .i64 ce, .int .i64 re, .int .i64 pa]] w (OwnC w (numsP ⟨co, ki, si, ce, re, pa⟩)) := by
  obtain ⟨i5, hi5, hz0, hz1, hz2⟩ := info_of infoInt
  have HI := Lib.hid hi5; have HZ0 := Lib.hid hz0; have HZ1 := Lib.hid hz1; have HZ2 := Lib.hid hz2
  clear hi5 hz0 hz1 hz2
  have HLN := Lib.hid hx.len
  have HLM := Lib.hid (show ki.length = m from hy.len)
  have HLK := Lib.hid (show si.length = k from hz.len)
  have RX := Lib.hid hx; have RY := Lib.hid hy; have RZ := Lib.hid hz
  have HKM := Lib.hid hkm
  clear hx hy hz hkm
  obtain ⟨v1, hv1⟩ : ∃ W, w.alloc (.cells #[.slice A n c, .slice B m d, .slice C k f, .int .i64 ce, .int .i64 re, .int .i64 pa] 25) = W := ⟨_, rfl⟩
  have fr1 : Fr w v1 w.heap.size [.cells #[.slice A n c, .slice B m d, .slice C k f, .int .i64 ce, .int .i64 re, .int .i64 pa] 25] := hv1 ▸ Fr.first w _
  have z1 : v1.heap.size = w.heap.size + 1 := by rw [← hv1, Fr.size1]
  generalize hq : w.heap.size = q at *
  have FR := Lib.hid fr1
  clear fr1
  have c00 : v1.cell? ⟨q, 0, none⟩ = some (.slice A n c) := FR.out.cell 0 0 rfl rfl rfl
  have c01 : v1.cell? ⟨q, 1, none⟩ = some (.slice B m d) := FR.out.cell 0 1 rfl rfl rfl
  have c02 : v1.cell? ⟨q, 2, none⟩ = some (.slice C k f) := FR.out.cell 0 2 rfl rfl rfl
  have c03 : v1.cell? ⟨q, 3, none⟩ = some (.int .i64 ce) := FR.out.cell 0 3 rfl rfl rfl
  have c04 : v1.cell? ⟨q, 4, none⟩ = some (.int .i64 re) := FR.out.cell 0 4 rfl rfl rfl
  have c05 : v1.cell? ⟨q, 5, none⟩ = some (.int .i64 pa) := FR.out.cell 0 5 rfl rfl rfl
  have hsz0 := FR.out.sz
  simp only [List.length_cons, List.length_nil] at hsz0
  obtain ⟨w2, hw2⟩ : ∃ W, v1.alloc (.cells #[.int .i64 (n : Int)] 3) = W := ⟨_, rfl⟩
  have OW := Lib.hid (show w2.ownsRow (q + 1) 3 1 (.slice (some ⟨v1.heap.size, 0, none⟩) 1 1) 1 (intC [(n : Int)]) from hw2 ▸ lit_ints v1 hsz0 [(n : Int)] (by simp) rfl)
  have hb2 : Below v1.heap.size v1 w2 := hw2 ▸ (Below.refl _ _).alloc (Nat.le_refl _) _
  rw [z1] at OW
  replace FR := Lib.hid (FR.out.step hb2)
  go_enter Try.func21, Try.ntmps21
  go_wp2
  clear c00 c01 c02 c03 c04 c05
  clear hb2 hw2 hv1 z1 hsz0
  go_loopw [3, 4] (fun ov iv wr => ∃ (i u dd : Nat) (O : Option Addr), ov = .slice O u dd ∧ iv = .int .i64 (i : Int) ∧ i ≤ n ∧ u = 1 + 4 * i ∧ Hid (wr.ownsRow (q + 1) 3 1 (.slice O u dd) u (intC ((n : Int) :: codeN (co.take i)))) ∧ Hid (Fr w wr q [.cells #[.slice A n c, .slice B m d, .slice C k f, .int .i64 ce, .int .i64 re, .int .i64 pa] 25])) (fun _ iv _ => n - (intOf iv).toNat)
  case atStart => exact ⟨0, 1, 1, _, rfl, rfl, by omega, by omega, OW.out, FR.out⟩
  case round =>
    clear FR OW
    obtain ⟨i, u, dd, O, rfl, rfl, hi, hu, OW, FR⟩ := hrel
    by_cases hlt : i < n
    · have c1 : decide ((i : Int) < (n : Int)) = true := by simpa using hlt
      have c1n : decide (i < n) = true := by simpa using hlt
      have i0 : (0 : Int) ≤ (i : Int) := by omega
      have i1 : (i : Int) < (n : Int) := by omega
      obtain ⟨b, off, rfl, hb0, k0, k1, k2, k3⟩ := I4s.look (l := co) (FR.out.es RX.out) i hlt
      clear hb0
      have htk := take_i4 (l := co) (i := i) (by have := HLN.out; omega)
      obtain ⟨⟨o, a, bb, y⟩, hti⟩ : ∃ z, inAt co i = z := ⟨_, rfl⟩
      rw [hti] at k0 k1 k2 k3 htk
      simp only at k0 k1 k2 k3
      have HA := Lib.hid (show ((n : Int) :: codeN (co.take (i + 1))) = ((n : Int) :: codeN (co.take i)) ++ [o, a, bb, y] by rw [htk, codeN_app]; rfl)
      have HU := Lib.hid hu
      have hu2 : u ≤ 100000 := by omega
      clear htk hti hu
      have c00 : wr.cell? ⟨q, 0, none⟩ = some (.slice (some ⟨b, off, none⟩) n c) := FR.out.cell 0 0 rfl rfl rfl
      have c01 : wr.cell? ⟨q, 1, none⟩ = some (.slice B m d) := FR.out.cell 0 1 rfl rfl rfl
      have c02 : wr.cell? ⟨q, 2, none⟩ = some (.slice C k f) := FR.out.cell 0 2 rfl rfl rfl
      have c03 : wr.cell? ⟨q, 3, none⟩ = some (.int .i64 ce) := FR.out.cell 0 3 rfl rfl rfl
      have c04 : wr.cell? ⟨q, 4, none⟩ = some (.int .i64 re) := FR.out.cell 0 4 rfl rfl rfl
      have c05 : wr.cell? ⟨q, 5, none⟩ = some (.int .i64 pa) := FR.out.cell 0 5 rfl rfl rfl
      have ged := FR.out.sz
      simp only [List.length_cons, List.length_nil] at ged
      obtain ⟨w2, hw2⟩ : ∃ W, wr.alloc (.cells #[.int .i64 o, .int .i64 a, .int .i64 bb, .int .i64 y] 40) = W := ⟨_, rfl⟩
      have hb : Below wr.heap.size wr w2 := hw2 ▸ (Below.refl _ _).alloc (Nat.le_refl _) _
      have hv : w2.heap[wr.heap.size]? = some (.cells #[.int .i64 o, .int .i64 a, .int .i64 bb, .int .i64 y] 40) := hw2 ▸ heap_alloc_new _ _
      replace FR := Lib.hid (FR.out.step hb)
      replace OW := Lib.hid (own_below OW.out hb)
      have Vd := Lib.hid hv
      generalize hsd : wr.heap.size = sd at *
      clear hb hv
      have hsz := FR.out.sz
      simp only [List.length_cons, List.length_nil] at hsz
      obtain ⟨A4, c4, w9, hap4, hown4, hbel4⟩ := eapp_lit (P := Try.prog) (ty := 23) (w0 := w2) (base := (q + 1)) (W := w2) Try.underlying23 HI.out HZ0.out HZ1.out HZ2.out rfl (by decide) OW.out (intC_one _) (intC [o, a, bb, y]) (intC_one _) (m := 4) rfl (by unfold maxLen; omega) (by omega) (Below.refl _ w2) hsz
      rw [← intC_app] at hown4
      replace hap4 : (Builtin.append_ #[23, 23] 23 #[_, .slice (some ⟨w2.heap.size, 0, none⟩) 4 4]).run Try.prog (w2.alloc (.cells #[.int .i64 (o), .int .i64 (a), .int .i64 (bb), .int .i64 (y)] 3)) = _ := hap4
      have FR4 := Lib.hid (show Fr w w9 q [.cells #[.slice (some ⟨b, off, none⟩) n c, .slice B m d, .slice C k f, .int .i64 ce, .int .i64 re, .int .i64 pa] 25] from FR.out.over hbel4)
      have HO4 := Lib.hid hown4
      clear hown4 hbel4 hsz
      rw [← HA.out] at HO4
      have nc00 : w2.cell? ⟨q, 0, none⟩ = some (.slice (some ⟨b, off, none⟩) n c) := FR.out.cell 0 0 rfl rfl rfl
      have nc01 : w2.cell? ⟨q, 1, none⟩ = some (.slice B m d) := FR.out.cell 0 1 rfl rfl rfl
      have nc02 : w2.cell? ⟨q, 2, none⟩ = some (.slice C k f) := FR.out.cell 0 2 rfl rfl rfl
      have nc03 : w2.cell? ⟨q, 3, none⟩ = some (.int .i64 ce) := FR.out.cell 0 3 rfl rfl rfl
      have nc04 : w2.cell? ⟨q, 4, none⟩ = some (.int .i64 re) := FR.out.cell 0 4 rfl rfl rfl
      have nc05 : w2.cell? ⟨q, 5, none⟩ = some (.int .i64 pa) := FR.out.cell 0 5 rfl rfl rfl
      have ncd0 : w2.cell? ⟨sd, 0, none⟩ = some (.int .i64 o) := (blk_cell Vd.out 0).trans rfl
      have ncd1 : w2.cell? ⟨sd, 1, none⟩ = some (.int .i64 a) := (blk_cell Vd.out 1).trans rfl
      have ncd2 : w2.cell? ⟨sd, 2, none⟩ = some (.int .i64 bb) := (blk_cell Vd.out 2).trans rfl
      have ncd3 : w2.cell? ⟨sd, 3, none⟩ = some (.int .i64 y) := (blk_cell Vd.out 3).trans rfl
      clear OW Vd
      have e00 : w9.cell? ⟨q, 0, none⟩ = some (.slice (some ⟨b, off, none⟩) n c) := FR4.out.cell 0 0 rfl rfl rfl
      have e01 : w9.cell? ⟨q, 1, none⟩ = some (.slice B m d) := FR4.out.cell 0 1 rfl rfl rfl
      have e02 : w9.cell? ⟨q, 2, none⟩ = some (.slice C k f) := FR4.out.cell 0 2 rfl rfl rfl
      have e03 : w9.cell? ⟨q, 3, none⟩ = some (.int .i64 ce) := FR4.out.cell 0 3 rfl rfl rfl
      have e04 : w9.cell? ⟨q, 4, none⟩ = some (.int .i64 re) := FR4.out.cell 0 4 rfl rfl rfl
      have e05 : w9.cell? ⟨q, 5, none⟩ = some (.int .i64 pa) := FR4.out.cell 0 5 rfl rfl rfl
      go_wp2_with (at_builtin; refine eapp_run (by rfl) rfl rfl rfl hap4 ?_)
      go_roundw
      case rel => exact ⟨i + 1, u + 4, c4, A4, rfl, by go_num, by omega, by have := HU.out; omega, HO4.out, FR4⟩
      case measure => simp [intOf]; omega
    · have en : i = n := by omega
      have c1 : decide ((i : Int) < (n : Int)) = false := by simp; omega
      have c1n : decide (i < n) = false := by simp; omega
      have OWn := Lib.hid (show wr.ownsRow (q + 1) 3 1 (.slice O u dd) u (intC ((n : Int) :: codeN co)) by have h := OW.out; rw [List.take_of_length_le (by rw [HLN.out]; omega)] at h; exact h)
      have hu2 : u ≤ 100000 := by omega
      replace OW := OWn
      clear OWn en hlt hi hu
      have c00 : wr.cell? ⟨q, 0, none⟩ = some (.slice A n c) := FR.out.cell 0 0 rfl rfl rfl
      have c01 : wr.cell? ⟨q, 1, none⟩ = some (.slice B m d) := FR.out.cell 0 1 rfl rfl rfl
      have c02 : wr.cell? ⟨q, 2, none⟩ = some (.slice C k f) := FR.out.cell 0 2 rfl rfl rfl
      have c03 : wr.cell? ⟨q, 3, none⟩ = some (.int .i64 ce) := FR.out.cell 0 3 rfl rfl rfl
      have c04 : wr.cell? ⟨q, 4, none⟩ = some (.int .i64 re) := FR.out.cell 0 4 rfl rfl rfl
      have c05 : wr.cell? ⟨q, 5, none⟩ = some (.int .i64 pa) := FR.out.cell 0 5 rfl rfl rfl
      have hsz := FR.out.sz
      simp only [List.length_cons, List.length_nil] at hsz
      obtain ⟨A4, c4, w9, hap4, hown4, hbel4⟩ := eapp_lit (P := Try.prog) (ty := 23) (w0 := wr) (base := (q + 1)) (W := wr) Try.underlying23 HI.out HZ0.out HZ1.out HZ2.out rfl (by decide) OW.out (intC_one _) (intC [(m : Int)]) (intC_one _) (m := 1) rfl (by unfold maxLen; omega) (by omega) (Below.refl _ wr) hsz
      rw [← intC_app] at hown4
      replace hap4 : (Builtin.append_ #[23, 23] 23 #[_, .slice (some ⟨wr.heap.size, 0, none⟩) 1 1]).run Try.prog (wr.alloc (.cells #[.int .i64 ((m : Int))] 3)) = _ := hap4
      have FR4 := Lib.hid (show Fr w w9 q [.cells #[.slice A n c, .slice B m d, .slice C k f, .int .i64 ce, .int .i64 re, .int .i64 pa] 25] from FR.out.over hbel4)
      have HO4 := Lib.hid hown4
      clear hown4 hbel4 hsz
      have e00 : w9.cell? ⟨q, 0, none⟩ = some (.slice A n c) := FR4.out.cell 0 0 rfl rfl rfl
      have e01 : w9.cell? ⟨q, 1, none⟩ = some (.slice B m d) := FR4.out.cell 0 1 rfl rfl rfl
      have e02 : w9.cell? ⟨q, 2, none⟩ = some (.slice C k f) := FR4.out.cell 0 2 rfl rfl rfl
      have e03 : w9.cell? ⟨q, 3, none⟩ = some (.int .i64 ce) := FR4.out.cell 0 3 rfl rfl rfl
      have e04 : w9.cell? ⟨q, 4, none⟩ = some (.int .i64 re) := FR4.out.cell 0 4 rfl rfl rfl
      have e05 : w9.cell? ⟨q, 5, none⟩ = some (.int .i64 pa) := FR4.out.cell 0 5 rfl rfl rfl
      go_wp2_with (at_builtin; refine eapp_run (by rfl) rfl rfl rfl hap4 ?_)
      clear e00 e01 e02 e03 e04 e05
      clear c00 c01 c02 c03 c04 c05
      clear FR OW
      have FR := FR4; have OW := HO4
      clear FR4 HO4 hap4
      obtain ⟨wo, hwo⟩ : ∃ x, x = wr := ⟨_, rfl⟩
      subst hwo
      obtain ⟨u1, hu1⟩ : ∃ u1, u + 1 = u1 := ⟨_, rfl⟩
      rw [hu1] at OW ⊢
      have hu3 : u1 ≤ 100001 := by omega
      clear hu1 hu2
      go_loopw [3, 6] (fun ov iv wr => ∃ (i u dd : Nat) (O : Option Addr), ov = .slice O u dd ∧ iv = .int .i64 (i : Int) ∧ i ≤ m ∧ u ≤ 100001 + 2 * i ∧ Hid (wr.ownsRow (q + 1) 3 1 (.slice O u dd) u (intC (((n : Int) :: codeN co) ++ [(m : Int)] ++ objsN (ki.take i) (si.take i)))) ∧ Hid (Fr w wr q [.cells #[.slice A n c, .slice B m d, .slice C k f, .int .i64 ce, .int .i64 re, .int .i64 pa] 25])) (fun _ iv _ => m - (intOf iv).toNat)
      case atStart => exact ⟨0, u1, c4, A4, rfl, rfl, by omega, by omega, by have h := OW.out; refine (?_ : w9.ownsRow (q + 1) 3 1 _ _ _); simpa [objsN] using h, FR.out⟩
      case round =>
        clear FR OW
        obtain ⟨i, u, dd, O, rfl, rfl, hi, hu, OW, FR⟩ := hrel
        by_cases hlt : i < m
        · have c1 : decide ((i : Int) < (m : Int)) = true := by simpa using hlt
          have c1n : decide (i < m) = true := by simpa using hlt
          have i0 : (0 : Int) ≤ (i : Int) := by omega
          have i1 : (i : Int) < (m : Int) := by omega
          have i2 : (i : Int) < (k : Int) := by have := HKM.out; omega
          obtain ⟨b, off, kv, rfl, hlb, hlc, hdr⟩ := RY.out.look i hlt
          obtain ⟨b2, off2, sv, rfl, hlb2, hlc2, hdr2⟩ := RZ.out.look i (by omega)
          have HC1 := Lib.hid hlc; have HC2 := Lib.hid hlc2; have HB1 := Lib.hid hlb; have HB2 := Lib.hid hlb2
          have HA := Lib.hid (show (((n : Int) :: codeN co) ++ [(m : Int)] ++ objsN (ki.take (i + 1)) (si.take (i + 1))) = (((n : Int) :: codeN co) ++ [(m : Int)] ++ objsN (ki.take i) (si.take i)) ++ [kv, sv] by rw [objsN_take (by have := HLM.out; have := HLK.out; have := HKM.out; omega) (by have := HLM.out; omega), getD_at hdr, getD_at hdr2]; simp)
          clear hdr hdr2 hlc hlc2 hlb hlb2
          have FRd := Lib.hid (show Fr w wr.drew q [.cells #[.slice A n c, .slice (some ⟨b, off, none⟩) m d, .slice (some ⟨b2, off2, none⟩) k f, .int .i64 ce, .int .i64 re, .int .i64 pa] 25] from FR.out.drew)
          have OWd := Lib.hid (show wr.drew.ownsRow (q + 1) 3 1 (.slice O u dd) u (intC (((n : Int) :: codeN co) ++ [(m : Int)] ++ objsN (ki.take i) (si.take i))) from ⟨OW.out.1, OW.out.2⟩)
          have hu2 : u ≤ 140000 := by omega
          have c00 : wr.cell? ⟨q, 0, none⟩ = some (.slice A n c) := FR.out.cell 0 0 rfl rfl rfl
          have c01 : wr.cell? ⟨q, 1, none⟩ = some (.slice (some ⟨b, off, none⟩) m d) := FR.out.cell 0 1 rfl rfl rfl
          have c02 : wr.cell? ⟨q, 2, none⟩ = some (.slice (some ⟨b2, off2, none⟩) k f) := FR.out.cell 0 2 rfl rfl rfl
          have c03 : wr.cell? ⟨q, 3, none⟩ = some (.int .i64 ce) := FR.out.cell 0 3 rfl rfl rfl
          have c04 : wr.cell? ⟨q, 4, none⟩ = some (.int .i64 re) := FR.out.cell 0 4 rfl rfl rfl
          have c05 : wr.cell? ⟨q, 5, none⟩ = some (.int .i64 pa) := FR.out.cell 0 5 rfl rfl rfl
          clear FR OW
          have FR := FRd
          have hsz := FR.out.sz
          simp only [List.length_cons, List.length_nil] at hsz
          obtain ⟨A4, c4, w9, hap4, hown4, hbel4⟩ := eapp_lit (P := Try.prog) (ty := 23) (w0 := wr.drew) (base := (q + 1)) (W := wr.drew) Try.underlying23 HI.out HZ0.out HZ1.out HZ2.out rfl (by decide) OWd.out (intC_one _) (intC [kv, sv]) (intC_one _) (m := 2) rfl (by unfold maxLen; omega) (by omega) (Below.refl _ wr.drew) hsz
          rw [← intC_app] at hown4
          replace hap4 : (Builtin.append_ #[23, 23] 23 #[_, .slice (some ⟨wr.drew.heap.size, 0, none⟩) 2 2]).run Try.prog (wr.drew.alloc (.cells #[.int .i64 (kv), .int .i64 (sv)] 3)) = _ := hap4
          have FR4 := Lib.hid (show Fr w w9 q [.cells #[.slice A n c, .slice (some ⟨b, off, none⟩) m d, .slice (some ⟨b2, off2, none⟩) k f, .int .i64 ce, .int .i64 re, .int .i64 pa] 25] from FR.out.over hbel4)
          have HO4 := Lib.hid hown4
          clear hown4 hbel4 hsz
          rw [← HA.out] at HO4
          have HAP := Lib.hid hap4
          clear hap4 FRd
          go_wp2
          refine wp_region_noPanic ?_
          refine wp_region_held_drew (S := (fun wv => Hid (Fr w wv q [.cells #[.slice A n c, .slice (some ⟨b, off, none⟩) m d, .slice (some ⟨b2, off2, none⟩) k f, .int .i64 ce, .int .i64 re, .int .i64 pa] 25]))) (by kernel_rfl) (FR) (fun hS => ?_)
          refine wpAnyH_take (i := 0) (oi := ⟨some 47, .move (.tmp 3), 23, "ref.go:102", #[], none⟩) (v := ?_) rfl (by kernel_rfl) (by kernel_rfl) (by kernel_rfl) (fun _ _ _ h => h) (Or.inl ⟨by rfl, ?_⟩) hS ?_
          rotate_left
          · intro wv _; go_simp; try with_reducible rfl
          try simp only [Act.put, List.setIfInBounds_toArray, List.set_cons_zero, List.set_cons_succ]
          refine wpAnyH_take (i := 1) (oi := ⟨some 48, .fieldAddr 25 (.tmp 1) 1, 0, "ref.go:102", #[], none⟩) (v := ?_) rfl (by kernel_rfl) (by kernel_rfl) (by kernel_rfl) (fun _ _ _ h => h) (Or.inl ⟨by rfl, ?_⟩) hS ?_
          rotate_left
          · intro wv _; go_simp; try with_reducible rfl
          try simp only [Act.put, List.setIfInBounds_toArray, List.set_cons_zero, List.set_cons_succ]
          refine wpAnyH_take (i := 2) (oi := ⟨some 49, .load 23 (.tmp 48), 23, "ref.go:102", #[⟨1, .data⟩], none⟩) (v := ?_) rfl (by kernel_rfl) (by kernel_rfl) (by kernel_rfl) (fun _ _ _ h => h) (Or.inl ⟨by rfl, ?_⟩) hS ?_
          rotate_left
          · intro wv hS; have hrun := (show wv.cell? ⟨q, 1, none⟩ = some (.slice (some ⟨b, off, none⟩) m d) from hS.out.cell 0 1 rfl rfl rfl); go_simp; try with_reducible rfl
          try simp only [Act.put, List.setIfInBounds_toArray, List.set_cons_zero, List.set_cons_succ]
          refine wpAnyH_take (i := 3) (oi := ⟨some 50, .move (.tmp 6), 3, "ref.go:102", #[], none⟩) (v := ?_) rfl (by kernel_rfl) (by kernel_rfl) (by kernel_rfl) (fun _ _ _ h => h) (Or.inl ⟨by rfl, ?_⟩) hS ?_
          rotate_left
          · intro wv _; go_simp; try with_reducible rfl
          try simp only [Act.put, List.setIfInBounds_toArray, List.set_cons_zero, List.set_cons_succ]
          refine wpAnyH_take (i := 4) (oi := ⟨some 51, .indexAddr 23 (.tmp 49) (.tmp 50), 0, "ref.go:102", #[⟨2, .data⟩, ⟨3, .data⟩], none⟩) (v := ?_) rfl (by kernel_rfl) (by kernel_rfl) (by kernel_rfl) (fun _ _ _ h => h) (Or.inl ⟨by rfl, ?_⟩) hS ?_
          rotate_left
          · intro wv _; go_simp; try with_reducible rfl
          try simp only [Act.put, List.setIfInBounds_toArray, List.set_cons_zero, List.set_cons_succ]
          refine wpAnyH_take (i := 5) (oi := ⟨some 52, .load 3 (.tmp 51), 3, "ref.go:102", #[⟨4, .data⟩], none⟩) (v := ?_) rfl (by kernel_rfl) (by kernel_rfl) (by kernel_rfl) (fun _ _ _ h => h) (Or.inl ⟨by rfl, ?_⟩) hS ?_
          rotate_left
          · intro wv hS; have hrun := (hS.out.out.cell (p := ⟨b, off + i, none⟩) HB1.out).trans HC1.out; go_simp; try with_reducible rfl
          try simp only [Act.put, List.setIfInBounds_toArray, List.set_cons_zero, List.set_cons_succ]
          refine wpAnyH_take (i := 6) (oi := ⟨some 53, .fieldAddr 25 (.tmp 1) 2, 0, "ref.go:102", #[], none⟩) (v := ?_) rfl (by kernel_rfl) (by kernel_rfl) (by kernel_rfl) (fun _ _ _ h => h) (Or.inl ⟨by rfl, ?_⟩) hS ?_
          rotate_left
          · intro wv _; go_simp; try with_reducible rfl
          try simp only [Act.put, List.setIfInBounds_toArray, List.set_cons_zero, List.set_cons_succ]
          refine wpAnyH_take (i := 7) (oi := ⟨some 54, .load 23 (.tmp 53), 23, "ref.go:102", #[⟨6, .data⟩], none⟩) (v := ?_) rfl (by kernel_rfl) (by kernel_rfl) (by kernel_rfl) (fun _ _ _ h => h) (Or.inl ⟨by rfl, ?_⟩) hS ?_
          rotate_left
          · intro wv hS; have hrun := (show wv.cell? ⟨q, 2, none⟩ = some (.slice (some ⟨b2, off2, none⟩) k f) from hS.out.cell 0 2 rfl rfl rfl); go_simp; try with_reducible rfl
          try simp only [Act.put, List.setIfInBounds_toArray, List.set_cons_zero, List.set_cons_succ]
          refine wpAnyH_take (i := 8) (oi := ⟨some 55, .move (.tmp 6), 3, "ref.go:102", #[], none⟩) (v := ?_) rfl (by kernel_rfl) (by kernel_rfl) (by kernel_rfl) (fun _ _ _ h => h) (Or.inl ⟨by rfl, ?_⟩) hS ?_
          rotate_left
          · intro wv _; go_simp; try with_reducible rfl
          try simp only [Act.put, List.setIfInBounds_toArray, List.set_cons_zero, List.set_cons_succ]
          refine wpAnyH_take (i := 9) (oi := ⟨some 56, .indexAddr 23 (.tmp 54) (.tmp 55), 0, "ref.go:102", #[⟨7, .data⟩, ⟨8, .data⟩], none⟩) (v := ?_) rfl (by kernel_rfl) (by kernel_rfl) (by kernel_rfl) (fun _ _ _ h => h) (Or.inl ⟨by rfl, ?_⟩) hS ?_
          rotate_left
          · intro wv _; go_simp; try with_reducible rfl
          try simp only [Act.put, List.setIfInBounds_toArray, List.set_cons_zero, List.set_cons_succ]
          refine wpAnyH_take (i := 10) (oi := ⟨some 57, .load 3 (.tmp 56), 3, "ref.go:102", #[⟨9, .data⟩], none⟩) (v := ?_) rfl (by kernel_rfl) (by kernel_rfl) (by kernel_rfl) (fun _ _ _ h => h) (Or.inl ⟨by rfl, ?_⟩) hS ?_
          rotate_left
          · intro wv hS; have hrun := (hS.out.out.cell (p := ⟨b2, off2 + i, none⟩) HB2.out).trans HC2.out; go_simp; try with_reducible rfl
          try simp only [Act.put, List.setIfInBounds_toArray, List.set_cons_zero, List.set_cons_succ]
          refine wpAnyH_ready (rs := [11]) (by kernel_rfl) (by simp) (AllReadyH.cons (o := ⟨some 58, .buildSlice 23 2 #[(0, .tmp 52), (1, .tmp 57)], 23, "ref.go:102", #[⟨5, .data⟩, ⟨10, .data⟩], none⟩) rfl (fun K hK => ?_) AllReadyH.nil)
          go_simp
          replace hS := Lib.hid (FR.out.step ((Below.refl wr.drew.heap.size wr.drew).alloc (Nat.le_refl _) (.cells #[.int .i64 kv, .int .i64 sv] 3)))
          refine Shut.out hK _ _ hS (fun _ => ?_)
          clear hK K
          try simp only [Act.put, List.setIfInBounds_toArray, List.set_cons_zero, List.set_cons_succ]
          refine wpAnyH_ready (rs := [12]) (by kernel_rfl) (by simp) (AllReadyH.cons (o := ⟨some 59, .call { callee := .builtin .append, args := #[.tmp 47, .tmp 58], argTypes := #[23, 23] }, 23, "ref.go:102", #[⟨0, .data⟩, ⟨11, .data⟩], none⟩) rfl (fun K hK => ?_) AllReadyH.nil)
          refine op_app_run7 (by rfl) rfl rfl rfl HAP.out ?_
          replace hS := FR4
          refine Shut.out hK _ _ hS (fun _ => ?_)
          clear hK K
          try simp only [Act.put, List.setIfInBounds_toArray, List.set_cons_zero, List.set_cons_succ]
          refine wpAnyH_take (i := 13) (oi := ⟨some 3, .assign (.tmp 59), 23, "ref.go:102", #[⟨12, .data⟩, ⟨12, .chain⟩, ⟨0, .phase⟩, ⟨1, .phase⟩, ⟨2, .phase⟩, ⟨3, .phase⟩, ⟨4, .phase⟩, ⟨5, .phase⟩, ⟨6, .phase⟩, ⟨7, .phase⟩, ⟨8, .phase⟩, ⟨9, .phase⟩, ⟨10, .phase⟩, ⟨11, .phase⟩, ⟨12, .phase⟩], none⟩) (v := ?_) rfl (by kernel_rfl) (by kernel_rfl) (by kernel_rfl) (fun _ _ _ h => h) (Or.inl ⟨by rfl, ?_⟩) hS ?_
          rotate_left
          · intro wv _; go_simp; try with_reducible rfl
          try simp only [Act.put, List.setIfInBounds_toArray, List.set_cons_zero, List.set_cons_succ]
          refine wpAnyH_done (by kernel_rfl) ?_ _
          refine NoPanic.normal ?_
          go_wp2
          go_roundw
          case rel => exact ⟨i + 1, u + 2, c4, A4, rfl, by go_num, by omega, by omega, HO4.out, FR4⟩
          case measure => simp [intOf]; omega
        · have en : i = m := by omega
          have c1 : decide ((i : Int) < (m : Int)) = false := by simp; omega
          have c1n : decide (i < m) = false := by simp; omega
          have OWn := Lib.hid (show wr.ownsRow (q + 1) 3 1 (.slice O u dd) u (intC (((n : Int) :: codeN co) ++ [(m : Int)] ++ objsN ki si)) by have h := OW.out; rw [List.take_of_length_le (by rw [HLM.out]; omega), List.take_of_length_le (by have := HKM.out; rw [HLK.out]; omega)] at h; exact h)
          have hu2 : u ≤ 140000 := by omega
          replace OW := OWn
          clear OWn en hlt hi hu
          have c00 : wr.cell? ⟨q, 0, none⟩ = some (.slice A n c) := FR.out.cell 0 0 rfl rfl rfl
          have c01 : wr.cell? ⟨q, 1, none⟩ = some (.slice B m d) := FR.out.cell 0 1 rfl rfl rfl
          have c02 : wr.cell? ⟨q, 2, none⟩ = some (.slice C k f) := FR.out.cell 0 2 rfl rfl rfl
          have c03 : wr.cell? ⟨q, 3, none⟩ = some (.int .i64 ce) := FR.out.cell 0 3 rfl rfl rfl
          have c04 : wr.cell? ⟨q, 4, none⟩ = some (.int .i64 re) := FR.out.cell 0 4 rfl rfl rfl
          have c05 : wr.cell? ⟨q, 5, none⟩ = some (.int .i64 pa) := FR.out.cell 0 5 rfl rfl rfl
          have hsz := FR.out.sz
          simp only [List.length_cons, List.length_nil] at hsz
          obtain ⟨A4, c4, w9, hap4, hown4, hbel4⟩ := eapp_lit (P := Try.prog) (ty := 23) (w0 := wr) (base := (q + 1)) (W := wr) Try.underlying23 HI.out HZ0.out HZ1.out HZ2.out rfl (by decide) OW.out (intC_one _) (intC [ce, re, pa]) (intC_one _) (m := 3) rfl (by unfold maxLen; omega) (by omega) (Below.refl _ wr) hsz
          rw [← intC_app] at hown4
          replace hap4 : (Builtin.append_ #[23, 23] 23 #[_, .slice (some ⟨wr.heap.size, 0, none⟩) 3 3]).run Try.prog (wr.alloc (.cells #[.int .i64 (ce), .int .i64 (re), .int .i64 (pa)] 3)) = _ := hap4
          have FR4 := Lib.hid (show Fr w w9 q [.cells #[.slice A n c, .slice B m d, .slice C k f, .int .i64 ce, .int .i64 re, .int .i64 pa] 25] from FR.out.over hbel4)
          have HO4 := Lib.hid hown4
          clear hown4 hbel4 hsz
          have eN : ((n : Int) :: codeN co) ++ [(m : Int)] ++ objsN ki si ++ [ce, re, pa] = numsP ⟨co, ki, si, ce, re, pa⟩ := by unfold numsP; simp only; rw [HLN.out, HLM.out]; simp
          have HF0 := HO4.out
          rw [eN] at HF0
          have HF := Lib.hid HF0
          clear HF0 eN
          go_wp2_with (at_builtin; refine eapp_run (by rfl) rfl rfl rfl hap4 ?_)
          go_ret
          exact ⟨_, _, _, rfl, own_base HF.out (by rw [hq]; omega), FR4.out.out⟩
theorem nums_all {p : Pg} (r : RightPg p) (hb : PB p) : ∀ y ∈ numsP p, B64 y := by
  obtain ⟨g1, g2, g3, g4, g5⟩ := nums_b64 r hb
  intro y hy
  rw [nums_eq] at hy
  rcases List.mem_append.1 hy with h | hy
  · exact g1 y h
  rcases List.mem_append.1 hy with h | hy
  · exact g2 y h
  rcases List.mem_append.1 hy with h | hy
  · exact g3 y h
  rcases List.mem_append.1 hy with h | hy
  · exact g4 y h
  · exact g5 y hy
theorem nums_len {p : Pg} (r : RightPg p) : (numsP p).length ≤ 300 := by
  have h1 := r.n60; have h2 := r.k8
  unfold numsP
  simp only [List.length_cons, List.length_append, codeN_len, objsN_len _ _ r.ks, List.length_nil]
  omega
theorem bytesN_snoc (l : List Int) (y : Int) : bytesN (l ++ [y]) = bytesN l ++ vb (zig y).toNat := by rw [bytesN_app]; simp [bytesN]
theorem bytesN_byte : ∀ (l : List Int), ∀ b ∈ bytesN l, 0 ≤ b ∧ b ≤ 255
  | [], b, h => by simp [bytesN] at h
  | y :: l, b, h => by
    rcases List.mem_append.1 (show b ∈ vb (zig y).toNat ++ bytesN l from h) with h | h
    · exact vb_byte _ b h
    · exact bytesN_byte l b h
set_option maxRecDepth 100000 in
set_option maxHeartbeats 16000000 in
theorem refAppend13_any (A : Option Addr) (n c : Nat) (B : Option Addr) (m d : Nat) (C : Option Addr) (k f : Nat) (co : List I4) (ki si : List Int) (ce re pa : Int) (E : Option Addr) (u v : Nat) (bs : List Int) (w : World) (hx : I4s w A n c co) (hy : Is w B m d ki) (hz : Is w C k f si) (hn : n ≤ 16384) (hm : m ≤ 16384) (hk : k ≤ 16384) (hb : Bs w E u v bs) (hu : u ≤ 4096) (hpb : PB ⟨co, ki, si, ce, re, pa⟩) :
    Calls Try.prog 10 #[.slice E u v, .agg #[.slice A n c, .slice B m d, .slice C k f, .int .i64 ce, .int .i64 re, .int .i64 pa]] w (AppC w (appendPg bs ⟨co, ki, si, ce, re, pa⟩)) := by
  obtain ⟨i5, hi5, hz0, hz1, hz2⟩ := info_parts infoByte
  have HI := Lib.hid hi5; have HZ0 := Lib.hid hz0; have HZ1 := Lib.hid hz1; have HZ2 := Lib.hid hz2
  clear hi5 hz0 hz1 hz2
  have HLN := Lib.hid hx.len
  have RX := Lib.hid hx; have RY := Lib.hid hy; have RZ := Lib.hid hz; have RB := Lib.hid hb; have HPB := Lib.hid hpb; have HMK := Lib.hid (And.intro (show ki.length = m from hy.len) (show si.length = k from hz.len))
  have RT := fun (W : World) (h1 : I4s W A n c co) (h2 : Is W B m d ki) (h3 : Is W C k f si) => refRight13_any A n c B m d C k f co ki si ce re pa W h1 h2 h3 hn hm hk
  obtain ⟨R, hR⟩ : ∃ R, appendPg bs ⟨co, ki, si, ce, re, pa⟩ = R := ⟨_, rfl⟩
  rw [hR]
  clear hx hy hz hb hpb
  obtain ⟨v1, hv1⟩ : ∃ W, w.alloc (.cells #[.slice A n c, .slice B m d, .slice C k f, .int .i64 ce, .int .i64 re, .int .i64 pa] 25) = W := ⟨_, rfl⟩
  have fr1 : Fr w v1 w.heap.size [.cells #[.slice A n c, .slice B m d, .slice C k f, .int .i64 ce, .int .i64 re, .int .i64 pa] 25] := hv1 ▸ Fr.first w _
  have z1 : v1.heap.size = w.heap.size + 1 := by rw [← hv1, Fr.size1]
  generalize hq : w.heap.size = q at *
  have FR := Lib.hid fr1
  clear fr1
  cases hr : rightPg ⟨co, ki, si, ce, re, pa⟩
  · rw [hr] at RT
    replace RT := Lib.hid RT
    have HE := Lib.hid (show R = ([], 1) by rw [← hR]; unfold appendPg; rw [if_neg (by rw [hr]; simp)])
    clear hr hR
    go_enter Try.func10, Try.ntmps10
    have c00 : v1.cell? ⟨q, 0, none⟩ = some (.slice A n c) := FR.out.cell 0 0 rfl rfl rfl
    have c01 : v1.cell? ⟨q, 1, none⟩ = some (.slice B m d) := FR.out.cell 0 1 rfl rfl rfl
    have c02 : v1.cell? ⟨q, 2, none⟩ = some (.slice C k f) := FR.out.cell 0 2 rfl rfl rfl
    have c03 : v1.cell? ⟨q, 3, none⟩ = some (.int .i64 ce) := FR.out.cell 0 3 rfl rfl rfl
    have c04 : v1.cell? ⟨q, 4, none⟩ = some (.int .i64 re) := FR.out.cell 0 4 rfl rfl rfl
    have c05 : v1.cell? ⟨q, 5, none⟩ = some (.int .i64 pa) := FR.out.cell 0 5 rfl rfl rfl
    go_wp2_with fail
    refine ((RT.out _ (FR.out.es RX.out) (FR.out.es RY.out) (FR.out.es RZ.out))).mono ?_
    rintro e w2 ⟨rfl, hb⟩
    clear c00 c01 c02 c03 c04 c05
    replace FR := Lib.hid (FR.out.step hb)
    clear hb
    have c00 : w2.cell? ⟨q, 0, none⟩ = some (.slice A n c) := FR.out.cell 0 0 rfl rfl rfl
    have c01 : w2.cell? ⟨q, 1, none⟩ = some (.slice B m d) := FR.out.cell 0 1 rfl rfl rfl
    have c02 : w2.cell? ⟨q, 2, none⟩ = some (.slice C k f) := FR.out.cell 0 2 rfl rfl rfl
    have c03 : w2.cell? ⟨q, 3, none⟩ = some (.int .i64 ce) := FR.out.cell 0 3 rfl rfl rfl
    have c04 : w2.cell? ⟨q, 4, none⟩ = some (.int .i64 re) := FR.out.cell 0 4 rfl rfl rfl
    have c05 : w2.cell? ⟨q, 5, none⟩ = some (.int .i64 pa) := FR.out.cell 0 5 rfl rfl rfl
    go_wp2
    go_ret2
    rw [HE.out]
    exact ⟨none, 0, 0, rfl, World.ownsRow_nil _ _ _ _, FR.out.out⟩
  · rw [hr] at RT
    replace RT := Lib.hid RT
    have HE := Lib.hid (show R = (bs ++ bytesN (numsP ⟨co, ki, si, ce, re, pa⟩), 0) by rw [← hR]; unfold appendPg; rw [if_pos hr])
    have hri : RightPg ⟨co, ki, si, ce, re, pa⟩ := rightPg_iff.1 hr
    have HNA := Lib.hid (nums_all hri HPB.out)
    have hnl := nums_len hri
    have NM := Lib.hid (fun (W : World) (h1 : I4s W A n c co) (h2 : Is W B m d ki) (h3 : Is W C k f si) => refNumbers_any A n c B m d C k f co ki si ce re pa W h1 h2 h3 hn hm hk (by have h1 := hri.ks; simp only at h1; have := HMK.out; omega))
    obtain ⟨L, hL⟩ : ∃ L, numsP ⟨co, ki, si, ce, re, pa⟩ = L := ⟨_, rfl⟩
    rw [hL] at HE HNA NM hnl
    clear hr hR hri hL
    go_enter Try.func10, Try.ntmps10
    have c00 : v1.cell? ⟨q, 0, none⟩ = some (.slice A n c) := FR.out.cell 0 0 rfl rfl rfl
    have c01 : v1.cell? ⟨q, 1, none⟩ = some (.slice B m d) := FR.out.cell 0 1 rfl rfl rfl
    have c02 : v1.cell? ⟨q, 2, none⟩ = some (.slice C k f) := FR.out.cell 0 2 rfl rfl rfl
    have c03 : v1.cell? ⟨q, 3, none⟩ = some (.int .i64 ce) := FR.out.cell 0 3 rfl rfl rfl
    have c04 : v1.cell? ⟨q, 4, none⟩ = some (.int .i64 re) := FR.out.cell 0 4 rfl rfl rfl
    have c05 : v1.cell? ⟨q, 5, none⟩ = some (.int .i64 pa) := FR.out.cell 0 5 rfl rfl rfl
    go_wp2_with fail
    refine ((RT.out _ (FR.out.es RX.out) (FR.out.es RY.out) (FR.out.es RZ.out))).mono ?_
    rintro e w2 ⟨rfl, hb⟩
    clear c00 c01 c02 c03 c04 c05
    replace FR := Lib.hid (FR.out.step hb)
    clear hb
    have c00 : w2.cell? ⟨q, 0, none⟩ = some (.slice A n c) := FR.out.cell 0 0 rfl rfl rfl
    have c01 : w2.cell? ⟨q, 1, none⟩ = some (.slice B m d) := FR.out.cell 0 1 rfl rfl rfl
    have c02 : w2.cell? ⟨q, 2, none⟩ = some (.slice C k f) := FR.out.cell 0 2 rfl rfl rfl
    have c03 : w2.cell? ⟨q, 3, none⟩ = some (.int .i64 ce) := FR.out.cell 0 3 rfl rfl rfl
    have c04 : w2.cell? ⟨q, 4, none⟩ = some (.int .i64 re) := FR.out.cell 0 4 rfl rfl rfl
    have c05 : w2.cell? ⟨q, 5, none⟩ = some (.int .i64 pa) := FR.out.cell 0 5 rfl rfl rfl
    go_wp2_with fail
    refine (NM.out _ (FR.out.es RX.out) (FR.out.es RY.out) (FR.out.es RZ.out)).mono ?_
    rintro e w3 ⟨N, t, nc, rfl, hown, hb⟩
    clear c00 c01 c02 c03 c04 c05
    have hown0 := own_base hown (show w.heap.size ≤ w2.heap.size from FR.out.out.size)
    have RN := Lib.hid (show Ro 3 1 w w3 N t nc (intC L) from Ro.of_own hown0 (intC_one _))
    have htl : L.length = t := own_len hown
    replace FR := Lib.hid (FR.out.step hb)
    have HTL := Lib.hid htl
    have ht3 : t ≤ 300 := by omega
    clear hb hown hown0 htl
    obtain ⟨A3, c3, w4, hap, hown1, hb3, hbel⟩ := app_lit0 (P := Try.prog) w3 28 28 5 i5 _ Try.underlying28 HI.out HZ0.out HZ1.out HZ2.out rfl E u v _ (Bs.below RB.out FR.out.out) (by omega)
    have OW := Lib.hid (own_base hown1 (show w.heap.size ≤ w3.heap.size from FR.out.out.size))
    replace RN := Lib.hid (RN.out.below hbel)
    have HB := Lib.hid (show Below w.heap.size w w4 from (FR.out.step hbel).out)
    clear hb3 hown1 hbel
    have c00 : w3.cell? ⟨q, 0, none⟩ = some (.slice A n c) := FR.out.cell 0 0 rfl rfl rfl
    have c01 : w3.cell? ⟨q, 1, none⟩ = some (.slice B m d) := FR.out.cell 0 1 rfl rfl rfl
    have c02 : w3.cell? ⟨q, 2, none⟩ = some (.slice C k f) := FR.out.cell 0 2 rfl rfl rfl
    have c03 : w3.cell? ⟨q, 3, none⟩ = some (.int .i64 ce) := FR.out.cell 0 3 rfl rfl rfl
    have c04 : w3.cell? ⟨q, 4, none⟩ = some (.int .i64 re) := FR.out.cell 0 4 rfl rfl rfl
    have c05 : w3.cell? ⟨q, 5, none⟩ = some (.int .i64 pa) := FR.out.cell 0 5 rfl rfl rfl
    go_wp2_with (at_builtin; refine wpl_app_run rfl rfl rfl rfl hap ?_)
    clear c00 c01 c02 c03 c04 c05
    clear hap FR hv1 z1 hq
    go_loopw [7, 8] (fun ov iv wr => ∃ (i o dd : Nat) (O : Option Addr), ov = .slice O o dd ∧ iv = .int .i64 (i : Int) ∧ i ≤ t ∧ o ≤ 4096 + 10 * i ∧ Hid (wr.ownsRow w.heap.size 5 1 (.slice O o dd) o ((bs ++ bytesN (L.take i)).map (Value.int .u8))) ∧ Hid (Ro 3 1 w wr N t nc (intC L)) ∧ Hid (Below w.heap.size w wr)) (fun _ iv _ => t - (intOf iv).toNat)
    case atStart => exact ⟨0, u, c3, A3, rfl, rfl, by omega, by omega, by have h := OW.out; refine (?_ : w4.ownsRow w.heap.size 5 1 _ _ _); simpa [bytesN] using h, RN.out, HB.out⟩
    case round =>
      clear OW RN HB
      obtain ⟨i, o, dd, O, rfl, rfl, hi, ho, OW, RN, HB⟩ := hrel
      by_cases hlt : i < t
      · have c1 : decide ((i : Int) < (t : Int)) = true := by simpa using hlt
        have c1n : decide (i < t) = true := by simpa using hlt
        have i0 : (0 : Int) ≤ (i : Int) := by omega
        have i1 : (i : Int) < (t : Int) := by omega
        have hint : Is wr N t nc L := RN.out.es
        obtain ⟨lb, loff, y, rfl, hlb, hlc, hdr⟩ := hint.look i hlt
        have hy := HNA.out y (mem_at hdr)
        have hz := zig_range hy.1 hy.2
        have hzn := (zig_nat hy).2
        have hv10 := vs_le10 (zig y).toNat hzn
        have htk := take_step hdr
        have HA := Lib.hid (show bs ++ bytesN (L.take (i + 1)) = (bs ++ bytesN (L.take i)) ++ vb (zig y).toNat by rw [htk, bytesN_snoc, List.append_assoc])
        have PZ := Lib.hid (fun (W : World) => refZig_any y W hy.1 hy.2)
        have PB2 := Lib.hid (fun (W : World) => refBytes_any (zig y) W hz.1 hz.2)
        have HV := Lib.hid hv10
        obtain ⟨zz, hzz⟩ : ∃ z, zig y = z := ⟨_, rfl⟩
        rw [hzz] at PZ PB2 HA HV
        clear hint hlb hdr hy hz hzn hv10 htk hzz
        go_wp2_with fail
        refine (PZ.out _).mono ?_
        rintro e wz ⟨rfl, rfl⟩
        go_wp2_with fail
        refine (PB2.out _).mono ?_
        rintro e w5 ⟨A5, n5, c5, rfl, hb5, hbel5⟩
        have hn5 : n5 ≤ 10 := by have h1 := hb5.len; have h2 := HV.out; rw [vb_len] at h1; omega
        have hown2 := own_below OW.out hbel5
        have hsz5 := Nat.le_trans HB.out.size hbel5.size
        obtain ⟨v6, w6, hap6, hown6, hgr6, hbase6⟩ := app_own (P := Try.prog) w5 w.heap.size 28 28 5 i5 _ Try.underlying28 HI.out HZ0.out HZ1.out HZ2.out rfl _ o _ hown2 A5 n5 c5 _ hb5 (by omega) hsz5
        rw [← HA.out] at hown6
        obtain ⟨A6, c6, rfl⟩ := (show ∃ A6 c6, v6 = .slice A6 (o + n5) c6 from by obtain ⟨A6, c6, h, _⟩ := Es.of_own hown6 (ints_oneCell _ _); exact ⟨A6, c6, h⟩)
        have OW6 := Lib.hid hown6
        have RN6 := Lib.hid ((RN.out.below hbel5).grown hgr6 hown2 (by decide) (Nat.le_refl _))
        have HB6 := Lib.hid ((HB.out.trans (hbel5.mono HB.out.size)).grown hgr6 hsz5 (fun k hk => (hown2.lt k hk).1))
        clear hown6 hown2 hgr6 hbase6 hb5 hbel5 hsz5 hlc OW RN HB
        go_wp2_with (at_builtin; refine wpl_app_run rfl rfl rfl rfl hap6 ?_)
        go_roundw
        case rel => exact ⟨i + 1, o + n5, c6, A6, rfl, by go_num, by omega, by omega, OW6.out, RN6.out, HB6.out⟩
        case measure => simp [intOf]; omega
      · have en : i = t := by omega
        have c1 : decide ((i : Int) < (t : Int)) = false := by simp; omega
        have c1n : decide (i < t) = false := by simp; omega
        have OWn := Lib.hid (show wr.ownsRow w.heap.size 5 1 (.slice O o dd) o ((bs ++ bytesN L).map (Value.int .u8)) by have h := OW.out; rw [List.take_of_length_le (by rw [HTL.out]; omega)] at h; exact h)
        clear en hlt hi ho OW
        go_wp2
        go_ret2
        rw [HE.out]
        exact ⟨_, _, _, rfl, OWn.out, HB.out⟩
end Go.Proofs.Ytkoodhnfphmbnaa
