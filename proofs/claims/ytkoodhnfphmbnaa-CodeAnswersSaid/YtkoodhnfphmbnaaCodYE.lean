/- What the landed code's own Read answers; for bytes up to 16384. -/
import Derived.Test.YtkoodhnfphmbnaaCodYD
namespace Go.Proofs.Ytkoodhnfphmbnaa
set_option linter.unusedVariables false
set_option linter.unusedSimpArgs false
open Go.RowKit
/-- a program in its variable, its rows of the call's own. -/
def PV (w0 w : World) (sb : Nat) (p : Pg) (A : Option Addr) (n c : Nat) (B : Option Addr) (m d : Nat) (C : Option Addr) (kk f : Nat) : Prop :=
  w.heap[sb]? = some (.cells #[.slice A n c, .slice B m d, .slice C kk f, .int .i64 p.cells, .int .i64 p.recs, .int .i64 p.pat] 25) ∧ w.ownsRow w0.heap.size 40 4 (.slice A n c) n (insC p.code) ∧ w.ownsRow w0.heap.size 3 1 (.slice B m d) m (intC p.kinds) ∧ w.ownsRow w0.heap.size 3 1 (.slice C kk f) kk (intC p.sizes)
theorem PV.set {w0 w : World} {sb : Nat} {p : Pg} {A : Option Addr} {n c : Nat} {B : Option Addr} {m d : Nat} {C : Option Addr} {kk f : Nat} (h : PV w0 w sb p A n c B m d C kk f) {b : Nat} (hb : b < w0.heap.size) (hne : sb ≠ b) (j : Nat) (x : Value) : PV w0 (w.setCell ⟨b, j, none⟩ x) sb p A n c B m d C kk f :=
  ⟨by rw [Below.heap_setCell _ _ _ _ (by simp only; exact hne)]; exact h.1, own_apart h.2.1 hb, own_apart h.2.2.1 hb, own_apart h.2.2.2 hb⟩
/-- nothing that was is turned but two blocks. -/
structure But2 (r s : Nat) (w w' : World) : Prop where
  os : w'.os = w.os
  tape : w'.tape = w.tape
  output : w'.output = w.output
  size : w.heap.size ≤ w'.heap.size
  block : ∀ k, k < w.heap.size → k ≠ r → k ≠ s → w'.heap[k]? = w.heap[k]?
theorem But2.of_grown {r s : Nat} {w w' : World} (g : w.grownBy w' (some r)) : But2 r s w w' := ⟨g.os, g.tape, g.output, g.size, fun k hk h1 _ => g.block k hk (by simpa using h1)⟩
theorem But2.set {r s : Nat} {w w' : World} (h : But2 r s w w') (j : Nat) (x : Value) : But2 r s w (w'.setCell ⟨s, j, none⟩ x) :=
  ⟨h.os, h.tape, h.output, by simpa [World.setCell] using h.size, fun k hk h1 h2 => (Below.heap_setCell _ _ _ _ (by simp only; exact h2)).trans (h.block k hk h1 h2)⟩
theorem But2.below {r s : Nat} {w w' : World} (h : But2 r s w w') {B : Nat} (hB : B ≤ w.heap.size) (hr : B ≤ r) (hs : B ≤ s) : Below B w w' := ⟨h.os, h.tape, h.output, h.size, fun k hk => h.block k (by omega) (by omega) (by omega)⟩
theorem prog_err {bs : List Int} {at_ : Int} {p : Pg × Int × Int} (h : progS bs at_ = p) (he : p.2.2 ≠ 0) : p = (noPg, 0, p.2.2) := by
  obtain ⟨q, n, e⟩ := p
  obtain ⟨h1, h2⟩ := read_err ((read_prog bs at_).trans h) he
  rw [h1, h2]
set_option maxRecDepth 100000 in
set_option maxHeartbeats 4000000 in
theorem rcl_err (r : Nat) (E : Option Addr) (u v : Nat) (bs : List Int) (sb : Nat) (k : Int) (w : World) (hb : Bs w E u v bs) (hr : Rc w r E u v k) (hn : u ≤ 16384) (he : (progS bs k).2.2 ≠ 0) :
    Calls Try.prog 37 #[.pointer (some ⟨r, 0, none⟩), .pointer (some ⟨sb, 0, none⟩)] w (fun e w' => e = .panicked [PE (progS bs k).2.2] ∧ w.grownBy w' (some r)) := by
  have N := Lib.hid (show Calls Try.prog 38 #[.pointer (some ⟨r, 0, none⟩)] w (fun e w' => e = .panicked [PE (progS bs k).2.2] ∧ w.grownBy w' (some r)) from (program_any r E u v bs k w hb hr hn).mono (fun e w' h => by rcases h with h | h; exact h.2; exact absurd h.1 he))
  clear hb hr he
  go_enter Try.func37, Try.ntmps37
  go_wp2_with fail
  refine N.out.mono ?_
  rintro e w1 ⟨rfl, hg⟩
  exact ⟨rfl, rfl, hg⟩
set_option maxRecDepth 100000 in
set_option maxHeartbeats 4000000 in
theorem rcl_ok (r : Nat) (E : Option Addr) (u v : Nat) (bs : List Int) (sb : Nat) (k : Int) (p : Pg × Int × Int) (w : World) (hb : Bs w E u v bs) (hr : Rc w r E u v k) (hn : u ≤ 16384) (hp : progS bs k = p) (he : p.2.2 = 0) (hs : w.heap[sb]? = some (.cells #[.slice none 0 0, .slice none 0 0, .slice none 0 0, .int .i64 0, .int .i64 0, .int .i64 0] 25)) (hne : sb ≠ r) :
    Calls Try.prog 37 #[.pointer (some ⟨r, 0, none⟩), .pointer (some ⟨sb, 0, none⟩)] w (fun e w' => e = .returned (.tuple #[]) ∧ But2 r sb w w' ∧ Rc w' r E u v p.2.1 ∧ ∃ A n c B m d C kk f, PV w w' sb p.1 A n c B m d C kk f) := by
  have N := Lib.hid (show Calls Try.prog 38 #[.pointer (some ⟨r, 0, none⟩)] w (ProgC r E u v w p) from hp ▸ program_any r E u v bs k w hb hr hn)
  have HS := Lib.hid hs; have HNE := Lib.hid hne; have HE := Lib.hid he
  clear hb hr he hs hne hp
  go_enter Try.func37, Try.ntmps37
  go_wp2_with fail
  refine N.out.mono ?_
  rintro e w1 h1
  rcases h1 with ⟨h1, _⟩ | ⟨_, A, n, c, B, m, d, C, kk, f, rfl, hrd, hg, oc, ok, os⟩
  · exact absurd HE.out h1
  have hlt := blk_lt HS.out
  have HB1 := Lib.hid ((hg.block sb hlt (by have := HNE.out; simpa using this)).trans HS.out)
  have HLT := Lib.hid hlt
  have HRD := Lib.hid hrd; have HG := Lib.hid hg; have OC := Lib.hid oc; have OK := Lib.hid ok; have OS := Lib.hid os
  clear hlt hrd hg oc ok os N
  have g0 : w1.cell? ⟨sb, 0, none⟩ = some (.slice none 0 0) := (blk_cell HB1.out 0).trans rfl
  have g1 : w1.cell? ⟨sb, 1, none⟩ = some (.slice none 0 0) := (blk_cell HB1.out 1).trans rfl
  have g2 : w1.cell? ⟨sb, 2, none⟩ = some (.slice none 0 0) := (blk_cell HB1.out 2).trans rfl
  have g3 : w1.cell? ⟨sb, 3, none⟩ = some (.int .i64 0) := (blk_cell HB1.out 3).trans rfl
  have g4 : w1.cell? ⟨sb, 4, none⟩ = some (.int .i64 0) := (blk_cell HB1.out 4).trans rfl
  have g5 : w1.cell? ⟨sb, 5, none⟩ = some (.int .i64 0) := (blk_cell HB1.out 5).trans rfl
  have z0 : w1.frozen? ⟨sb, 0, none⟩ = false := blk_frozen HB1.out 0
  have z1 : w1.frozen? ⟨sb, 1, none⟩ = false := blk_frozen HB1.out 1
  have z2 : w1.frozen? ⟨sb, 2, none⟩ = false := blk_frozen HB1.out 2
  have z3 : w1.frozen? ⟨sb, 3, none⟩ = false := blk_frozen HB1.out 3
  have z4 : w1.frozen? ⟨sb, 4, none⟩ = false := blk_frozen HB1.out 4
  have z5 : w1.frozen? ⟨sb, 5, none⟩ = false := blk_frozen HB1.out 5
  go_wp2
  go_end0
  exact ⟨rfl, (((((((But2.of_grown (s := sb) HG.out).set 0 (.slice A n c)).set 1 (.slice B m d)).set 2 (.slice C kk f)).set 3 (.int .i64 p.1.cells)).set 4 (.int .i64 p.1.recs)).set 5 (.int .i64 p.1.pat)), ((((((HRD.out.other HNE.out 0 (.slice A n c)).other HNE.out 1 (.slice B m d)).other HNE.out 2 (.slice C kk f)).other HNE.out 3 (.int .i64 p.1.cells)).other HNE.out 4 (.int .i64 p.1.recs)).other HNE.out 5 (.int .i64 p.1.pat)), A, n, c, B, m, d, C, kk, f, (blk_set (j := 5) (blk_set (j := 4) (blk_set (j := 3) (blk_set (j := 2) (blk_set (j := 1) (blk_set (j := 0) HB1.out (.slice A n c)) (.slice B m d)) (.slice C kk f)) (.int .i64 p.1.cells)) (.int .i64 p.1.recs)) (.int .i64 p.1.pat)), (own_apart (own_apart (own_apart (own_apart (own_apart (own_apart OC.out (k := sb) (o := 0) (u := .slice A n c) HLT.out) (k := sb) (o := 1) (u := .slice B m d) HLT.out) (k := sb) (o := 2) (u := .slice C kk f) HLT.out) (k := sb) (o := 3) (u := .int .i64 p.1.cells) HLT.out) (k := sb) (o := 4) (u := .int .i64 p.1.recs) HLT.out) (k := sb) (o := 5) (u := .int .i64 p.1.pat) HLT.out), (own_apart (own_apart (own_apart (own_apart (own_apart (own_apart OK.out (k := sb) (o := 0) (u := .slice A n c) HLT.out) (k := sb) (o := 1) (u := .slice B m d) HLT.out) (k := sb) (o := 2) (u := .slice C kk f) HLT.out) (k := sb) (o := 3) (u := .int .i64 p.1.cells) HLT.out) (k := sb) (o := 4) (u := .int .i64 p.1.recs) HLT.out) (k := sb) (o := 5) (u := .int .i64 p.1.pat) HLT.out), (own_apart (own_apart (own_apart (own_apart (own_apart (own_apart OS.out (k := sb) (o := 0) (u := .slice A n c) HLT.out) (k := sb) (o := 1) (u := .slice B m d) HLT.out) (k := sb) (o := 2) (u := .slice C kk f) HLT.out) (k := sb) (o := 3) (u := .int .i64 p.1.cells) HLT.out) (k := sb) (o := 4) (u := .int .i64 p.1.recs) HLT.out) (k := sb) (o := 5) (u := .int .i64 p.1.pat) HLT.out)⟩
set_option maxRecDepth 100000 in
set_option maxHeartbeats 4000000 in
theorem readL_any (E : Option Addr) (u v : Nat) (bs : List Int) (at0 : Int) (w : World) (hb : Bs w E u v bs) (hu : u ≤ 16384) :
    Calls Try.prog 17 #[.slice E u v, .int .i64 at0] w (ReadC w (readPg bs at0)) := by
  have hmf : ∀ (fn : Fn) (first cap : Array Value) (w : World), (Instr.makeFunc fn first cap).run Try.prog w = .ok (.func fn first cap) w := fun _ _ _ _ => rfl
  have HB := Lib.hid hb
  rw [read_prog]
  obtain ⟨p, hp⟩ : ∃ p, progS bs at0 = p := ⟨_, rfl⟩
  rw [hp]
  clear hb
  obtain ⟨v1, hv1⟩ : ∃ W, w.alloc (.cells #[.slice none 0 0, .slice none 0 0, .slice none 0 0, .int .i64 0, .int .i64 0, .int .i64 0] 25) = W := ⟨_, rfl⟩
  have fr1 : Fr w v1 w.heap.size [.cells #[.slice none 0 0, .slice none 0 0, .slice none 0 0, .int .i64 0, .int .i64 0, .int .i64 0] 25] := hv1 ▸ Fr.first w _
  have z1 : v1.heap.size = w.heap.size + 1 := by rw [← hv1, Fr.size1]
  obtain ⟨v2, hv2⟩ : ∃ W, v1.alloc (.cells #[.slice E u v, .int .i64 at0] 59) = W := ⟨_, rfl⟩
  have fr2 : Fr w v2 w.heap.size [.cells #[.slice none 0 0, .slice none 0 0, .slice none 0 0, .int .i64 0, .int .i64 0, .int .i64 0] 25, .cells #[.slice E u v, .int .i64 at0] 59] := hv2 ▸ fr1.more z1 _
  have z2 : v2.heap.size = w.heap.size + 2 := by rw [← hv2, Fr.size1, z1]
  generalize hq : w.heap.size = q at *
  have FR := Lib.hid fr2
  clear fr1 fr2
  have HRD := Lib.hid (show Rc v2 (q + 1) E u v at0 from FR.out.blk 1 _ rfl)
  have HSB := Lib.hid (FR.out.blk 0 _ rfl)
  have hz2 : v2.heap.size = q + 2 := by omega
  have HZ2 := Lib.hid hz2
  have HQ := Lib.hid FR.out.q0
  have hd3 : Below v2.heap.size v2 (v2.alloc (.cells #[.int .i64 0] 29)) := (Below.refl _ _).alloc (Nat.le_refl _) _
  have HBV := Lib.hid (show Below q w v2 from FR.out.bel)
  by_cases he : p.2.2 = 0
  · have hcl := rcl_ok (q + 1) E u v bs q at0 p (v2.alloc (.cells #[.int .i64 0] 29)) ((HB.out.below FR.out.out).below hd3) (HRD.out.below hd3) hu hp he (by rw [heap_alloc_old _ _ (by omega)]; exact HSB.out) (by omega)
    have hca := Lib.hid (caught_ok 37 #[.pointer (some ⟨q + 1, 0, none⟩), .pointer (some ⟨q, 0, none⟩)] v2 _ (fun W => by rfl) (hcl.mono fun e w' ⟨h1, h2, h3⟩ => ⟨h1, (h2.block v2.heap.size (by simp) (by omega) (by omega)).trans (heap_alloc_new v2 _), And.intro h2 h3⟩))
    have HE := Lib.hid he
    clear hcl hd3 he hp hz2
    go_enter Try.func17, Try.ntmps17
    have c00 : v2.cell? ⟨q, 0, none⟩ = some (.slice none 0 0) := FR.out.cell 0 0 rfl rfl rfl
    have f00 : v2.frozen? ⟨q, 0, none⟩ = false := FR.out.frozen 0 0 rfl rfl
    have c01 : v2.cell? ⟨q, 1, none⟩ = some (.slice none 0 0) := FR.out.cell 0 1 rfl rfl rfl
    have f01 : v2.frozen? ⟨q, 1, none⟩ = false := FR.out.frozen 0 1 rfl rfl
    have c02 : v2.cell? ⟨q, 2, none⟩ = some (.slice none 0 0) := FR.out.cell 0 2 rfl rfl rfl
    have f02 : v2.frozen? ⟨q, 2, none⟩ = false := FR.out.frozen 0 2 rfl rfl
    have c03 : v2.cell? ⟨q, 3, none⟩ = some (.int .i64 0) := FR.out.cell 0 3 rfl rfl rfl
    have f03 : v2.frozen? ⟨q, 3, none⟩ = false := FR.out.frozen 0 3 rfl rfl
    have c04 : v2.cell? ⟨q, 4, none⟩ = some (.int .i64 0) := FR.out.cell 0 4 rfl rfl rfl
    have f04 : v2.frozen? ⟨q, 4, none⟩ = false := FR.out.frozen 0 4 rfl rfl
    have c05 : v2.cell? ⟨q, 5, none⟩ = some (.int .i64 0) := FR.out.cell 0 5 rfl rfl rfl
    have f05 : v2.frozen? ⟨q, 5, none⟩ = false := FR.out.frozen 0 5 rfl rfl
    have c10 : v2.cell? ⟨q + 1, 0, none⟩ = some (.slice E u v) := FR.out.cell 1 0 rfl rfl rfl
    have f10 : v2.frozen? ⟨q + 1, 0, none⟩ = false := FR.out.frozen 1 0 rfl rfl
    have c11 : v2.cell? ⟨q + 1, 1, none⟩ = some (.int .i64 at0) := FR.out.cell 1 1 rfl rfl rfl
    have f11 : v2.frozen? ⟨q + 1, 1, none⟩ = false := FR.out.frozen 1 1 rfl rfl
    go_wp2_with fail
    refine hca.out.mono ?_
    clear c00 f00 c01 f01 c02 f02 c03 f03 c04 f04 c05 f05 c10 f10 c11 f11
    rintro e wq ⟨rfl, w1, ⟨hbut, hrd, A, n, c, B, m, d, C, kk, f, hpv⟩, rfl⟩
    have hz2 := HZ2.out
    have e3 : (v2.alloc (.cells #[.int .i64 0] 29)).heap.size = q + 3 := by simp; omega
    have hpv2 := hpv.set (b := v2.heap.size) (by rw [e3]; omega) (by omega) 0 (.int .i64 0)
    have hrd2 := hrd.other (b := v2.heap.size) (by omega) 0 (.int .i64 0)
    have hbw : Below q w (w1.setCell ⟨v2.heap.size, 0, none⟩ (.int .i64 0)) := (HBV.out.trans (((Below.refl _ _).alloc (by omega) (.cells #[.int .i64 0] 29)).trans (hbut.below (by omega) (by omega) (Nat.le_refl _)))).setCell (by simp only; omega) _
    have HPV := Lib.hid hpv2; have HRD2 := Lib.hid hrd2; have HBW := Lib.hid hbw; have E3 := Lib.hid e3
    clear hca hpv hrd hbut hpv2 hrd2 hbw FR HSB hv1 hv2 z1 z2 e3
    generalize w1.setCell ⟨v2.heap.size, 0, none⟩ (.int .i64 0) = w4 at *
    have s0 : w4.cell? ⟨q, 0, none⟩ = some (.slice A n c) := (blk_cell HPV.out.1 0).trans rfl
    have s1 : w4.cell? ⟨q, 1, none⟩ = some (.slice B m d) := (blk_cell HPV.out.1 1).trans rfl
    have s2 : w4.cell? ⟨q, 2, none⟩ = some (.slice C kk f) := (blk_cell HPV.out.1 2).trans rfl
    have s3 : w4.cell? ⟨q, 3, none⟩ = some (.int .i64 p.1.cells) := (blk_cell HPV.out.1 3).trans rfl
    have s4 : w4.cell? ⟨q, 4, none⟩ = some (.int .i64 p.1.recs) := (blk_cell HPV.out.1 4).trans rfl
    have s5 : w4.cell? ⟨q, 5, none⟩ = some (.int .i64 p.1.pat) := (blk_cell HPV.out.1 5).trans rfl
    have y0 : w4.frozen? ⟨q, 0, none⟩ = false := blk_frozen HPV.out.1 0
    have y1 : w4.frozen? ⟨q, 1, none⟩ = false := blk_frozen HPV.out.1 1
    have y2 : w4.frozen? ⟨q, 2, none⟩ = false := blk_frozen HPV.out.1 2
    have y3 : w4.frozen? ⟨q, 3, none⟩ = false := blk_frozen HPV.out.1 3
    have y4 : w4.frozen? ⟨q, 4, none⟩ = false := blk_frozen HPV.out.1 4
    have y5 : w4.frozen? ⟨q, 5, none⟩ = false := blk_frozen HPV.out.1 5
    have r1 := HRD2.out.cell1
    clear hz2
    go_wp2
    go_region
    all_goals go_wp2
    have hq3 : q < (v2.alloc (.cells #[.int .i64 0] 29)).heap.size := by have := E3.out; omega
    have BZ : ((((((w4.setCell ⟨q, 0, none⟩ (.slice A n c)).setCell ⟨q, 1, none⟩ (.slice B m d)).setCell ⟨q, 2, none⟩ (.slice C kk f)).setCell ⟨q, 3, none⟩ (.int .i64 p.1.cells)).setCell ⟨q, 4, none⟩ (.int .i64 p.1.recs)).setCell ⟨q, 5, none⟩ (.int .i64 p.1.pat)).heap[q]? = some (.cells #[.slice A n c, .slice B m d, .slice C kk f, .int .i64 p.1.cells, .int .i64 p.1.recs, .int .i64 p.1.pat] 25) := (blk_set (j := 5) (blk_set (j := 4) (blk_set (j := 3) (blk_set (j := 2) (blk_set (j := 1) (blk_set (j := 0) HPV.out.1 (.slice A n c)) (.slice B m d)) (.slice C kk f)) (.int .i64 p.1.cells)) (.int .i64 p.1.recs)) (.int .i64 p.1.pat))
    have bq : w.heap.size ≤ (v2.alloc (.cells #[.int .i64 0] 29)).heap.size := by have := E3.out; have := HQ.out; omega
    have OC := own_base (own_apart (own_apart (own_apart (own_apart (own_apart (own_apart HPV.out.2.1 (k := q) (o := 0) (u := .slice A n c) hq3) (k := q) (o := 1) (u := .slice B m d) hq3) (k := q) (o := 2) (u := .slice C kk f) hq3) (k := q) (o := 3) (u := .int .i64 p.1.cells) hq3) (k := q) (o := 4) (u := .int .i64 p.1.recs) hq3) (k := q) (o := 5) (u := .int .i64 p.1.pat) hq3) bq; have OK := own_base (own_apart (own_apart (own_apart (own_apart (own_apart (own_apart HPV.out.2.2.1 (k := q) (o := 0) (u := .slice A n c) hq3) (k := q) (o := 1) (u := .slice B m d) hq3) (k := q) (o := 2) (u := .slice C kk f) hq3) (k := q) (o := 3) (u := .int .i64 p.1.cells) hq3) (k := q) (o := 4) (u := .int .i64 p.1.recs) hq3) (k := q) (o := 5) (u := .int .i64 p.1.pat) hq3) bq; have OS := own_base (own_apart (own_apart (own_apart (own_apart (own_apart (own_apart HPV.out.2.2.2 (k := q) (o := 0) (u := .slice A n c) hq3) (k := q) (o := 1) (u := .slice B m d) hq3) (k := q) (o := 2) (u := .slice C kk f) hq3) (k := q) (o := 3) (u := .int .i64 p.1.cells) hq3) (k := q) (o := 4) (u := .int .i64 p.1.recs) hq3) (k := q) (o := 5) (u := .int .i64 p.1.pat) hq3) bq
    have BL := ((((((HBW.out.setCell (p := ⟨q, 0, none⟩) (Nat.le_refl _) (.slice A n c)).setCell (p := ⟨q, 1, none⟩) (Nat.le_refl _) (.slice B m d)).setCell (p := ⟨q, 2, none⟩) (Nat.le_refl _) (.slice C kk f)).setCell (p := ⟨q, 3, none⟩) (Nat.le_refl _) (.int .i64 p.1.cells)).setCell (p := ⟨q, 4, none⟩) (Nat.le_refl _) (.int .i64 p.1.recs)).setCell (p := ⟨q, 5, none⟩) (Nat.le_refl _) (.int .i64 p.1.pat))
    generalize ((((((w4.setCell ⟨q, 0, none⟩ (.slice A n c)).setCell ⟨q, 1, none⟩ (.slice B m d)).setCell ⟨q, 2, none⟩ (.slice C kk f)).setCell ⟨q, 3, none⟩ (.int .i64 p.1.cells)).setCell ⟨q, 4, none⟩ (.int .i64 p.1.recs)).setCell ⟨q, 5, none⟩ (.int .i64 p.1.pat)) = wf at *
    rw [HQ.out] at BL
    refine bodyPost_ret (results_css Try.results17 (by rfl) (run_loadVar_row (P := Try.prog) wf.drew q 25 25 _ (0, 0) _ BZ Try.underlying25 (by rfl) (by kernel_rfl))) rfl ?_
    have hret : Ending.returned (.tuple #[.agg #[.slice A n c, .slice B m d, .slice C kk f, .int .i64 p.1.cells, .int .i64 p.1.recs, .int .i64 p.1.pat], .int .i64 p.2.1, .int .i64 0]) = .returned (.tuple #[.agg #[.slice A n c, .slice B m d, .slice C kk f, .int .i64 p.1.cells, .int .i64 p.1.recs, .int .i64 p.1.pat], .int .i64 p.2.1, .int .i64 p.2.2]) := by rw [HE.out]
    exact ⟨A, n, c, B, m, d, C, kk, f, hret, ⟨OC.1, OC.2⟩, ⟨OK.1, OK.2⟩, ⟨OS.1, OS.2⟩, BL.drew⟩
  · subst hp
    obtain ⟨p, hp⟩ : ∃ p, progS bs at0 = p := ⟨_, rfl⟩
    have hpe := prog_err hp (by rw [hp] at he; exact he)
    have hcl := rcl_err (q + 1) E u v bs q at0 (v2.alloc (.cells #[.int .i64 0] 29)) ((HB.out.below FR.out.out).below hd3) (HRD.out.below hd3) hu he
    rw [hp] at hcl he
    obtain ⟨k, hk⟩ : ∃ k, p.2.2 = k := ⟨_, rfl⟩
    rw [hk] at hcl he hpe
    have hd : (k != 0) = true := by simpa using he
    have hca := Lib.hid (caught_err 37 #[.pointer (some ⟨q + 1, 0, none⟩), .pointer (some ⟨q, 0, none⟩)] v2 k _ (fun W => by rfl) (hcl.mono fun e w' ⟨h1, h2⟩ => ⟨h1, (h2.block v2.heap.size (by simp) (by simp; omega)).trans (heap_alloc_new v2 _), h2⟩))
    have HE := Lib.hid (hp.trans hpe)
    clear hcl hd3 he hpe hk hz2 hp
    go_enter Try.func17, Try.ntmps17
    have c00 : v2.cell? ⟨q, 0, none⟩ = some (.slice none 0 0) := FR.out.cell 0 0 rfl rfl rfl
    have f00 : v2.frozen? ⟨q, 0, none⟩ = false := FR.out.frozen 0 0 rfl rfl
    have c01 : v2.cell? ⟨q, 1, none⟩ = some (.slice none 0 0) := FR.out.cell 0 1 rfl rfl rfl
    have f01 : v2.frozen? ⟨q, 1, none⟩ = false := FR.out.frozen 0 1 rfl rfl
    have c02 : v2.cell? ⟨q, 2, none⟩ = some (.slice none 0 0) := FR.out.cell 0 2 rfl rfl rfl
    have f02 : v2.frozen? ⟨q, 2, none⟩ = false := FR.out.frozen 0 2 rfl rfl
    have c03 : v2.cell? ⟨q, 3, none⟩ = some (.int .i64 0) := FR.out.cell 0 3 rfl rfl rfl
    have f03 : v2.frozen? ⟨q, 3, none⟩ = false := FR.out.frozen 0 3 rfl rfl
    have c04 : v2.cell? ⟨q, 4, none⟩ = some (.int .i64 0) := FR.out.cell 0 4 rfl rfl rfl
    have f04 : v2.frozen? ⟨q, 4, none⟩ = false := FR.out.frozen 0 4 rfl rfl
    have c05 : v2.cell? ⟨q, 5, none⟩ = some (.int .i64 0) := FR.out.cell 0 5 rfl rfl rfl
    have f05 : v2.frozen? ⟨q, 5, none⟩ = false := FR.out.frozen 0 5 rfl rfl
    have c10 : v2.cell? ⟨q + 1, 0, none⟩ = some (.slice E u v) := FR.out.cell 1 0 rfl rfl rfl
    have f10 : v2.frozen? ⟨q + 1, 0, none⟩ = false := FR.out.frozen 1 0 rfl rfl
    have c11 : v2.cell? ⟨q + 1, 1, none⟩ = some (.int .i64 at0) := FR.out.cell 1 1 rfl rfl rfl
    have f11 : v2.frozen? ⟨q + 1, 1, none⟩ = false := FR.out.frozen 1 1 rfl rfl
    go_wp2_with fail
    refine hca.out.mono ?_
    clear c00 f00 c01 f01 c02 f02 c03 f03 c04 f04 c05 f05 c10 f10 c11 f11
    rintro e wq ⟨rfl, w1, hg, rfl⟩
    have hz2 := HZ2.out
    have e3 : (v2.alloc (.cells #[.int .i64 0] 29)).heap.size = q + 3 := by simp; omega
    have hsb : (w1.setCell ⟨v2.heap.size, 0, none⟩ (.int .i64 k)).heap[q]? = some (.cells #[.slice none 0 0, .slice none 0 0, .slice none 0 0, .int .i64 0, .int .i64 0, .int .i64 0] 25) := by
      rw [Below.heap_setCell _ _ _ _ (by simp only; omega)]
      exact (hg.block q (by omega) (by simp)).trans ((heap_alloc_old _ _ (by omega)).trans HSB.out)
    have hbw : Below q w (w1.setCell ⟨v2.heap.size, 0, none⟩ (.int .i64 k)) := (HBV.out.trans (((Below.refl _ _).alloc (by omega) (.cells #[.int .i64 0] 29)).trans ((But2.of_grown (s := q + 1) hg).below (by omega) (by omega) (by omega)))).setCell (by simp only; omega) _
    have HPB := Lib.hid hsb; have HBW := Lib.hid hbw
    clear hca hg hsb hbw FR HSB hv1 hv2 z1 z2 e3
    generalize w1.setCell ⟨v2.heap.size, 0, none⟩ (.int .i64 k) = w4 at *
    have s0 : w4.cell? ⟨q, 0, none⟩ = some (.slice none 0 0) := (blk_cell HPB.out 0).trans rfl
    have s1 : w4.cell? ⟨q, 1, none⟩ = some (.slice none 0 0) := (blk_cell HPB.out 1).trans rfl
    have s2 : w4.cell? ⟨q, 2, none⟩ = some (.slice none 0 0) := (blk_cell HPB.out 2).trans rfl
    have s3 : w4.cell? ⟨q, 3, none⟩ = some (.int .i64 0) := (blk_cell HPB.out 3).trans rfl
    have s4 : w4.cell? ⟨q, 4, none⟩ = some (.int .i64 0) := (blk_cell HPB.out 4).trans rfl
    have s5 : w4.cell? ⟨q, 5, none⟩ = some (.int .i64 0) := (blk_cell HPB.out 5).trans rfl
    have y0 : w4.frozen? ⟨q, 0, none⟩ = false := blk_frozen HPB.out 0
    have y1 : w4.frozen? ⟨q, 1, none⟩ = false := blk_frozen HPB.out 1
    have y2 : w4.frozen? ⟨q, 2, none⟩ = false := blk_frozen HPB.out 2
    have y3 : w4.frozen? ⟨q, 3, none⟩ = false := blk_frozen HPB.out 3
    have y4 : w4.frozen? ⟨q, 4, none⟩ = false := blk_frozen HPB.out 4
    have y5 : w4.frozen? ⟨q, 5, none⟩ = false := blk_frozen HPB.out 5
    clear hz2
    go_wp2
    have BZ : ((((((w4.setCell ⟨q, 0, none⟩ (.slice none 0 0)).setCell ⟨q, 1, none⟩ (.slice none 0 0)).setCell ⟨q, 2, none⟩ (.slice none 0 0)).setCell ⟨q, 3, none⟩ (.int .i64 0)).setCell ⟨q, 4, none⟩ (.int .i64 0)).setCell ⟨q, 5, none⟩ (.int .i64 0)).heap[q]? = some (.cells #[.slice none 0 0, .slice none 0 0, .slice none 0 0, .int .i64 0, .int .i64 0, .int .i64 0] 25) := (blk_set (j := 5) (blk_set (j := 4) (blk_set (j := 3) (blk_set (j := 2) (blk_set (j := 1) (blk_set (j := 0) HPB.out (.slice none 0 0)) (.slice none 0 0)) (.slice none 0 0)) (.int .i64 0)) (.int .i64 0)) (.int .i64 0))
    have BL := ((((((HBW.out.setCell (p := ⟨q, 0, none⟩) (Nat.le_refl _) (.slice none 0 0)).setCell (p := ⟨q, 1, none⟩) (Nat.le_refl _) (.slice none 0 0)).setCell (p := ⟨q, 2, none⟩) (Nat.le_refl _) (.slice none 0 0)).setCell (p := ⟨q, 3, none⟩) (Nat.le_refl _) (.int .i64 0)).setCell (p := ⟨q, 4, none⟩) (Nat.le_refl _) (.int .i64 0)).setCell (p := ⟨q, 5, none⟩) (Nat.le_refl _) (.int .i64 0))
    generalize ((((((w4.setCell ⟨q, 0, none⟩ (.slice none 0 0)).setCell ⟨q, 1, none⟩ (.slice none 0 0)).setCell ⟨q, 2, none⟩ (.slice none 0 0)).setCell ⟨q, 3, none⟩ (.int .i64 0)).setCell ⟨q, 4, none⟩ (.int .i64 0)).setCell ⟨q, 5, none⟩ (.int .i64 0)) = wf at *
    rw [HQ.out] at BL
    refine bodyPost_ret (results_css Try.results17 (by rfl) (run_loadVar_row (P := Try.prog) _ q 25 25 _ (0, 0) _ BZ Try.underlying25 (by rfl) (by kernel_rfl))) rfl ?_
    rw [HE.out]
    exact ⟨none, 0, 0, none, 0, 0, none, 0, 0, rfl, World.ownsRow_nil _ _ _ _, World.ownsRow_nil _ _ _ _, World.ownsRow_nil _ _ _ _, BL⟩
end Go.Proofs.Ytkoodhnfphmbnaa
