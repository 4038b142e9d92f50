/- What the document's own in, obj, plain, sync of layer 13 answer; for programs of up to 16384 of each. -/
import Derived.Test.YtkoodhnfphmbnaaCodN
import Derived.Test.YtkoodhnfphmbnaaFr
import Derived.Test.YtkoodhnfphmbnaaRo
namespace Go.Proofs.Ytkoodhnfphmbnaa
set_option linter.unusedVariables false
set_option linter.unusedSimpArgs false
open Go.RowKit
/-- a yes or a no. -/
def YesC (w : World) (b : Bool) (e : Ending) (w' : World) : Prop := e = .returned (.bool b) ∧ Below w.heap.size w w'
set_option maxRecDepth 100000 in
set_option maxHeartbeats 4000000 in
theorem refIn_any (x y : Int) (w : World) :
    Calls Try.prog 27 #[.int .i64 x, .int .i64 y] w (fun e w' => e = .returned (.bool (inB x y)) ∧ w' = w) := by
  by_cases h0 : 0 ≤ x
  · have b0 : decide (0 ≤ x) = true := by simpa using h0
    have HE := Lib.hid (show inB x y = decide (x < y) by unfold inB; rw [b0, Bool.true_and])
    clear h0
    go_enter Try.func27, Try.ntmps27
    go_wp2
    go_ret
    rw [HE.out]
    exact ⟨rfl, rfl⟩
  · have b0 : decide (0 ≤ x) = false := by simpa using h0
    have HE := Lib.hid (show inB x y = false by unfold inB; rw [b0, Bool.false_and])
    clear h0
    go_enter Try.func27, Try.ntmps27
    go_wp2
    go_ret
    rw [HE.out]
    exact ⟨rfl, rfl⟩
set_option maxRecDepth 100000 in
set_option maxHeartbeats 4000000 in
theorem refObj_any (A : Option Addr) (n c : Nat) (B : Option Addr) (m d : Nat) (C : Option Addr) (k f : Nat) (co : List I4) (ki si : List Int) (ce re pa : Int) (x y : Int) (w : World) (hx : I4s w A n c co) (hy : Is w B m d ki) (hz : Is w C k f si) (hn : n ≤ 16384) (hm : m ≤ 16384) (hk : k ≤ 16384) :
    Calls Try.prog 44 #[.agg #[.slice A n c, .slice B m d, .slice C k f, .int .i64 ce, .int .i64 re, .int .i64 pa], .int .i64 x, .int .i64 y] w (YesC w (objB ki x y)) := by
  have hlen : ki.length = m := hy.len
  have RY := Lib.hid hy
  have IN := Lib.hid (fun (W : World) => refIn_any x (m : Int) W)
  clear hx hz
  obtain ⟨v1, hv1⟩ : ∃ W, w.alloc (.cells #[.slice A n c, .slice B m d, .slice C k f, .int .i64 ce, .int .i64 re, .int .i64 pa] 25) = W := ⟨_, rfl⟩
  have fr1 : Fr w v1 w.heap.size [.cells #[.slice A n c, .slice B m d, .slice C k f, .int .i64 ce, .int .i64 re, .int .i64 pa] 25] := hv1 ▸ Fr.first w _
  have z1 : v1.heap.size = w.heap.size + 1 := by rw [← hv1, Fr.size1]
  generalize hq : w.heap.size = q at *
  have FR := Lib.hid fr1
  clear fr1
  have HO : objB ki x y = (inB x (m : Int) && (ki.getD x.toNat 0 == y)) := by unfold objB; rw [hlen]
  cases hi : inB x (m : Int)
  · rw [hi] at IN HO
    have HE := Lib.hid (show objB ki x y = false by rw [HO, Bool.false_and])
    clear HO hi hlen hy
    go_enter Try.func44, Try.ntmps44
    have c00 : v1.cell? ⟨q, 0, none⟩ = some (.slice A n c) := FR.out.cell 0 0 rfl rfl rfl
    have c01 : v1.cell? ⟨q, 1, none⟩ = some (.slice B m d) := FR.out.cell 0 1 rfl rfl rfl
    have c02 : v1.cell? ⟨q, 2, none⟩ = some (.slice C k f) := FR.out.cell 0 2 rfl rfl rfl
    have c03 : v1.cell? ⟨q, 3, none⟩ = some (.int .i64 ce) := FR.out.cell 0 3 rfl rfl rfl
    have c04 : v1.cell? ⟨q, 4, none⟩ = some (.int .i64 re) := FR.out.cell 0 4 rfl rfl rfl
    have c05 : v1.cell? ⟨q, 5, none⟩ = some (.int .i64 pa) := FR.out.cell 0 5 rfl rfl rfl
    go_wp2_with fail
    refine (IN.out _).mono ?_
    rintro e w2 ⟨rfl, rfl⟩
    go_wp2
    go_ret
    rw [HE.out]
    exact ⟨rfl, FR.out.out⟩
  · rw [hi] at IN HO
    obtain ⟨i0, i1⟩ := inB_iff.1 hi
    obtain ⟨i, rfl⟩ : ∃ i : Nat, x = i := ⟨x.toNat, by omega⟩
    obtain ⟨b, off, v, rfl, hlb, hlc, hdr⟩ := RY.out.look i (by omega)
    replace hlc := (FR.out.out.cell (p := ⟨b, off + i, none⟩) hlb).trans hlc
    have hv : ki.getD ((i : Int)).toNat 0 = v := by have h1 := drop_at (xs := ki) (i := i) (by omega); rw [h1] at hdr; injection hdr with h2 _; rw [← h2, show ((i : Int)).toNat = i by omega]; simp [List.getD, show i < ki.length by omega]
    have HE := Lib.hid (show objB ki (i : Int) y = (v == y) by rw [HO, hv, Bool.true_and])
    clear HO hi hlen hy hv hdr hlb
    go_enter Try.func44, Try.ntmps44
    have c00 : v1.cell? ⟨q, 0, none⟩ = some (.slice A n c) := FR.out.cell 0 0 rfl rfl rfl
    have c01 : v1.cell? ⟨q, 1, none⟩ = some (.slice (some ⟨b, off, none⟩) m d) := FR.out.cell 0 1 rfl rfl rfl
    have c02 : v1.cell? ⟨q, 2, none⟩ = some (.slice C k f) := FR.out.cell 0 2 rfl rfl rfl
    have c03 : v1.cell? ⟨q, 3, none⟩ = some (.int .i64 ce) := FR.out.cell 0 3 rfl rfl rfl
    have c04 : v1.cell? ⟨q, 4, none⟩ = some (.int .i64 re) := FR.out.cell 0 4 rfl rfl rfl
    have c05 : v1.cell? ⟨q, 5, none⟩ = some (.int .i64 pa) := FR.out.cell 0 5 rfl rfl rfl
    go_wp2_with fail
    refine (IN.out _).mono ?_
    rintro e w2 ⟨rfl, rfl⟩
    go_wp2
    go_ret
    rw [HE.out]
    exact ⟨rfl, FR.out.out⟩
set_option maxRecDepth 100000 in
set_option maxHeartbeats 16000000 in
theorem refPlain_any (A : Option Addr) (n c : Nat) (B : Option Addr) (m d : Nat) (C : Option Addr) (k f : Nat) (co : List I4) (ki si : List Int) (ce re pa : Int) (o a b x : Int) (w : World) (hx : I4s w A n c co) (hy : Is w B m d ki) (hz : Is w C k f si) (hn : n ≤ 16384) (hm : m ≤ 16384) (hk : k ≤ 16384) :
    Calls Try.prog 28 #[.agg #[.slice A n c, .slice B m d, .slice C k f, .int .i64 ce, .int .i64 re, .int .i64 pa], .agg #[.int .i64 o, .int .i64 a, .int .i64 b, .int .i64 x]] w (YesC w (plainB n ce o a b x)) := by
  clear hx hy hz
  obtain ⟨v1, hv1⟩ : ∃ W, w.alloc (.cells #[.slice A n c, .slice B m d, .slice C k f, .int .i64 ce, .int .i64 re, .int .i64 pa] 25) = W := ⟨_, rfl⟩
  have fr1 : Fr w v1 w.heap.size [.cells #[.slice A n c, .slice B m d, .slice C k f, .int .i64 ce, .int .i64 re, .int .i64 pa] 25] := hv1 ▸ Fr.first w _
  have z1 : v1.heap.size = w.heap.size + 1 := by rw [← hv1, Fr.size1]
  obtain ⟨v2, hv2⟩ : ∃ W, v1.alloc (.cells #[.int .i64 o, .int .i64 a, .int .i64 b, .int .i64 x] 40) = W := ⟨_, rfl⟩
  have fr2 : Fr w v2 w.heap.size [.cells #[.slice A n c, .slice B m d, .slice C k f, .int .i64 ce, .int .i64 re, .int .i64 pa] 25, .cells #[.int .i64 o, .int .i64 a, .int .i64 b, .int .i64 x] 40] := hv2 ▸ fr1.more z1 _
  have z2 : v2.heap.size = w.heap.size + 2 := by rw [← hv2, Fr.size1, z1]
  generalize hq : w.heap.size = q at *
  have FR := Lib.hid fr2
  clear fr1 fr2
  have RA := fun (W : World) => refIn_any a 4 W
  have RB := fun (W : World) => refIn_any b 4 W
  obtain ⟨tb, htb⟩ : ∃ t, inB b 4 = t := ⟨_, rfl⟩
  rw [htb] at RB
  replace RB := Lib.hid RB
  cases ha : inB a 4
  · rw [ha] at RA
    replace RA := Lib.hid RA
    have HA := Lib.hid ha; have HTB := Lib.hid htb
    clear ha htb
    go_enter Try.func28, Try.ntmps28
    have c00 : v2.cell? ⟨q, 0, none⟩ = some (.slice A n c) := FR.out.cell 0 0 rfl rfl rfl
    have c01 : v2.cell? ⟨q, 1, none⟩ = some (.slice B m d) := FR.out.cell 0 1 rfl rfl rfl
    have c02 : v2.cell? ⟨q, 2, none⟩ = some (.slice C k f) := FR.out.cell 0 2 rfl rfl rfl
    have c03 : v2.cell? ⟨q, 3, none⟩ = some (.int .i64 ce) := FR.out.cell 0 3 rfl rfl rfl
    have c04 : v2.cell? ⟨q, 4, none⟩ = some (.int .i64 re) := FR.out.cell 0 4 rfl rfl rfl
    have c05 : v2.cell? ⟨q, 5, none⟩ = some (.int .i64 pa) := FR.out.cell 0 5 rfl rfl rfl
    have c10 : v2.cell? ⟨q + 1, 0, none⟩ = some (.int .i64 o) := FR.out.cell 1 0 rfl rfl rfl
    have c11 : v2.cell? ⟨q + 1, 1, none⟩ = some (.int .i64 a) := FR.out.cell 1 1 rfl rfl rfl
    have c12 : v2.cell? ⟨q + 1, 2, none⟩ = some (.int .i64 b) := FR.out.cell 1 2 rfl rfl rfl
    have c13 : v2.cell? ⟨q + 1, 3, none⟩ = some (.int .i64 x) := FR.out.cell 1 3 rfl rfl rfl
    go_wp2
    go_quiet (first | (go_at_call_of 27 (Value.int IntKind.i64 a); exact Calls.quiet_of_same (RA.out _)) | (go_at_call_of 27 (Value.int IntKind.i64 b); exact Calls.quiet_of_same (RB.out _)))
    clear RA RB
    clear c00 c01 c02 c03 c04 c05 c10 c11 c12 c13
    replace FR := Lib.hid (show Fr w (v2.drewN nq) q [.cells #[.slice A n c, .slice B m d, .slice C k f, .int .i64 ce, .int .i64 re, .int .i64 pa] 25, .cells #[.int .i64 o, .int .i64 a, .int .i64 b, .int .i64 x] 40] from ⟨FR.out.blk, bel_drewN FR.out.bel _, FR.out.sz, FR.out.q0⟩)
    clear hv1 hv2 z1 z2
    generalize v2.drewN nq = vn at *
    by_cases ho0 : o = 0
    · subst ho0
      by_cases hf0 : a = 0
      · have f0 : (a == 0) = true := by simp [hf0]
        clear hf0
        by_cases hf1 : b = 0
        · have f1 : (b == 0) = true := by simp [hf1]
          clear hf1
          have HE := Lib.hid (show plainB n ce 0 a b x = (x == 0) from (show plainB n ce 0 a b x = ((a == 0) && ((b == 0) && (x == 0))) from rfl).trans (by simp only [HA.out, HTB.out, f0, f1, Bool.true_and, Bool.false_and, Bool.and_false, Bool.and_true]))
          have c10 : vn.cell? ⟨q + 1, 0, none⟩ = some (.int .i64 0) := FR.out.cell 1 0 rfl rfl rfl
          have c11 : vn.cell? ⟨q + 1, 1, none⟩ = some (.int .i64 a) := FR.out.cell 1 1 rfl rfl rfl
          have c12 : vn.cell? ⟨q + 1, 2, none⟩ = some (.int .i64 b) := FR.out.cell 1 2 rfl rfl rfl
          have c13 : vn.cell? ⟨q + 1, 3, none⟩ = some (.int .i64 x) := FR.out.cell 1 3 rfl rfl rfl
          go_wp2
          go_ret
          rw [HE.out]
          exact ⟨rfl, FR.out.out⟩
        · have f1 : (b == 0) = false := by simp [hf1]
          clear hf1
          have HE := Lib.hid (show plainB n ce 0 a b x = false from (show plainB n ce 0 a b x = ((a == 0) && ((b == 0) && (x == 0))) from rfl).trans (by simp only [HA.out, HTB.out, f0, f1, Bool.true_and, Bool.false_and, Bool.and_false, Bool.and_true]))
          have c10 : vn.cell? ⟨q + 1, 0, none⟩ = some (.int .i64 0) := FR.out.cell 1 0 rfl rfl rfl
          have c11 : vn.cell? ⟨q + 1, 1, none⟩ = some (.int .i64 a) := FR.out.cell 1 1 rfl rfl rfl
          have c12 : vn.cell? ⟨q + 1, 2, none⟩ = some (.int .i64 b) := FR.out.cell 1 2 rfl rfl rfl
          have c13 : vn.cell? ⟨q + 1, 3, none⟩ = some (.int .i64 x) := FR.out.cell 1 3 rfl rfl rfl
          go_wp2
          go_ret
          rw [HE.out]
          exact ⟨rfl, FR.out.out⟩
      · have f0 : (a == 0) = false := by simp [hf0]
        clear hf0
        have HE := Lib.hid (show plainB n ce 0 a b x = false from (show plainB n ce 0 a b x = ((a == 0) && ((b == 0) && (x == 0))) from rfl).trans (by simp only [HA.out, HTB.out, f0, Bool.true_and, Bool.false_and, Bool.and_false, Bool.and_true]))
        have c10 : vn.cell? ⟨q + 1, 0, none⟩ = some (.int .i64 0) := FR.out.cell 1 0 rfl rfl rfl
        have c11 : vn.cell? ⟨q + 1, 1, none⟩ = some (.int .i64 a) := FR.out.cell 1 1 rfl rfl rfl
        have c12 : vn.cell? ⟨q + 1, 2, none⟩ = some (.int .i64 b) := FR.out.cell 1 2 rfl rfl rfl
        have c13 : vn.cell? ⟨q + 1, 3, none⟩ = some (.int .i64 x) := FR.out.cell 1 3 rfl rfl rfl
        go_wp2
        go_ret
        rw [HE.out]
        exact ⟨rfl, FR.out.out⟩
    have hn0 : (o == 0) = false := by simpa using ho0
    replace ho0 := Lib.hid ho0
    by_cases ho1 : o = 1
    · subst ho1
      have HE := Lib.hid (show plainB n ce 1 a b x = false from (show plainB n ce 1 a b x = (inB a 4 && (decide (-2147483648 ≤ b) && (decide (b ≤ 2147483647) && (x == 0)))) from rfl).trans (by simp only [HA.out, HTB.out, Bool.true_and, Bool.false_and, Bool.and_false, Bool.and_true]))
      have c10 : vn.cell? ⟨q + 1, 0, none⟩ = some (.int .i64 1) := FR.out.cell 1 0 rfl rfl rfl
      have c11 : vn.cell? ⟨q + 1, 1, none⟩ = some (.int .i64 a) := FR.out.cell 1 1 rfl rfl rfl
      have c12 : vn.cell? ⟨q + 1, 2, none⟩ = some (.int .i64 b) := FR.out.cell 1 2 rfl rfl rfl
      have c13 : vn.cell? ⟨q + 1, 3, none⟩ = some (.int .i64 x) := FR.out.cell 1 3 rfl rfl rfl
      go_wp2
      go_ret
      rw [HE.out]
      exact ⟨rfl, FR.out.out⟩
    have hn1 : (o == 1) = false := by simpa using ho1
    replace ho1 := Lib.hid ho1
    by_cases ho2 : o = 2
    · subst ho2
      have HE := Lib.hid (show plainB n ce 2 a b x = false from (show plainB n ce 2 a b x = ((inB a 4 && inB b 4) && (x == 0)) from rfl).trans (by simp only [HA.out, HTB.out, Bool.true_and, Bool.false_and, Bool.and_false, Bool.and_true]))
      have c10 : vn.cell? ⟨q + 1, 0, none⟩ = some (.int .i64 2) := FR.out.cell 1 0 rfl rfl rfl
      have c11 : vn.cell? ⟨q + 1, 1, none⟩ = some (.int .i64 a) := FR.out.cell 1 1 rfl rfl rfl
      have c12 : vn.cell? ⟨q + 1, 2, none⟩ = some (.int .i64 b) := FR.out.cell 1 2 rfl rfl rfl
      have c13 : vn.cell? ⟨q + 1, 3, none⟩ = some (.int .i64 x) := FR.out.cell 1 3 rfl rfl rfl
      go_wp2
      go_ret
      rw [HE.out]
      exact ⟨rfl, FR.out.out⟩
    have hn2 : (o == 2) = false := by simpa using ho2
    replace ho2 := Lib.hid ho2
    by_cases ho17 : o = 17
    · subst ho17
      have HE := Lib.hid (show plainB n ce 17 a b x = false from (show plainB n ce 17 a b x = ((inB a 4 && inB b 4) && (x == 0)) from rfl).trans (by simp only [HA.out, HTB.out, Bool.true_and, Bool.false_and, Bool.and_false, Bool.and_true]))
      have c10 : vn.cell? ⟨q + 1, 0, none⟩ = some (.int .i64 17) := FR.out.cell 1 0 rfl rfl rfl
      have c11 : vn.cell? ⟨q + 1, 1, none⟩ = some (.int .i64 a) := FR.out.cell 1 1 rfl rfl rfl
      have c12 : vn.cell? ⟨q + 1, 2, none⟩ = some (.int .i64 b) := FR.out.cell 1 2 rfl rfl rfl
      have c13 : vn.cell? ⟨q + 1, 3, none⟩ = some (.int .i64 x) := FR.out.cell 1 3 rfl rfl rfl
      go_wp2
      go_ret
      rw [HE.out]
      exact ⟨rfl, FR.out.out⟩
    have hn17 : (o == 17) = false := by simpa using ho17
    replace ho17 := Lib.hid ho17
    by_cases ho18 : o = 18
    · subst ho18
      have HE := Lib.hid (show plainB n ce 18 a b x = false from (show plainB n ce 18 a b x = ((inB a 4 && inB b 4) && (x == 0)) from rfl).trans (by simp only [HA.out, HTB.out, Bool.true_and, Bool.false_and, Bool.and_false, Bool.and_true]))
      have c10 : vn.cell? ⟨q + 1, 0, none⟩ = some (.int .i64 18) := FR.out.cell 1 0 rfl rfl rfl
      have c11 : vn.cell? ⟨q + 1, 1, none⟩ = some (.int .i64 a) := FR.out.cell 1 1 rfl rfl rfl
      have c12 : vn.cell? ⟨q + 1, 2, none⟩ = some (.int .i64 b) := FR.out.cell 1 2 rfl rfl rfl
      have c13 : vn.cell? ⟨q + 1, 3, none⟩ = some (.int .i64 x) := FR.out.cell 1 3 rfl rfl rfl
      go_wp2
      go_ret
      rw [HE.out]
      exact ⟨rfl, FR.out.out⟩
    have hn18 : (o == 18) = false := by simpa using ho18
    replace ho18 := Lib.hid ho18
    by_cases ho25 : o = 25
    · subst ho25
      have HE := Lib.hid (show plainB n ce 25 a b x = false from (show plainB n ce 25 a b x = ((inB a 4 && inB b 4) && (x == 0)) from rfl).trans (by simp only [HA.out, HTB.out, Bool.true_and, Bool.false_and, Bool.and_false, Bool.and_true]))
      have c10 : vn.cell? ⟨q + 1, 0, none⟩ = some (.int .i64 25) := FR.out.cell 1 0 rfl rfl rfl
      have c11 : vn.cell? ⟨q + 1, 1, none⟩ = some (.int .i64 a) := FR.out.cell 1 1 rfl rfl rfl
      have c12 : vn.cell? ⟨q + 1, 2, none⟩ = some (.int .i64 b) := FR.out.cell 1 2 rfl rfl rfl
      have c13 : vn.cell? ⟨q + 1, 3, none⟩ = some (.int .i64 x) := FR.out.cell 1 3 rfl rfl rfl
      go_wp2
      go_ret
      rw [HE.out]
      exact ⟨rfl, FR.out.out⟩
    have hn25 : (o == 25) = false := by simpa using ho25
    replace ho25 := Lib.hid ho25
    by_cases ho3 : o = 3
    · subst ho3
      have HE := Lib.hid (show plainB n ce 3 a b x = false from (show plainB n ce 3 a b x = ((inB a 4 && inB b 4) && inB x 4) from rfl).trans (by simp only [HA.out, HTB.out, Bool.true_and, Bool.false_and, Bool.and_false, Bool.and_true]))
      have c10 : vn.cell? ⟨q + 1, 0, none⟩ = some (.int .i64 3) := FR.out.cell 1 0 rfl rfl rfl
      have c11 : vn.cell? ⟨q + 1, 1, none⟩ = some (.int .i64 a) := FR.out.cell 1 1 rfl rfl rfl
      have c12 : vn.cell? ⟨q + 1, 2, none⟩ = some (.int .i64 b) := FR.out.cell 1 2 rfl rfl rfl
      have c13 : vn.cell? ⟨q + 1, 3, none⟩ = some (.int .i64 x) := FR.out.cell 1 3 rfl rfl rfl
      go_wp2
      go_ret
      rw [HE.out]
      exact ⟨rfl, FR.out.out⟩
    have hn3 : (o == 3) = false := by simpa using ho3
    replace ho3 := Lib.hid ho3
    by_cases ho4 : o = 4
    · subst ho4
      have HE := Lib.hid (show plainB n ce 4 a b x = false from (show plainB n ce 4 a b x = ((inB a 4 && inB b 4) && inB x 4) from rfl).trans (by simp only [HA.out, HTB.out, Bool.true_and, Bool.false_and, Bool.and_false, Bool.and_true]))
      have c10 : vn.cell? ⟨q + 1, 0, none⟩ = some (.int .i64 4) := FR.out.cell 1 0 rfl rfl rfl
      have c11 : vn.cell? ⟨q + 1, 1, none⟩ = some (.int .i64 a) := FR.out.cell 1 1 rfl rfl rfl
      have c12 : vn.cell? ⟨q + 1, 2, none⟩ = some (.int .i64 b) := FR.out.cell 1 2 rfl rfl rfl
      have c13 : vn.cell? ⟨q + 1, 3, none⟩ = some (.int .i64 x) := FR.out.cell 1 3 rfl rfl rfl
      go_wp2
      go_ret
      rw [HE.out]
      exact ⟨rfl, FR.out.out⟩
    have hn4 : (o == 4) = false := by simpa using ho4
    replace ho4 := Lib.hid ho4
    by_cases ho5 : o = 5
    · subst ho5
      have HE := Lib.hid (show plainB n ce 5 a b x = false from (show plainB n ce 5 a b x = ((inB a 4 && inB b 4) && inB x 4) from rfl).trans (by simp only [HA.out, HTB.out, Bool.true_and, Bool.false_and, Bool.and_false, Bool.and_true]))
      have c10 : vn.cell? ⟨q + 1, 0, none⟩ = some (.int .i64 5) := FR.out.cell 1 0 rfl rfl rfl
      have c11 : vn.cell? ⟨q + 1, 1, none⟩ = some (.int .i64 a) := FR.out.cell 1 1 rfl rfl rfl
      have c12 : vn.cell? ⟨q + 1, 2, none⟩ = some (.int .i64 b) := FR.out.cell 1 2 rfl rfl rfl
      have c13 : vn.cell? ⟨q + 1, 3, none⟩ = some (.int .i64 x) := FR.out.cell 1 3 rfl rfl rfl
      go_wp2
      go_ret
      rw [HE.out]
      exact ⟨rfl, FR.out.out⟩
    have hn5 : (o == 5) = false := by simpa using ho5
    replace ho5 := Lib.hid ho5
    by_cases ho12 : o = 12
    · subst ho12
      have HE := Lib.hid (show plainB n ce 12 a b x = false from (show plainB n ce 12 a b x = ((inB a 4 && inB b 4) && inB x 4) from rfl).trans (by simp only [HA.out, HTB.out, Bool.true_and, Bool.false_and, Bool.and_false, Bool.and_true]))
      have c10 : vn.cell? ⟨q + 1, 0, none⟩ = some (.int .i64 12) := FR.out.cell 1 0 rfl rfl rfl
      have c11 : vn.cell? ⟨q + 1, 1, none⟩ = some (.int .i64 a) := FR.out.cell 1 1 rfl rfl rfl
      have c12 : vn.cell? ⟨q + 1, 2, none⟩ = some (.int .i64 b) := FR.out.cell 1 2 rfl rfl rfl
      have c13 : vn.cell? ⟨q + 1, 3, none⟩ = some (.int .i64 x) := FR.out.cell 1 3 rfl rfl rfl
      go_wp2
      go_ret
      rw [HE.out]
      exact ⟨rfl, FR.out.out⟩
    have hn12 : (o == 12) = false := by simpa using ho12
    replace ho12 := Lib.hid ho12
    by_cases ho13 : o = 13
    · subst ho13
      have HE := Lib.hid (show plainB n ce 13 a b x = false from (show plainB n ce 13 a b x = ((inB a 4 && inB b 4) && inB x 4) from rfl).trans (by simp only [HA.out, HTB.out, Bool.true_and, Bool.false_and, Bool.and_false, Bool.and_true]))
      have c10 : vn.cell? ⟨q + 1, 0, none⟩ = some (.int .i64 13) := FR.out.cell 1 0 rfl rfl rfl
      have c11 : vn.cell? ⟨q + 1, 1, none⟩ = some (.int .i64 a) := FR.out.cell 1 1 rfl rfl rfl
      have c12 : vn.cell? ⟨q + 1, 2, none⟩ = some (.int .i64 b) := FR.out.cell 1 2 rfl rfl rfl
      have c13 : vn.cell? ⟨q + 1, 3, none⟩ = some (.int .i64 x) := FR.out.cell 1 3 rfl rfl rfl
      go_wp2
      go_ret
      rw [HE.out]
      exact ⟨rfl, FR.out.out⟩
    have hn13 : (o == 13) = false := by simpa using ho13
    replace ho13 := Lib.hid ho13
    by_cases ho14 : o = 14
    · subst ho14
      have HE := Lib.hid (show plainB n ce 14 a b x = false from (show plainB n ce 14 a b x = ((inB a 4 && inB b 4) && inB x 4) from rfl).trans (by simp only [HA.out, HTB.out, Bool.true_and, Bool.false_and, Bool.and_false, Bool.and_true]))
      have c10 : vn.cell? ⟨q + 1, 0, none⟩ = some (.int .i64 14) := FR.out.cell 1 0 rfl rfl rfl
      have c11 : vn.cell? ⟨q + 1, 1, none⟩ = some (.int .i64 a) := FR.out.cell 1 1 rfl rfl rfl
      have c12 : vn.cell? ⟨q + 1, 2, none⟩ = some (.int .i64 b) := FR.out.cell 1 2 rfl rfl rfl
      have c13 : vn.cell? ⟨q + 1, 3, none⟩ = some (.int .i64 x) := FR.out.cell 1 3 rfl rfl rfl
      go_wp2
      go_ret
      rw [HE.out]
      exact ⟨rfl, FR.out.out⟩
    have hn14 : (o == 14) = false := by simpa using ho14
    replace ho14 := Lib.hid ho14
    by_cases ho15 : o = 15
    · subst ho15
      have HE := Lib.hid (show plainB n ce 15 a b x = false from (show plainB n ce 15 a b x = ((inB a 4 && inB b 4) && inB x 4) from rfl).trans (by simp only [HA.out, HTB.out, Bool.true_and, Bool.false_and, Bool.and_false, Bool.and_true]))
      have c10 : vn.cell? ⟨q + 1, 0, none⟩ = some (.int .i64 15) := FR.out.cell 1 0 rfl rfl rfl
      have c11 : vn.cell? ⟨q + 1, 1, none⟩ = some (.int .i64 a) := FR.out.cell 1 1 rfl rfl rfl
      have c12 : vn.cell? ⟨q + 1, 2, none⟩ = some (.int .i64 b) := FR.out.cell 1 2 rfl rfl rfl
      have c13 : vn.cell? ⟨q + 1, 3, none⟩ = some (.int .i64 x) := FR.out.cell 1 3 rfl rfl rfl
      go_wp2
      go_ret
      rw [HE.out]
      exact ⟨rfl, FR.out.out⟩
    have hn15 : (o == 15) = false := by simpa using ho15
    replace ho15 := Lib.hid ho15
    by_cases ho16 : o = 16
    · subst ho16
      have HE := Lib.hid (show plainB n ce 16 a b x = false from (show plainB n ce 16 a b x = ((inB a 4 && inB b 4) && inB x 4) from rfl).trans (by simp only [HA.out, HTB.out, Bool.true_and, Bool.false_and, Bool.and_false, Bool.and_true]))
      have c10 : vn.cell? ⟨q + 1, 0, none⟩ = some (.int .i64 16) := FR.out.cell 1 0 rfl rfl rfl
      have c11 : vn.cell? ⟨q + 1, 1, none⟩ = some (.int .i64 a) := FR.out.cell 1 1 rfl rfl rfl
      have c12 : vn.cell? ⟨q + 1, 2, none⟩ = some (.int .i64 b) := FR.out.cell 1 2 rfl rfl rfl
      have c13 : vn.cell? ⟨q + 1, 3, none⟩ = some (.int .i64 x) := FR.out.cell 1 3 rfl rfl rfl
      go_wp2
      go_ret
      rw [HE.out]
      exact ⟨rfl, FR.out.out⟩
    have hn16 : (o == 16) = false := by simpa using ho16
    replace ho16 := Lib.hid ho16
    by_cases ho6 : o = 6
    · subst ho6
      have If0 := fun (W : World) => refIn_any a (n : Int) W
      cases hf0 : inB a (n : Int)
      · rw [hf0] at If0
        replace If0 := Lib.hid If0; have f0 := Lib.hid hf0; clear hf0
        have HE := Lib.hid (show plainB n ce 6 a b x = false from (show plainB n ce 6 a b x = (inB a n && ((b == 0) && (x == 0))) from rfl).trans (by simp only [HA.out, HTB.out, f0.out, Bool.true_and, Bool.false_and, Bool.and_false, Bool.and_true]))
        have c00 : vn.cell? ⟨q, 0, none⟩ = some (.slice A n c) := FR.out.cell 0 0 rfl rfl rfl
        have c01 : vn.cell? ⟨q, 1, none⟩ = some (.slice B m d) := FR.out.cell 0 1 rfl rfl rfl
        have c02 : vn.cell? ⟨q, 2, none⟩ = some (.slice C k f) := FR.out.cell 0 2 rfl rfl rfl
        have c03 : vn.cell? ⟨q, 3, none⟩ = some (.int .i64 ce) := FR.out.cell 0 3 rfl rfl rfl
        have c04 : vn.cell? ⟨q, 4, none⟩ = some (.int .i64 re) := FR.out.cell 0 4 rfl rfl rfl
        have c05 : vn.cell? ⟨q, 5, none⟩ = some (.int .i64 pa) := FR.out.cell 0 5 rfl rfl rfl
        have c10 : vn.cell? ⟨q + 1, 0, none⟩ = some (.int .i64 6) := FR.out.cell 1 0 rfl rfl rfl
        have c11 : vn.cell? ⟨q + 1, 1, none⟩ = some (.int .i64 a) := FR.out.cell 1 1 rfl rfl rfl
        have c12 : vn.cell? ⟨q + 1, 2, none⟩ = some (.int .i64 b) := FR.out.cell 1 2 rfl rfl rfl
        have c13 : vn.cell? ⟨q + 1, 3, none⟩ = some (.int .i64 x) := FR.out.cell 1 3 rfl rfl rfl
        go_wp2_with fail
        refine (If0.out _).mono ?_
        rintro e wq ⟨rfl, rfl⟩
        go_wp2
        go_ret
        rw [HE.out]
        exact ⟨rfl, FR.out.out⟩
      · rw [hf0] at If0
        replace If0 := Lib.hid If0; have f0 := Lib.hid hf0; clear hf0
        by_cases hf1 : b = 0
        · have f1 : (b == 0) = true := by simp [hf1]
          clear hf1
          have HE := Lib.hid (show plainB n ce 6 a b x = (x == 0) from (show plainB n ce 6 a b x = (inB a n && ((b == 0) && (x == 0))) from rfl).trans (by simp only [HA.out, HTB.out, f0.out, f1, Bool.true_and, Bool.false_and, Bool.and_false, Bool.and_true]))
          have c00 : vn.cell? ⟨q, 0, none⟩ = some (.slice A n c) := FR.out.cell 0 0 rfl rfl rfl
          have c01 : vn.cell? ⟨q, 1, none⟩ = some (.slice B m d) := FR.out.cell 0 1 rfl rfl rfl
          have c02 : vn.cell? ⟨q, 2, none⟩ = some (.slice C k f) := FR.out.cell 0 2 rfl rfl rfl
          have c03 : vn.cell? ⟨q, 3, none⟩ = some (.int .i64 ce) := FR.out.cell 0 3 rfl rfl rfl
          have c04 : vn.cell? ⟨q, 4, none⟩ = some (.int .i64 re) := FR.out.cell 0 4 rfl rfl rfl
          have c05 : vn.cell? ⟨q, 5, none⟩ = some (.int .i64 pa) := FR.out.cell 0 5 rfl rfl rfl
          have c10 : vn.cell? ⟨q + 1, 0, none⟩ = some (.int .i64 6) := FR.out.cell 1 0 rfl rfl rfl
          have c11 : vn.cell? ⟨q + 1, 1, none⟩ = some (.int .i64 a) := FR.out.cell 1 1 rfl rfl rfl
          have c12 : vn.cell? ⟨q + 1, 2, none⟩ = some (.int .i64 b) := FR.out.cell 1 2 rfl rfl rfl
          have c13 : vn.cell? ⟨q + 1, 3, none⟩ = some (.int .i64 x) := FR.out.cell 1 3 rfl rfl rfl
          go_wp2_with fail
          refine (If0.out _).mono ?_
          rintro e wq ⟨rfl, rfl⟩
          go_wp2
          go_ret
          rw [HE.out]
          exact ⟨rfl, FR.out.out⟩
        · have f1 : (b == 0) = false := by simp [hf1]
          clear hf1
          have HE := Lib.hid (show plainB n ce 6 a b x = false from (show plainB n ce 6 a b x = (inB a n && ((b == 0) && (x == 0))) from rfl).trans (by simp only [HA.out, HTB.out, f0.out, f1, Bool.true_and, Bool.false_and, Bool.and_false, Bool.and_true]))
          have c00 : vn.cell? ⟨q, 0, none⟩ = some (.slice A n c) := FR.out.cell 0 0 rfl rfl rfl
          have c01 : vn.cell? ⟨q, 1, none⟩ = some (.slice B m d) := FR.out.cell 0 1 rfl rfl rfl
          have c02 : vn.cell? ⟨q, 2, none⟩ = some (.slice C k f) := FR.out.cell 0 2 rfl rfl rfl
          have c03 : vn.cell? ⟨q, 3, none⟩ = some (.int .i64 ce) := FR.out.cell 0 3 rfl rfl rfl
          have c04 : vn.cell? ⟨q, 4, none⟩ = some (.int .i64 re) := FR.out.cell 0 4 rfl rfl rfl
          have c05 : vn.cell? ⟨q, 5, none⟩ = some (.int .i64 pa) := FR.out.cell 0 5 rfl rfl rfl
          have c10 : vn.cell? ⟨q + 1, 0, none⟩ = some (.int .i64 6) := FR.out.cell 1 0 rfl rfl rfl
          have c11 : vn.cell? ⟨q + 1, 1, none⟩ = some (.int .i64 a) := FR.out.cell 1 1 rfl rfl rfl
          have c12 : vn.cell? ⟨q + 1, 2, none⟩ = some (.int .i64 b) := FR.out.cell 1 2 rfl rfl rfl
          have c13 : vn.cell? ⟨q + 1, 3, none⟩ = some (.int .i64 x) := FR.out.cell 1 3 rfl rfl rfl
          go_wp2_with fail
          refine (If0.out _).mono ?_
          rintro e wq ⟨rfl, rfl⟩
          go_wp2
          go_ret
          rw [HE.out]
          exact ⟨rfl, FR.out.out⟩
    have hn6 : (o == 6) = false := by simpa using ho6
    replace ho6 := Lib.hid ho6
    by_cases ho23 : o = 23
    · subst ho23
      have If0 := fun (W : World) => refIn_any a (n : Int) W
      cases hf0 : inB a (n : Int)
      · rw [hf0] at If0
        replace If0 := Lib.hid If0; have f0 := Lib.hid hf0; clear hf0
        have HE := Lib.hid (show plainB n ce 23 a b x = false from (show plainB n ce 23 a b x = (inB a n && ((b == 0) && (x == 0))) from rfl).trans (by simp only [HA.out, HTB.out, f0.out, Bool.true_and, Bool.false_and, Bool.and_false, Bool.and_true]))
        have c00 : vn.cell? ⟨q, 0, none⟩ = some (.slice A n c) := FR.out.cell 0 0 rfl rfl rfl
        have c01 : vn.cell? ⟨q, 1, none⟩ = some (.slice B m d) := FR.out.cell 0 1 rfl rfl rfl
        have c02 : vn.cell? ⟨q, 2, none⟩ = some (.slice C k f) := FR.out.cell 0 2 rfl rfl rfl
        have c03 : vn.cell? ⟨q, 3, none⟩ = some (.int .i64 ce) := FR.out.cell 0 3 rfl rfl rfl
        have c04 : vn.cell? ⟨q, 4, none⟩ = some (.int .i64 re) := FR.out.cell 0 4 rfl rfl rfl
        have c05 : vn.cell? ⟨q, 5, none⟩ = some (.int .i64 pa) := FR.out.cell 0 5 rfl rfl rfl
        have c10 : vn.cell? ⟨q + 1, 0, none⟩ = some (.int .i64 23) := FR.out.cell 1 0 rfl rfl rfl
        have c11 : vn.cell? ⟨q + 1, 1, none⟩ = some (.int .i64 a) := FR.out.cell 1 1 rfl rfl rfl
        have c12 : vn.cell? ⟨q + 1, 2, none⟩ = some (.int .i64 b) := FR.out.cell 1 2 rfl rfl rfl
        have c13 : vn.cell? ⟨q + 1, 3, none⟩ = some (.int .i64 x) := FR.out.cell 1 3 rfl rfl rfl
        go_wp2_with fail
        refine (If0.out _).mono ?_
        rintro e wq ⟨rfl, rfl⟩
        go_wp2
        go_ret
        rw [HE.out]
        exact ⟨rfl, FR.out.out⟩
      · rw [hf0] at If0
        replace If0 := Lib.hid If0; have f0 := Lib.hid hf0; clear hf0
        by_cases hf1 : b = 0
        · have f1 : (b == 0) = true := by simp [hf1]
          clear hf1
          have HE := Lib.hid (show plainB n ce 23 a b x = (x == 0) from (show plainB n ce 23 a b x = (inB a n && ((b == 0) && (x == 0))) from rfl).trans (by simp only [HA.out, HTB.out, f0.out, f1, Bool.true_and, Bool.false_and, Bool.and_false, Bool.and_true]))
          have c00 : vn.cell? ⟨q, 0, none⟩ = some (.slice A n c) := FR.out.cell 0 0 rfl rfl rfl
          have c01 : vn.cell? ⟨q, 1, none⟩ = some (.slice B m d) := FR.out.cell 0 1 rfl rfl rfl
          have c02 : vn.cell? ⟨q, 2, none⟩ = some (.slice C k f) := FR.out.cell 0 2 rfl rfl rfl
          have c03 : vn.cell? ⟨q, 3, none⟩ = some (.int .i64 ce) := FR.out.cell 0 3 rfl rfl rfl
          have c04 : vn.cell? ⟨q, 4, none⟩ = some (.int .i64 re) := FR.out.cell 0 4 rfl rfl rfl
          have c05 : vn.cell? ⟨q, 5, none⟩ = some (.int .i64 pa) := FR.out.cell 0 5 rfl rfl rfl
          have c10 : vn.cell? ⟨q + 1, 0, none⟩ = some (.int .i64 23) := FR.out.cell 1 0 rfl rfl rfl
          have c11 : vn.cell? ⟨q + 1, 1, none⟩ = some (.int .i64 a) := FR.out.cell 1 1 rfl rfl rfl
          have c12 : vn.cell? ⟨q + 1, 2, none⟩ = some (.int .i64 b) := FR.out.cell 1 2 rfl rfl rfl
          have c13 : vn.cell? ⟨q + 1, 3, none⟩ = some (.int .i64 x) := FR.out.cell 1 3 rfl rfl rfl
          go_wp2_with fail
          refine (If0.out _).mono ?_
          rintro e wq ⟨rfl, rfl⟩
          go_wp2
          go_ret
          rw [HE.out]
          exact ⟨rfl, FR.out.out⟩
        · have f1 : (b == 0) = false := by simp [hf1]
          clear hf1
          have HE := Lib.hid (show plainB n ce 23 a b x = false from (show plainB n ce 23 a b x = (inB a n && ((b == 0) && (x == 0))) from rfl).trans (by simp only [HA.out, HTB.out, f0.out, f1, Bool.true_and, Bool.false_and, Bool.and_false, Bool.and_true]))
          have c00 : vn.cell? ⟨q, 0, none⟩ = some (.slice A n c) := FR.out.cell 0 0 rfl rfl rfl
          have c01 : vn.cell? ⟨q, 1, none⟩ = some (.slice B m d) := FR.out.cell 0 1 rfl rfl rfl
          have c02 : vn.cell? ⟨q, 2, none⟩ = some (.slice C k f) := FR.out.cell 0 2 rfl rfl rfl
          have c03 : vn.cell? ⟨q, 3, none⟩ = some (.int .i64 ce) := FR.out.cell 0 3 rfl rfl rfl
          have c04 : vn.cell? ⟨q, 4, none⟩ = some (.int .i64 re) := FR.out.cell 0 4 rfl rfl rfl
          have c05 : vn.cell? ⟨q, 5, none⟩ = some (.int .i64 pa) := FR.out.cell 0 5 rfl rfl rfl
          have c10 : vn.cell? ⟨q + 1, 0, none⟩ = some (.int .i64 23) := FR.out.cell 1 0 rfl rfl rfl
          have c11 : vn.cell? ⟨q + 1, 1, none⟩ = some (.int .i64 a) := FR.out.cell 1 1 rfl rfl rfl
          have c12 : vn.cell? ⟨q + 1, 2, none⟩ = some (.int .i64 b) := FR.out.cell 1 2 rfl rfl rfl
          have c13 : vn.cell? ⟨q + 1, 3, none⟩ = some (.int .i64 x) := FR.out.cell 1 3 rfl rfl rfl
          go_wp2_with fail
          refine (If0.out _).mono ?_
          rintro e wq ⟨rfl, rfl⟩
          go_wp2
          go_ret
          rw [HE.out]
          exact ⟨rfl, FR.out.out⟩
    have hn23 : (o == 23) = false := by simpa using ho23
    replace ho23 := Lib.hid ho23
    by_cases ho7 : o = 7
    · subst ho7
      have HE := Lib.hid (show plainB n ce 7 a b x = false from (show plainB n ce 7 a b x = (inB a 4 && (inB b n && (x == 0))) from rfl).trans (by simp only [HA.out, HTB.out, Bool.true_and, Bool.false_and, Bool.and_false, Bool.and_true]))
      have c00 : vn.cell? ⟨q, 0, none⟩ = some (.slice A n c) := FR.out.cell 0 0 rfl rfl rfl
      have c01 : vn.cell? ⟨q, 1, none⟩ = some (.slice B m d) := FR.out.cell 0 1 rfl rfl rfl
      have c02 : vn.cell? ⟨q, 2, none⟩ = some (.slice C k f) := FR.out.cell 0 2 rfl rfl rfl
      have c03 : vn.cell? ⟨q, 3, none⟩ = some (.int .i64 ce) := FR.out.cell 0 3 rfl rfl rfl
      have c04 : vn.cell? ⟨q, 4, none⟩ = some (.int .i64 re) := FR.out.cell 0 4 rfl rfl rfl
      have c05 : vn.cell? ⟨q, 5, none⟩ = some (.int .i64 pa) := FR.out.cell 0 5 rfl rfl rfl
      have c10 : vn.cell? ⟨q + 1, 0, none⟩ = some (.int .i64 7) := FR.out.cell 1 0 rfl rfl rfl
      have c11 : vn.cell? ⟨q + 1, 1, none⟩ = some (.int .i64 a) := FR.out.cell 1 1 rfl rfl rfl
      have c12 : vn.cell? ⟨q + 1, 2, none⟩ = some (.int .i64 b) := FR.out.cell 1 2 rfl rfl rfl
      have c13 : vn.cell? ⟨q + 1, 3, none⟩ = some (.int .i64 x) := FR.out.cell 1 3 rfl rfl rfl
      go_wp2
      go_ret
      rw [HE.out]
      exact ⟨rfl, FR.out.out⟩
    have hn7 : (o == 7) = false := by simpa using ho7
    replace ho7 := Lib.hid ho7
    by_cases ho22 : o = 22
    · subst ho22
      have HE := Lib.hid (show plainB n ce 22 a b x = false from (show plainB n ce 22 a b x = (inB a 4 && (inB b n && (x == 0))) from rfl).trans (by simp only [HA.out, HTB.out, Bool.true_and, Bool.false_and, Bool.and_false, Bool.and_true]))
      have c00 : vn.cell? ⟨q, 0, none⟩ = some (.slice A n c) := FR.out.cell 0 0 rfl rfl rfl
      have c01 : vn.cell? ⟨q, 1, none⟩ = some (.slice B m d) := FR.out.cell 0 1 rfl rfl rfl
      have c02 : vn.cell? ⟨q, 2, none⟩ = some (.slice C k f) := FR.out.cell 0 2 rfl rfl rfl
      have c03 : vn.cell? ⟨q, 3, none⟩ = some (.int .i64 ce) := FR.out.cell 0 3 rfl rfl rfl
      have c04 : vn.cell? ⟨q, 4, none⟩ = some (.int .i64 re) := FR.out.cell 0 4 rfl rfl rfl
      have c05 : vn.cell? ⟨q, 5, none⟩ = some (.int .i64 pa) := FR.out.cell 0 5 rfl rfl rfl
      have c10 : vn.cell? ⟨q + 1, 0, none⟩ = some (.int .i64 22) := FR.out.cell 1 0 rfl rfl rfl
      have c11 : vn.cell? ⟨q + 1, 1, none⟩ = some (.int .i64 a) := FR.out.cell 1 1 rfl rfl rfl
      have c12 : vn.cell? ⟨q + 1, 2, none⟩ = some (.int .i64 b) := FR.out.cell 1 2 rfl rfl rfl
      have c13 : vn.cell? ⟨q + 1, 3, none⟩ = some (.int .i64 x) := FR.out.cell 1 3 rfl rfl rfl
      go_wp2
      go_ret
      rw [HE.out]
      exact ⟨rfl, FR.out.out⟩
    have hn22 : (o == 22) = false := by simpa using ho22
    replace ho22 := Lib.hid ho22
    by_cases ho8 : o = 8
    · subst ho8
      have HE := Lib.hid (show plainB n ce 8 a b x = false from (show plainB n ce 8 a b x = (inB a 4 && (inB b ce && (x == 0))) from rfl).trans (by simp only [HA.out, HTB.out, Bool.true_and, Bool.false_and, Bool.and_false, Bool.and_true]))
      have c00 : vn.cell? ⟨q, 0, none⟩ = some (.slice A n c) := FR.out.cell 0 0 rfl rfl rfl
      have c01 : vn.cell? ⟨q, 1, none⟩ = some (.slice B m d) := FR.out.cell 0 1 rfl rfl rfl
      have c02 : vn.cell? ⟨q, 2, none⟩ = some (.slice C k f) := FR.out.cell 0 2 rfl rfl rfl
      have c03 : vn.cell? ⟨q, 3, none⟩ = some (.int .i64 ce) := FR.out.cell 0 3 rfl rfl rfl
      have c04 : vn.cell? ⟨q, 4, none⟩ = some (.int .i64 re) := FR.out.cell 0 4 rfl rfl rfl
      have c05 : vn.cell? ⟨q, 5, none⟩ = some (.int .i64 pa) := FR.out.cell 0 5 rfl rfl rfl
      have c10 : vn.cell? ⟨q + 1, 0, none⟩ = some (.int .i64 8) := FR.out.cell 1 0 rfl rfl rfl
      have c11 : vn.cell? ⟨q + 1, 1, none⟩ = some (.int .i64 a) := FR.out.cell 1 1 rfl rfl rfl
      have c12 : vn.cell? ⟨q + 1, 2, none⟩ = some (.int .i64 b) := FR.out.cell 1 2 rfl rfl rfl
      have c13 : vn.cell? ⟨q + 1, 3, none⟩ = some (.int .i64 x) := FR.out.cell 1 3 rfl rfl rfl
      go_wp2
      go_ret
      rw [HE.out]
      exact ⟨rfl, FR.out.out⟩
    have hn8 : (o == 8) = false := by simpa using ho8
    replace ho8 := Lib.hid ho8
    by_cases ho9 : o = 9
    · subst ho9
      have HE := Lib.hid (show plainB n ce 9 a b x = false from (show plainB n ce 9 a b x = (inB a 4 && (inB b ce && (x == 0))) from rfl).trans (by simp only [HA.out, HTB.out, Bool.true_and, Bool.false_and, Bool.and_false, Bool.and_true]))
      have c00 : vn.cell? ⟨q, 0, none⟩ = some (.slice A n c) := FR.out.cell 0 0 rfl rfl rfl
      have c01 : vn.cell? ⟨q, 1, none⟩ = some (.slice B m d) := FR.out.cell 0 1 rfl rfl rfl
      have c02 : vn.cell? ⟨q, 2, none⟩ = some (.slice C k f) := FR.out.cell 0 2 rfl rfl rfl
      have c03 : vn.cell? ⟨q, 3, none⟩ = some (.int .i64 ce) := FR.out.cell 0 3 rfl rfl rfl
      have c04 : vn.cell? ⟨q, 4, none⟩ = some (.int .i64 re) := FR.out.cell 0 4 rfl rfl rfl
      have c05 : vn.cell? ⟨q, 5, none⟩ = some (.int .i64 pa) := FR.out.cell 0 5 rfl rfl rfl
      have c10 : vn.cell? ⟨q + 1, 0, none⟩ = some (.int .i64 9) := FR.out.cell 1 0 rfl rfl rfl
      have c11 : vn.cell? ⟨q + 1, 1, none⟩ = some (.int .i64 a) := FR.out.cell 1 1 rfl rfl rfl
      have c12 : vn.cell? ⟨q + 1, 2, none⟩ = some (.int .i64 b) := FR.out.cell 1 2 rfl rfl rfl
      have c13 : vn.cell? ⟨q + 1, 3, none⟩ = some (.int .i64 x) := FR.out.cell 1 3 rfl rfl rfl
      go_wp2
      go_ret
      rw [HE.out]
      exact ⟨rfl, FR.out.out⟩
    have hn9 : (o == 9) = false := by simpa using ho9
    replace ho9 := Lib.hid ho9
    by_cases ho11 : o = 11
    · subst ho11
      have HE := Lib.hid (show plainB n ce 11 a b x = false from (show plainB n ce 11 a b x = (inB a 4 && (inB b ce && (x == 0))) from rfl).trans (by simp only [HA.out, HTB.out, Bool.true_and, Bool.false_and, Bool.and_false, Bool.and_true]))
      have c00 : vn.cell? ⟨q, 0, none⟩ = some (.slice A n c) := FR.out.cell 0 0 rfl rfl rfl
      have c01 : vn.cell? ⟨q, 1, none⟩ = some (.slice B m d) := FR.out.cell 0 1 rfl rfl rfl
      have c02 : vn.cell? ⟨q, 2, none⟩ = some (.slice C k f) := FR.out.cell 0 2 rfl rfl rfl
      have c03 : vn.cell? ⟨q, 3, none⟩ = some (.int .i64 ce) := FR.out.cell 0 3 rfl rfl rfl
      have c04 : vn.cell? ⟨q, 4, none⟩ = some (.int .i64 re) := FR.out.cell 0 4 rfl rfl rfl
      have c05 : vn.cell? ⟨q, 5, none⟩ = some (.int .i64 pa) := FR.out.cell 0 5 rfl rfl rfl
      have c10 : vn.cell? ⟨q + 1, 0, none⟩ = some (.int .i64 11) := FR.out.cell 1 0 rfl rfl rfl
      have c11 : vn.cell? ⟨q + 1, 1, none⟩ = some (.int .i64 a) := FR.out.cell 1 1 rfl rfl rfl
      have c12 : vn.cell? ⟨q + 1, 2, none⟩ = some (.int .i64 b) := FR.out.cell 1 2 rfl rfl rfl
      have c13 : vn.cell? ⟨q + 1, 3, none⟩ = some (.int .i64 x) := FR.out.cell 1 3 rfl rfl rfl
      go_wp2
      go_ret
      rw [HE.out]
      exact ⟨rfl, FR.out.out⟩
    have hn11 : (o == 11) = false := by simpa using ho11
    replace ho11 := Lib.hid ho11
    by_cases ho10 : o = 10
    · subst ho10
      have HE := Lib.hid (show plainB n ce 10 a b x = false from (show plainB n ce 10 a b x = (inB a 4 && (inB b ce && inB x 4)) from rfl).trans (by simp only [HA.out, HTB.out, Bool.true_and, Bool.false_and, Bool.and_false, Bool.and_true]))
      have c00 : vn.cell? ⟨q, 0, none⟩ = some (.slice A n c) := FR.out.cell 0 0 rfl rfl rfl
      have c01 : vn.cell? ⟨q, 1, none⟩ = some (.slice B m d) := FR.out.cell 0 1 rfl rfl rfl
      have c02 : vn.cell? ⟨q, 2, none⟩ = some (.slice C k f) := FR.out.cell 0 2 rfl rfl rfl
      have c03 : vn.cell? ⟨q, 3, none⟩ = some (.int .i64 ce) := FR.out.cell 0 3 rfl rfl rfl
      have c04 : vn.cell? ⟨q, 4, none⟩ = some (.int .i64 re) := FR.out.cell 0 4 rfl rfl rfl
      have c05 : vn.cell? ⟨q, 5, none⟩ = some (.int .i64 pa) := FR.out.cell 0 5 rfl rfl rfl
      have c10 : vn.cell? ⟨q + 1, 0, none⟩ = some (.int .i64 10) := FR.out.cell 1 0 rfl rfl rfl
      have c11 : vn.cell? ⟨q + 1, 1, none⟩ = some (.int .i64 a) := FR.out.cell 1 1 rfl rfl rfl
      have c12 : vn.cell? ⟨q + 1, 2, none⟩ = some (.int .i64 b) := FR.out.cell 1 2 rfl rfl rfl
      have c13 : vn.cell? ⟨q + 1, 3, none⟩ = some (.int .i64 x) := FR.out.cell 1 3 rfl rfl rfl
      go_wp2
      go_ret
      rw [HE.out]
      exact ⟨rfl, FR.out.out⟩
    have hn10 : (o == 10) = false := by simpa using ho10
    replace ho10 := Lib.hid ho10
    by_cases ho19 : o = 19
    · subst ho19
      have HE := Lib.hid (show plainB n ce 19 a b x = false from (show plainB n ce 19 a b x = (inB a 4 && ((b == 0) && (x == 0))) from rfl).trans (by simp only [HA.out, HTB.out, Bool.true_and, Bool.false_and, Bool.and_false, Bool.and_true]))
      have c10 : vn.cell? ⟨q + 1, 0, none⟩ = some (.int .i64 19) := FR.out.cell 1 0 rfl rfl rfl
      have c11 : vn.cell? ⟨q + 1, 1, none⟩ = some (.int .i64 a) := FR.out.cell 1 1 rfl rfl rfl
      have c12 : vn.cell? ⟨q + 1, 2, none⟩ = some (.int .i64 b) := FR.out.cell 1 2 rfl rfl rfl
      have c13 : vn.cell? ⟨q + 1, 3, none⟩ = some (.int .i64 x) := FR.out.cell 1 3 rfl rfl rfl
      go_wp2
      go_ret
      rw [HE.out]
      exact ⟨rfl, FR.out.out⟩
    have hn19 : (o == 19) = false := by simpa using ho19
    replace ho19 := Lib.hid ho19
    by_cases ho20 : o = 20
    · subst ho20
      have HE := Lib.hid (show plainB n ce 20 a b x = false from (show plainB n ce 20 a b x = (inB a 4 && ((b == 0) && (x == 0))) from rfl).trans (by simp only [HA.out, HTB.out, Bool.true_and, Bool.false_and, Bool.and_false, Bool.and_true]))
      have c10 : vn.cell? ⟨q + 1, 0, none⟩ = some (.int .i64 20) := FR.out.cell 1 0 rfl rfl rfl
      have c11 : vn.cell? ⟨q + 1, 1, none⟩ = some (.int .i64 a) := FR.out.cell 1 1 rfl rfl rfl
      have c12 : vn.cell? ⟨q + 1, 2, none⟩ = some (.int .i64 b) := FR.out.cell 1 2 rfl rfl rfl
      have c13 : vn.cell? ⟨q + 1, 3, none⟩ = some (.int .i64 x) := FR.out.cell 1 3 rfl rfl rfl
      go_wp2
      go_ret
      rw [HE.out]
      exact ⟨rfl, FR.out.out⟩
    have hn20 : (o == 20) = false := by simpa using ho20
    replace ho20 := Lib.hid ho20
    by_cases ho21 : o = 21
    · subst ho21
      have HE := Lib.hid (show plainB n ce 21 a b x = false from (show plainB n ce 21 a b x = (inB a 4 && ((b == 0) && (x == 0))) from rfl).trans (by simp only [HA.out, HTB.out, Bool.true_and, Bool.false_and, Bool.and_false, Bool.and_true]))
      have c10 : vn.cell? ⟨q + 1, 0, none⟩ = some (.int .i64 21) := FR.out.cell 1 0 rfl rfl rfl
      have c11 : vn.cell? ⟨q + 1, 1, none⟩ = some (.int .i64 a) := FR.out.cell 1 1 rfl rfl rfl
      have c12 : vn.cell? ⟨q + 1, 2, none⟩ = some (.int .i64 b) := FR.out.cell 1 2 rfl rfl rfl
      have c13 : vn.cell? ⟨q + 1, 3, none⟩ = some (.int .i64 x) := FR.out.cell 1 3 rfl rfl rfl
      go_wp2
      go_ret
      rw [HE.out]
      exact ⟨rfl, FR.out.out⟩
    have hn21 : (o == 21) = false := by simpa using ho21
    replace ho21 := Lib.hid ho21
    by_cases ho24 : o = 24
    · subst ho24
      have HE := Lib.hid (show plainB n ce 24 a b x = false from (show plainB n ce 24 a b x = (inB a 4 && ((b == 0) && (x == 0))) from rfl).trans (by simp only [HA.out, HTB.out, Bool.true_and, Bool.false_and, Bool.and_false, Bool.and_true]))
      have c10 : vn.cell? ⟨q + 1, 0, none⟩ = some (.int .i64 24) := FR.out.cell 1 0 rfl rfl rfl
      have c11 : vn.cell? ⟨q + 1, 1, none⟩ = some (.int .i64 a) := FR.out.cell 1 1 rfl rfl rfl
      have c12 : vn.cell? ⟨q + 1, 2, none⟩ = some (.int .i64 b) := FR.out.cell 1 2 rfl rfl rfl
      have c13 : vn.cell? ⟨q + 1, 3, none⟩ = some (.int .i64 x) := FR.out.cell 1 3 rfl rfl rfl
      go_wp2
      go_ret
      rw [HE.out]
      exact ⟨rfl, FR.out.out⟩
    have hn24 : (o == 24) = false := by simpa using ho24
    replace ho24 := Lib.hid ho24
    by_cases ho41 : o = 41
    · subst ho41
      have HE := Lib.hid (show plainB n ce 41 a b x = false from (show plainB n ce 41 a b x = (inB a 4 && ((b == 0) && (x == 0))) from rfl).trans (by simp only [HA.out, HTB.out, Bool.true_and, Bool.false_and, Bool.and_false, Bool.and_true]))
      have c10 : vn.cell? ⟨q + 1, 0, none⟩ = some (.int .i64 41) := FR.out.cell 1 0 rfl rfl rfl
      have c11 : vn.cell? ⟨q + 1, 1, none⟩ = some (.int .i64 a) := FR.out.cell 1 1 rfl rfl rfl
      have c12 : vn.cell? ⟨q + 1, 2, none⟩ = some (.int .i64 b) := FR.out.cell 1 2 rfl rfl rfl
      have c13 : vn.cell? ⟨q + 1, 3, none⟩ = some (.int .i64 x) := FR.out.cell 1 3 rfl rfl rfl
      go_wp2
      go_ret
      rw [HE.out]
      exact ⟨rfl, FR.out.out⟩
    have hn41 : (o == 41) = false := by simpa using ho41
    replace ho41 := Lib.hid ho41
    have HE := Lib.hid (show plainB n ce o a b x = false from by
      unfold plainB
      rw [if_neg (by have q0 := ho0.out; omega)]
      rw [if_neg (by have q1 := ho1.out; omega)]
      rw [if_neg (by have q2 := ho2.out; have q17 := ho17.out; have q18 := ho18.out; have q25 := ho25.out; omega)]
      rw [if_neg (by have q3 := ho3.out; have q4 := ho4.out; have q5 := ho5.out; have q12 := ho12.out; have q13 := ho13.out; have q14 := ho14.out; have q15 := ho15.out; have q16 := ho16.out; omega)]
      rw [if_neg (by have q6 := ho6.out; have q23 := ho23.out; omega)]
      rw [if_neg (by have q7 := ho7.out; have q22 := ho22.out; omega)]
      rw [if_neg (by have q8 := ho8.out; have q9 := ho9.out; have q11 := ho11.out; omega)]
      rw [if_neg (by have q10 := ho10.out; omega)]
      rw [if_neg (by have q19 := ho19.out; have q20 := ho20.out; have q21 := ho21.out; have q24 := ho24.out; have q41 := ho41.out; omega)])
    have c00 : vn.cell? ⟨q, 0, none⟩ = some (.slice A n c) := FR.out.cell 0 0 rfl rfl rfl
    have c01 : vn.cell? ⟨q, 1, none⟩ = some (.slice B m d) := FR.out.cell 0 1 rfl rfl rfl
    have c02 : vn.cell? ⟨q, 2, none⟩ = some (.slice C k f) := FR.out.cell 0 2 rfl rfl rfl
    have c03 : vn.cell? ⟨q, 3, none⟩ = some (.int .i64 ce) := FR.out.cell 0 3 rfl rfl rfl
    have c04 : vn.cell? ⟨q, 4, none⟩ = some (.int .i64 re) := FR.out.cell 0 4 rfl rfl rfl
    have c05 : vn.cell? ⟨q, 5, none⟩ = some (.int .i64 pa) := FR.out.cell 0 5 rfl rfl rfl
    have c10 : vn.cell? ⟨q + 1, 0, none⟩ = some (.int .i64 o) := FR.out.cell 1 0 rfl rfl rfl
    have c11 : vn.cell? ⟨q + 1, 1, none⟩ = some (.int .i64 a) := FR.out.cell 1 1 rfl rfl rfl
    have c12 : vn.cell? ⟨q + 1, 2, none⟩ = some (.int .i64 b) := FR.out.cell 1 2 rfl rfl rfl
    have c13 : vn.cell? ⟨q + 1, 3, none⟩ = some (.int .i64 x) := FR.out.cell 1 3 rfl rfl rfl
    go_wp2
    go_ret
    rw [HE.out]
    exact ⟨rfl, FR.out.out⟩
  · rw [ha] at RA
    replace RA := Lib.hid RA
    have HA := Lib.hid ha; have HTB := Lib.hid htb
    clear ha htb
    go_enter Try.func28, Try.ntmps28
    have c00 : v2.cell? ⟨q, 0, none⟩ = some (.slice A n c) := FR.out.cell 0 0 rfl rfl rfl
    have c01 : v2.cell? ⟨q, 1, none⟩ = some (.slice B m d) := FR.out.cell 0 1 rfl rfl rfl
    have c02 : v2.cell? ⟨q, 2, none⟩ = some (.slice C k f) := FR.out.cell 0 2 rfl rfl rfl
    have c03 : v2.cell? ⟨q, 3, none⟩ = some (.int .i64 ce) := FR.out.cell 0 3 rfl rfl rfl
    have c04 : v2.cell? ⟨q, 4, none⟩ = some (.int .i64 re) := FR.out.cell 0 4 rfl rfl rfl
    have c05 : v2.cell? ⟨q, 5, none⟩ = some (.int .i64 pa) := FR.out.cell 0 5 rfl rfl rfl
    have c10 : v2.cell? ⟨q + 1, 0, none⟩ = some (.int .i64 o) := FR.out.cell 1 0 rfl rfl rfl
    have c11 : v2.cell? ⟨q + 1, 1, none⟩ = some (.int .i64 a) := FR.out.cell 1 1 rfl rfl rfl
    have c12 : v2.cell? ⟨q + 1, 2, none⟩ = some (.int .i64 b) := FR.out.cell 1 2 rfl rfl rfl
    have c13 : v2.cell? ⟨q + 1, 3, none⟩ = some (.int .i64 x) := FR.out.cell 1 3 rfl rfl rfl
    go_wp2
    go_quiet (first | (go_at_call_of 27 (Value.int IntKind.i64 a); exact Calls.quiet_of_same (RA.out _)) | (go_at_call_of 27 (Value.int IntKind.i64 b); exact Calls.quiet_of_same (RB.out _)))
    clear RA RB
    clear c00 c01 c02 c03 c04 c05 c10 c11 c12 c13
    replace FR := Lib.hid (show Fr w (v2.drewN nq) q [.cells #[.slice A n c, .slice B m d, .slice C k f, .int .i64 ce, .int .i64 re, .int .i64 pa] 25, .cells #[.int .i64 o, .int .i64 a, .int .i64 b, .int .i64 x] 40] from ⟨FR.out.blk, bel_drewN FR.out.bel _, FR.out.sz, FR.out.q0⟩)
    clear hv1 hv2 z1 z2
    generalize v2.drewN nq = vn at *
    by_cases ho0 : o = 0
    · subst ho0
      by_cases hf0 : a = 0
      · have f0 : (a == 0) = true := by simp [hf0]
        clear hf0
        by_cases hf1 : b = 0
        · have f1 : (b == 0) = true := by simp [hf1]
          clear hf1
          have HE := Lib.hid (show plainB n ce 0 a b x = (x == 0) from (show plainB n ce 0 a b x = ((a == 0) && ((b == 0) && (x == 0))) from rfl).trans (by simp only [HA.out, HTB.out, f0, f1, Bool.true_and, Bool.false_and, Bool.and_false, Bool.and_true]))
          have c10 : vn.cell? ⟨q + 1, 0, none⟩ = some (.int .i64 0) := FR.out.cell 1 0 rfl rfl rfl
          have c11 : vn.cell? ⟨q + 1, 1, none⟩ = some (.int .i64 a) := FR.out.cell 1 1 rfl rfl rfl
          have c12 : vn.cell? ⟨q + 1, 2, none⟩ = some (.int .i64 b) := FR.out.cell 1 2 rfl rfl rfl
          have c13 : vn.cell? ⟨q + 1, 3, none⟩ = some (.int .i64 x) := FR.out.cell 1 3 rfl rfl rfl
          go_wp2
          go_ret
          rw [HE.out]
          exact ⟨rfl, FR.out.out⟩
        · have f1 : (b == 0) = false := by simp [hf1]
          clear hf1
          have HE := Lib.hid (show plainB n ce 0 a b x = false from (show plainB n ce 0 a b x = ((a == 0) && ((b == 0) && (x == 0))) from rfl).trans (by simp only [HA.out, HTB.out, f0, f1, Bool.true_and, Bool.false_and, Bool.and_false, Bool.and_true]))
          have c10 : vn.cell? ⟨q + 1, 0, none⟩ = some (.int .i64 0) := FR.out.cell 1 0 rfl rfl rfl
          have c11 : vn.cell? ⟨q + 1, 1, none⟩ = some (.int .i64 a) := FR.out.cell 1 1 rfl rfl rfl
          have c12 : vn.cell? ⟨q + 1, 2, none⟩ = some (.int .i64 b) := FR.out.cell 1 2 rfl rfl rfl
          have c13 : vn.cell? ⟨q + 1, 3, none⟩ = some (.int .i64 x) := FR.out.cell 1 3 rfl rfl rfl
          go_wp2
          go_ret
          rw [HE.out]
          exact ⟨rfl, FR.out.out⟩
      · have f0 : (a == 0) = false := by simp [hf0]
        clear hf0
        have HE := Lib.hid (show plainB n ce 0 a b x = false from (show plainB n ce 0 a b x = ((a == 0) && ((b == 0) && (x == 0))) from rfl).trans (by simp only [HA.out, HTB.out, f0, Bool.true_and, Bool.false_and, Bool.and_false, Bool.and_true]))
        have c10 : vn.cell? ⟨q + 1, 0, none⟩ = some (.int .i64 0) := FR.out.cell 1 0 rfl rfl rfl
        have c11 : vn.cell? ⟨q + 1, 1, none⟩ = some (.int .i64 a) := FR.out.cell 1 1 rfl rfl rfl
        have c12 : vn.cell? ⟨q + 1, 2, none⟩ = some (.int .i64 b) := FR.out.cell 1 2 rfl rfl rfl
        have c13 : vn.cell? ⟨q + 1, 3, none⟩ = some (.int .i64 x) := FR.out.cell 1 3 rfl rfl rfl
        go_wp2
        go_ret
        rw [HE.out]
        exact ⟨rfl, FR.out.out⟩
    have hn0 : (o == 0) = false := by simpa using ho0
    replace ho0 := Lib.hid ho0
    by_cases ho1 : o = 1
    · subst ho1
      by_cases hf0 : -2147483648 ≤ b
      · have f0 : decide (-2147483648 ≤ b) = true := by simpa using hf0
        clear hf0
        by_cases hf1 : b ≤ 2147483647
        · have f1 : decide (b ≤ 2147483647) = true := by simpa using hf1
          clear hf1
          have HE := Lib.hid (show plainB n ce 1 a b x = (x == 0) from (show plainB n ce 1 a b x = (inB a 4 && (decide (-2147483648 ≤ b) && (decide (b ≤ 2147483647) && (x == 0)))) from rfl).trans (by simp only [HA.out, HTB.out, f0, f1, Bool.true_and, Bool.false_and, Bool.and_false, Bool.and_true]))
          have c10 : vn.cell? ⟨q + 1, 0, none⟩ = some (.int .i64 1) := FR.out.cell 1 0 rfl rfl rfl
          have c11 : vn.cell? ⟨q + 1, 1, none⟩ = some (.int .i64 a) := FR.out.cell 1 1 rfl rfl rfl
          have c12 : vn.cell? ⟨q + 1, 2, none⟩ = some (.int .i64 b) := FR.out.cell 1 2 rfl rfl rfl
          have c13 : vn.cell? ⟨q + 1, 3, none⟩ = some (.int .i64 x) := FR.out.cell 1 3 rfl rfl rfl
          go_wp2
          go_ret
          rw [HE.out]
          exact ⟨rfl, FR.out.out⟩
        · have f1 : decide (b ≤ 2147483647) = false := by simpa using hf1
          clear hf1
          have HE := Lib.hid (show plainB n ce 1 a b x = false from (show plainB n ce 1 a b x = (inB a 4 && (decide (-2147483648 ≤ b) && (decide (b ≤ 2147483647) && (x == 0)))) from rfl).trans (by simp only [HA.out, HTB.out, f0, f1, Bool.true_and, Bool.false_and, Bool.and_false, Bool.and_true]))
          have c10 : vn.cell? ⟨q + 1, 0, none⟩ = some (.int .i64 1) := FR.out.cell 1 0 rfl rfl rfl
          have c11 : vn.cell? ⟨q + 1, 1, none⟩ = some (.int .i64 a) := FR.out.cell 1 1 rfl rfl rfl
          have c12 : vn.cell? ⟨q + 1, 2, none⟩ = some (.int .i64 b) := FR.out.cell 1 2 rfl rfl rfl
          have c13 : vn.cell? ⟨q + 1, 3, none⟩ = some (.int .i64 x) := FR.out.cell 1 3 rfl rfl rfl
          go_wp2
          go_ret
          rw [HE.out]
          exact ⟨rfl, FR.out.out⟩
      · have f0 : decide (-2147483648 ≤ b) = false := by simpa using hf0
        clear hf0
        have HE := Lib.hid (show plainB n ce 1 a b x = false from (show plainB n ce 1 a b x = (inB a 4 && (decide (-2147483648 ≤ b) && (decide (b ≤ 2147483647) && (x == 0)))) from rfl).trans (by simp only [HA.out, HTB.out, f0, Bool.true_and, Bool.false_and, Bool.and_false, Bool.and_true]))
        have c10 : vn.cell? ⟨q + 1, 0, none⟩ = some (.int .i64 1) := FR.out.cell 1 0 rfl rfl rfl
        have c11 : vn.cell? ⟨q + 1, 1, none⟩ = some (.int .i64 a) := FR.out.cell 1 1 rfl rfl rfl
        have c12 : vn.cell? ⟨q + 1, 2, none⟩ = some (.int .i64 b) := FR.out.cell 1 2 rfl rfl rfl
        have c13 : vn.cell? ⟨q + 1, 3, none⟩ = some (.int .i64 x) := FR.out.cell 1 3 rfl rfl rfl
        go_wp2
        go_ret
        rw [HE.out]
        exact ⟨rfl, FR.out.out⟩
    have hn1 : (o == 1) = false := by simpa using ho1
    replace ho1 := Lib.hid ho1
    by_cases ho2 : o = 2
    · subst ho2
      cases tb
      · skip
        skip
        have HE := Lib.hid (show plainB n ce 2 a b x = false from (show plainB n ce 2 a b x = ((inB a 4 && inB b 4) && (x == 0)) from rfl).trans (by simp only [HA.out, HTB.out, Bool.true_and, Bool.false_and, Bool.and_false, Bool.and_true]))
        have c10 : vn.cell? ⟨q + 1, 0, none⟩ = some (.int .i64 2) := FR.out.cell 1 0 rfl rfl rfl
        have c11 : vn.cell? ⟨q + 1, 1, none⟩ = some (.int .i64 a) := FR.out.cell 1 1 rfl rfl rfl
        have c12 : vn.cell? ⟨q + 1, 2, none⟩ = some (.int .i64 b) := FR.out.cell 1 2 rfl rfl rfl
        have c13 : vn.cell? ⟨q + 1, 3, none⟩ = some (.int .i64 x) := FR.out.cell 1 3 rfl rfl rfl
        go_wp2
        go_ret
        rw [HE.out]
        exact ⟨rfl, FR.out.out⟩
      · skip
        skip
        have HE := Lib.hid (show plainB n ce 2 a b x = (x == 0) from (show plainB n ce 2 a b x = ((inB a 4 && inB b 4) && (x == 0)) from rfl).trans (by simp only [HA.out, HTB.out, Bool.true_and, Bool.false_and, Bool.and_false, Bool.and_true]))
        have c10 : vn.cell? ⟨q + 1, 0, none⟩ = some (.int .i64 2) := FR.out.cell 1 0 rfl rfl rfl
        have c11 : vn.cell? ⟨q + 1, 1, none⟩ = some (.int .i64 a) := FR.out.cell 1 1 rfl rfl rfl
        have c12 : vn.cell? ⟨q + 1, 2, none⟩ = some (.int .i64 b) := FR.out.cell 1 2 rfl rfl rfl
        have c13 : vn.cell? ⟨q + 1, 3, none⟩ = some (.int .i64 x) := FR.out.cell 1 3 rfl rfl rfl
        go_wp2
        go_ret
        rw [HE.out]
        exact ⟨rfl, FR.out.out⟩
    have hn2 : (o == 2) = false := by simpa using ho2
    replace ho2 := Lib.hid ho2
    by_cases ho17 : o = 17
    · subst ho17
      cases tb
      · skip
        skip
        have HE := Lib.hid (show plainB n ce 17 a b x = false from (show plainB n ce 17 a b x = ((inB a 4 && inB b 4) && (x == 0)) from rfl).trans (by simp only [HA.out, HTB.out, Bool.true_and, Bool.false_and, Bool.and_false, Bool.and_true]))
        have c10 : vn.cell? ⟨q + 1, 0, none⟩ = some (.int .i64 17) := FR.out.cell 1 0 rfl rfl rfl
        have c11 : vn.cell? ⟨q + 1, 1, none⟩ = some (.int .i64 a) := FR.out.cell 1 1 rfl rfl rfl
        have c12 : vn.cell? ⟨q + 1, 2, none⟩ = some (.int .i64 b) := FR.out.cell 1 2 rfl rfl rfl
        have c13 : vn.cell? ⟨q + 1, 3, none⟩ = some (.int .i64 x) := FR.out.cell 1 3 rfl rfl rfl
        go_wp2
        go_ret
        rw [HE.out]
        exact ⟨rfl, FR.out.out⟩
      · skip
        skip
        have HE := Lib.hid (show plainB n ce 17 a b x = (x == 0) from (show plainB n ce 17 a b x = ((inB a 4 && inB b 4) && (x == 0)) from rfl).trans (by simp only [HA.out, HTB.out, Bool.true_and, Bool.false_and, Bool.and_false, Bool.and_true]))
        have c10 : vn.cell? ⟨q + 1, 0, none⟩ = some (.int .i64 17) := FR.out.cell 1 0 rfl rfl rfl
        have c11 : vn.cell? ⟨q + 1, 1, none⟩ = some (.int .i64 a) := FR.out.cell 1 1 rfl rfl rfl
        have c12 : vn.cell? ⟨q + 1, 2, none⟩ = some (.int .i64 b) := FR.out.cell 1 2 rfl rfl rfl
        have c13 : vn.cell? ⟨q + 1, 3, none⟩ = some (.int .i64 x) := FR.out.cell 1 3 rfl rfl rfl
        go_wp2
        go_ret
        rw [HE.out]
        exact ⟨rfl, FR.out.out⟩
    have hn17 : (o == 17) = false := by simpa using ho17
    replace ho17 := Lib.hid ho17
    by_cases ho18 : o = 18
    · subst ho18
      cases tb
      · skip
        skip
        have HE := Lib.hid (show plainB n ce 18 a b x = false from (show plainB n ce 18 a b x = ((inB a 4 && inB b 4) && (x == 0)) from rfl).trans (by simp only [HA.out, HTB.out, Bool.true_and, Bool.false_and, Bool.and_false, Bool.and_true]))
        have c10 : vn.cell? ⟨q + 1, 0, none⟩ = some (.int .i64 18) := FR.out.cell 1 0 rfl rfl rfl
        have c11 : vn.cell? ⟨q + 1, 1, none⟩ = some (.int .i64 a) := FR.out.cell 1 1 rfl rfl rfl
        have c12 : vn.cell? ⟨q + 1, 2, none⟩ = some (.int .i64 b) := FR.out.cell 1 2 rfl rfl rfl
        have c13 : vn.cell? ⟨q + 1, 3, none⟩ = some (.int .i64 x) := FR.out.cell 1 3 rfl rfl rfl
        go_wp2
        go_ret
        rw [HE.out]
        exact ⟨rfl, FR.out.out⟩
      · skip
        skip
        have HE := Lib.hid (show plainB n ce 18 a b x = (x == 0) from (show plainB n ce 18 a b x = ((inB a 4 && inB b 4) && (x == 0)) from rfl).trans (by simp only [HA.out, HTB.out, Bool.true_and, Bool.false_and, Bool.and_false, Bool.and_true]))
        have c10 : vn.cell? ⟨q + 1, 0, none⟩ = some (.int .i64 18) := FR.out.cell 1 0 rfl rfl rfl
        have c11 : vn.cell? ⟨q + 1, 1, none⟩ = some (.int .i64 a) := FR.out.cell 1 1 rfl rfl rfl
        have c12 : vn.cell? ⟨q + 1, 2, none⟩ = some (.int .i64 b) := FR.out.cell 1 2 rfl rfl rfl
        have c13 : vn.cell? ⟨q + 1, 3, none⟩ = some (.int .i64 x) := FR.out.cell 1 3 rfl rfl rfl
        go_wp2
        go_ret
        rw [HE.out]
        exact ⟨rfl, FR.out.out⟩
    have hn18 : (o == 18) = false := by simpa using ho18
    replace ho18 := Lib.hid ho18
    by_cases ho25 : o = 25
    · subst ho25
      cases tb
      · skip
        skip
        have HE := Lib.hid (show plainB n ce 25 a b x = false from (show plainB n ce 25 a b x = ((inB a 4 && inB b 4) && (x == 0)) from rfl).trans (by simp only [HA.out, HTB.out, Bool.true_and, Bool.false_and, Bool.and_false, Bool.and_true]))
        have c10 : vn.cell? ⟨q + 1, 0, none⟩ = some (.int .i64 25) := FR.out.cell 1 0 rfl rfl rfl
        have c11 : vn.cell? ⟨q + 1, 1, none⟩ = some (.int .i64 a) := FR.out.cell 1 1 rfl rfl rfl
        have c12 : vn.cell? ⟨q + 1, 2, none⟩ = some (.int .i64 b) := FR.out.cell 1 2 rfl rfl rfl
        have c13 : vn.cell? ⟨q + 1, 3, none⟩ = some (.int .i64 x) := FR.out.cell 1 3 rfl rfl rfl
        go_wp2
        go_ret
        rw [HE.out]
        exact ⟨rfl, FR.out.out⟩
      · skip
        skip
        have HE := Lib.hid (show plainB n ce 25 a b x = (x == 0) from (show plainB n ce 25 a b x = ((inB a 4 && inB b 4) && (x == 0)) from rfl).trans (by simp only [HA.out, HTB.out, Bool.true_and, Bool.false_and, Bool.and_false, Bool.and_true]))
        have c10 : vn.cell? ⟨q + 1, 0, none⟩ = some (.int .i64 25) := FR.out.cell 1 0 rfl rfl rfl
        have c11 : vn.cell? ⟨q + 1, 1, none⟩ = some (.int .i64 a) := FR.out.cell 1 1 rfl rfl rfl
        have c12 : vn.cell? ⟨q + 1, 2, none⟩ = some (.int .i64 b) := FR.out.cell 1 2 rfl rfl rfl
        have c13 : vn.cell? ⟨q + 1, 3, none⟩ = some (.int .i64 x) := FR.out.cell 1 3 rfl rfl rfl
        go_wp2
        go_ret
        rw [HE.out]
        exact ⟨rfl, FR.out.out⟩
    have hn25 : (o == 25) = false := by simpa using ho25
    replace ho25 := Lib.hid ho25
    by_cases ho3 : o = 3
    · subst ho3
      cases tb
      · skip
        skip
        have HE := Lib.hid (show plainB n ce 3 a b x = false from (show plainB n ce 3 a b x = ((inB a 4 && inB b 4) && inB x 4) from rfl).trans (by simp only [HA.out, HTB.out, Bool.true_and, Bool.false_and, Bool.and_false, Bool.and_true]))
        have c10 : vn.cell? ⟨q + 1, 0, none⟩ = some (.int .i64 3) := FR.out.cell 1 0 rfl rfl rfl
        have c11 : vn.cell? ⟨q + 1, 1, none⟩ = some (.int .i64 a) := FR.out.cell 1 1 rfl rfl rfl
        have c12 : vn.cell? ⟨q + 1, 2, none⟩ = some (.int .i64 b) := FR.out.cell 1 2 rfl rfl rfl
        have c13 : vn.cell? ⟨q + 1, 3, none⟩ = some (.int .i64 x) := FR.out.cell 1 3 rfl rfl rfl
        go_wp2
        go_ret
        rw [HE.out]
        exact ⟨rfl, FR.out.out⟩
      · skip
        skip
        have HE := Lib.hid (show plainB n ce 3 a b x = inB x 4 from (show plainB n ce 3 a b x = ((inB a 4 && inB b 4) && inB x 4) from rfl).trans (by simp only [HA.out, HTB.out, Bool.true_and, Bool.false_and, Bool.and_false, Bool.and_true]))
        have c10 : vn.cell? ⟨q + 1, 0, none⟩ = some (.int .i64 3) := FR.out.cell 1 0 rfl rfl rfl
        have c11 : vn.cell? ⟨q + 1, 1, none⟩ = some (.int .i64 a) := FR.out.cell 1 1 rfl rfl rfl
        have c12 : vn.cell? ⟨q + 1, 2, none⟩ = some (.int .i64 b) := FR.out.cell 1 2 rfl rfl rfl
        have c13 : vn.cell? ⟨q + 1, 3, none⟩ = some (.int .i64 x) := FR.out.cell 1 3 rfl rfl rfl
        go_wp2_with fail
        refine (refIn_any x 4 _).mono ?_
        rintro e wq ⟨rfl, rfl⟩
        go_wp2
        go_ret
        rw [HE.out]
        exact ⟨rfl, FR.out.out⟩
    have hn3 : (o == 3) = false := by simpa using ho3
    replace ho3 := Lib.hid ho3
    by_cases ho4 : o = 4
    · subst ho4
      cases tb
      · skip
        skip
        have HE := Lib.hid (show plainB n ce 4 a b x = false from (show plainB n ce 4 a b x = ((inB a 4 && inB b 4) && inB x 4) from rfl).trans (by simp only [HA.out, HTB.out, Bool.true_and, Bool.false_and, Bool.and_false, Bool.and_true]))
        have c10 : vn.cell? ⟨q + 1, 0, none⟩ = some (.int .i64 4) := FR.out.cell 1 0 rfl rfl rfl
        have c11 : vn.cell? ⟨q + 1, 1, none⟩ = some (.int .i64 a) := FR.out.cell 1 1 rfl rfl rfl
        have c12 : vn.cell? ⟨q + 1, 2, none⟩ = some (.int .i64 b) := FR.out.cell 1 2 rfl rfl rfl
        have c13 : vn.cell? ⟨q + 1, 3, none⟩ = some (.int .i64 x) := FR.out.cell 1 3 rfl rfl rfl
        go_wp2
        go_ret
        rw [HE.out]
        exact ⟨rfl, FR.out.out⟩
      · skip
        skip
        have HE := Lib.hid (show plainB n ce 4 a b x = inB x 4 from (show plainB n ce 4 a b x = ((inB a 4 && inB b 4) && inB x 4) from rfl).trans (by simp only [HA.out, HTB.out, Bool.true_and, Bool.false_and, Bool.and_false, Bool.and_true]))
        have c10 : vn.cell? ⟨q + 1, 0, none⟩ = some (.int .i64 4) := FR.out.cell 1 0 rfl rfl rfl
        have c11 : vn.cell? ⟨q + 1, 1, none⟩ = some (.int .i64 a) := FR.out.cell 1 1 rfl rfl rfl
        have c12 : vn.cell? ⟨q + 1, 2, none⟩ = some (.int .i64 b) := FR.out.cell 1 2 rfl rfl rfl
        have c13 : vn.cell? ⟨q + 1, 3, none⟩ = some (.int .i64 x) := FR.out.cell 1 3 rfl rfl rfl
        go_wp2_with fail
        refine (refIn_any x 4 _).mono ?_
        rintro e wq ⟨rfl, rfl⟩
        go_wp2
        go_ret
        rw [HE.out]
        exact ⟨rfl, FR.out.out⟩
    have hn4 : (o == 4) = false := by simpa using ho4
    replace ho4 := Lib.hid ho4
    by_cases ho5 : o = 5
    · subst ho5
      cases tb
      · skip
        skip
        have HE := Lib.hid (show plainB n ce 5 a b x = false from (show plainB n ce 5 a b x = ((inB a 4 && inB b 4) && inB x 4) from rfl).trans (by simp only [HA.out, HTB.out, Bool.true_and, Bool.false_and, Bool.and_false, Bool.and_true]))
        have c10 : vn.cell? ⟨q + 1, 0, none⟩ = some (.int .i64 5) := FR.out.cell 1 0 rfl rfl rfl
        have c11 : vn.cell? ⟨q + 1, 1, none⟩ = some (.int .i64 a) := FR.out.cell 1 1 rfl rfl rfl
        have c12 : vn.cell? ⟨q + 1, 2, none⟩ = some (.int .i64 b) := FR.out.cell 1 2 rfl rfl rfl
        have c13 : vn.cell? ⟨q + 1, 3, none⟩ = some (.int .i64 x) := FR.out.cell 1 3 rfl rfl rfl
        go_wp2
        go_ret
        rw [HE.out]
        exact ⟨rfl, FR.out.out⟩
      · skip
        skip
        have HE := Lib.hid (show plainB n ce 5 a b x = inB x 4 from (show plainB n ce 5 a b x = ((inB a 4 && inB b 4) && inB x 4) from rfl).trans (by simp only [HA.out, HTB.out, Bool.true_and, Bool.false_and, Bool.and_false, Bool.and_true]))
        have c10 : vn.cell? ⟨q + 1, 0, none⟩ = some (.int .i64 5) := FR.out.cell 1 0 rfl rfl rfl
        have c11 : vn.cell? ⟨q + 1, 1, none⟩ = some (.int .i64 a) := FR.out.cell 1 1 rfl rfl rfl
        have c12 : vn.cell? ⟨q + 1, 2, none⟩ = some (.int .i64 b) := FR.out.cell 1 2 rfl rfl rfl
        have c13 : vn.cell? ⟨q + 1, 3, none⟩ = some (.int .i64 x) := FR.out.cell 1 3 rfl rfl rfl
        go_wp2_with fail
        refine (refIn_any x 4 _).mono ?_
        rintro e wq ⟨rfl, rfl⟩
        go_wp2
        go_ret
        rw [HE.out]
        exact ⟨rfl, FR.out.out⟩
    have hn5 : (o == 5) = false := by simpa using ho5
    replace ho5 := Lib.hid ho5
    by_cases ho12 : o = 12
    · subst ho12
      cases tb
      · skip
        skip
        have HE := Lib.hid (show plainB n ce 12 a b x = false from (show plainB n ce 12 a b x = ((inB a 4 && inB b 4) && inB x 4) from rfl).trans (by simp only [HA.out, HTB.out, Bool.true_and, Bool.false_and, Bool.and_false, Bool.and_true]))
        have c10 : vn.cell? ⟨q + 1, 0, none⟩ = some (.int .i64 12) := FR.out.cell 1 0 rfl rfl rfl
        have c11 : vn.cell? ⟨q + 1, 1, none⟩ = some (.int .i64 a) := FR.out.cell 1 1 rfl rfl rfl
        have c12 : vn.cell? ⟨q + 1, 2, none⟩ = some (.int .i64 b) := FR.out.cell 1 2 rfl rfl rfl
        have c13 : vn.cell? ⟨q + 1, 3, none⟩ = some (.int .i64 x) := FR.out.cell 1 3 rfl rfl rfl
        go_wp2
        go_ret
        rw [HE.out]
        exact ⟨rfl, FR.out.out⟩
      · skip
        skip
        have HE := Lib.hid (show plainB n ce 12 a b x = inB x 4 from (show plainB n ce 12 a b x = ((inB a 4 && inB b 4) && inB x 4) from rfl).trans (by simp only [HA.out, HTB.out, Bool.true_and, Bool.false_and, Bool.and_false, Bool.and_true]))
        have c10 : vn.cell? ⟨q + 1, 0, none⟩ = some (.int .i64 12) := FR.out.cell 1 0 rfl rfl rfl
        have c11 : vn.cell? ⟨q + 1, 1, none⟩ = some (.int .i64 a) := FR.out.cell 1 1 rfl rfl rfl
        have c12 : vn.cell? ⟨q + 1, 2, none⟩ = some (.int .i64 b) := FR.out.cell 1 2 rfl rfl rfl
        have c13 : vn.cell? ⟨q + 1, 3, none⟩ = some (.int .i64 x) := FR.out.cell 1 3 rfl rfl rfl
        go_wp2_with fail
        refine (refIn_any x 4 _).mono ?_
        rintro e wq ⟨rfl, rfl⟩
        go_wp2
        go_ret
        rw [HE.out]
        exact ⟨rfl, FR.out.out⟩
    have hn12 : (o == 12) = false := by simpa using ho12
    replace ho12 := Lib.hid ho12
    by_cases ho13 : o = 13
    · subst ho13
      cases tb
      · skip
        skip
        have HE := Lib.hid (show plainB n ce 13 a b x = false from (show plainB n ce 13 a b x = ((inB a 4 && inB b 4) && inB x 4) from rfl).trans (by simp only [HA.out, HTB.out, Bool.true_and, Bool.false_and, Bool.and_false, Bool.and_true]))
        have c10 : vn.cell? ⟨q + 1, 0, none⟩ = some (.int .i64 13) := FR.out.cell 1 0 rfl rfl rfl
        have c11 : vn.cell? ⟨q + 1, 1, none⟩ = some (.int .i64 a) := FR.out.cell 1 1 rfl rfl rfl
        have c12 : vn.cell? ⟨q + 1, 2, none⟩ = some (.int .i64 b) := FR.out.cell 1 2 rfl rfl rfl
        have c13 : vn.cell? ⟨q + 1, 3, none⟩ = some (.int .i64 x) := FR.out.cell 1 3 rfl rfl rfl
        go_wp2
        go_ret
        rw [HE.out]
        exact ⟨rfl, FR.out.out⟩
      · skip
        skip
        have HE := Lib.hid (show plainB n ce 13 a b x = inB x 4 from (show plainB n ce 13 a b x = ((inB a 4 && inB b 4) && inB x 4) from rfl).trans (by simp only [HA.out, HTB.out, Bool.true_and, Bool.false_and, Bool.and_false, Bool.and_true]))
        have c10 : vn.cell? ⟨q + 1, 0, none⟩ = some (.int .i64 13) := FR.out.cell 1 0 rfl rfl rfl
        have c11 : vn.cell? ⟨q + 1, 1, none⟩ = some (.int .i64 a) := FR.out.cell 1 1 rfl rfl rfl
        have c12 : vn.cell? ⟨q + 1, 2, none⟩ = some (.int .i64 b) := FR.out.cell 1 2 rfl rfl rfl
        have c13 : vn.cell? ⟨q + 1, 3, none⟩ = some (.int .i64 x) := FR.out.cell 1 3 rfl rfl rfl
        go_wp2_with fail
        refine (refIn_any x 4 _).mono ?_
        rintro e wq ⟨rfl, rfl⟩
        go_wp2
        go_ret
        rw [HE.out]
        exact ⟨rfl, FR.out.out⟩
    have hn13 : (o == 13) = false := by simpa using ho13
    replace ho13 := Lib.hid ho13
    by_cases ho14 : o = 14
    · subst ho14
      cases tb
      · skip
        skip
        have HE := Lib.hid (show plainB n ce 14 a b x = false from (show plainB n ce 14 a b x = ((inB a 4 && inB b 4) && inB x 4) from rfl).trans (by simp only [HA.out, HTB.out, Bool.true_and, Bool.false_and, Bool.and_false, Bool.and_true]))
        have c10 : vn.cell? ⟨q + 1, 0, none⟩ = some (.int .i64 14) := FR.out.cell 1 0 rfl rfl rfl
        have c11 : vn.cell? ⟨q + 1, 1, none⟩ = some (.int .i64 a) := FR.out.cell 1 1 rfl rfl rfl
        have c12 : vn.cell? ⟨q + 1, 2, none⟩ = some (.int .i64 b) := FR.out.cell 1 2 rfl rfl rfl
        have c13 : vn.cell? ⟨q + 1, 3, none⟩ = some (.int .i64 x) := FR.out.cell 1 3 rfl rfl rfl
        go_wp2
        go_ret
        rw [HE.out]
        exact ⟨rfl, FR.out.out⟩
      · skip
        skip
        have HE := Lib.hid (show plainB n ce 14 a b x = inB x 4 from (show plainB n ce 14 a b x = ((inB a 4 && inB b 4) && inB x 4) from rfl).trans (by simp only [HA.out, HTB.out, Bool.true_and, Bool.false_and, Bool.and_false, Bool.and_true]))
        have c10 : vn.cell? ⟨q + 1, 0, none⟩ = some (.int .i64 14) := FR.out.cell 1 0 rfl rfl rfl
        have c11 : vn.cell? ⟨q + 1, 1, none⟩ = some (.int .i64 a) := FR.out.cell 1 1 rfl rfl rfl
        have c12 : vn.cell? ⟨q + 1, 2, none⟩ = some (.int .i64 b) := FR.out.cell 1 2 rfl rfl rfl
        have c13 : vn.cell? ⟨q + 1, 3, none⟩ = some (.int .i64 x) := FR.out.cell 1 3 rfl rfl rfl
        go_wp2_with fail
        refine (refIn_any x 4 _).mono ?_
        rintro e wq ⟨rfl, rfl⟩
        go_wp2
        go_ret
        rw [HE.out]
        exact ⟨rfl, FR.out.out⟩
    have hn14 : (o == 14) = false := by simpa using ho14
    replace ho14 := Lib.hid ho14
    by_cases ho15 : o = 15
    · subst ho15
      cases tb
      · skip
        skip
        have HE := Lib.hid (show plainB n ce 15 a b x = false from (show plainB n ce 15 a b x = ((inB a 4 && inB b 4) && inB x 4) from rfl).trans (by simp only [HA.out, HTB.out, Bool.true_and, Bool.false_and, Bool.and_false, Bool.and_true]))
        have c10 : vn.cell? ⟨q + 1, 0, none⟩ = some (.int .i64 15) := FR.out.cell 1 0 rfl rfl rfl
        have c11 : vn.cell? ⟨q + 1, 1, none⟩ = some (.int .i64 a) := FR.out.cell 1 1 rfl rfl rfl
        have c12 : vn.cell? ⟨q + 1, 2, none⟩ = some (.int .i64 b) := FR.out.cell 1 2 rfl rfl rfl
        have c13 : vn.cell? ⟨q + 1, 3, none⟩ = some (.int .i64 x) := FR.out.cell 1 3 rfl rfl rfl
        go_wp2
        go_ret
        rw [HE.out]
        exact ⟨rfl, FR.out.out⟩
      · skip
        skip
        have HE := Lib.hid (show plainB n ce 15 a b x = inB x 4 from (show plainB n ce 15 a b x = ((inB a 4 && inB b 4) && inB x 4) from rfl).trans (by simp only [HA.out, HTB.out, Bool.true_and, Bool.false_and, Bool.and_false, Bool.and_true]))
        have c10 : vn.cell? ⟨q + 1, 0, none⟩ = some (.int .i64 15) := FR.out.cell 1 0 rfl rfl rfl
        have c11 : vn.cell? ⟨q + 1, 1, none⟩ = some (.int .i64 a) := FR.out.cell 1 1 rfl rfl rfl
        have c12 : vn.cell? ⟨q + 1, 2, none⟩ = some (.int .i64 b) := FR.out.cell 1 2 rfl rfl rfl
        have c13 : vn.cell? ⟨q + 1, 3, none⟩ = some (.int .i64 x) := FR.out.cell 1 3 rfl rfl rfl
        go_wp2_with fail
        refine (refIn_any x 4 _).mono ?_
        rintro e wq ⟨rfl, rfl⟩
        go_wp2
        go_ret
        rw [HE.out]
        exact ⟨rfl, FR.out.out⟩
    have hn15 : (o == 15) = false := by simpa using ho15
    replace ho15 := Lib.hid ho15
    by_cases ho16 : o = 16
    · subst ho16
      cases tb
      · skip
        skip
        have HE := Lib.hid (show plainB n ce 16 a b x = false from (show plainB n ce 16 a b x = ((inB a 4 && inB b 4) && inB x 4) from rfl).trans (by simp only [HA.out, HTB.out, Bool.true_and, Bool.false_and, Bool.and_false, Bool.and_true]))
        have c10 : vn.cell? ⟨q + 1, 0, none⟩ = some (.int .i64 16) := FR.out.cell 1 0 rfl rfl rfl
        have c11 : vn.cell? ⟨q + 1, 1, none⟩ = some (.int .i64 a) := FR.out.cell 1 1 rfl rfl rfl
        have c12 : vn.cell? ⟨q + 1, 2, none⟩ = some (.int .i64 b) := FR.out.cell 1 2 rfl rfl rfl
        have c13 : vn.cell? ⟨q + 1, 3, none⟩ = some (.int .i64 x) := FR.out.cell 1 3 rfl rfl rfl
        go_wp2
        go_ret
        rw [HE.out]
        exact ⟨rfl, FR.out.out⟩
      · skip
        skip
        have HE := Lib.hid (show plainB n ce 16 a b x = inB x 4 from (show plainB n ce 16 a b x = ((inB a 4 && inB b 4) && inB x 4) from rfl).trans (by simp only [HA.out, HTB.out, Bool.true_and, Bool.false_and, Bool.and_false, Bool.and_true]))
        have c10 : vn.cell? ⟨q + 1, 0, none⟩ = some (.int .i64 16) := FR.out.cell 1 0 rfl rfl rfl
        have c11 : vn.cell? ⟨q + 1, 1, none⟩ = some (.int .i64 a) := FR.out.cell 1 1 rfl rfl rfl
        have c12 : vn.cell? ⟨q + 1, 2, none⟩ = some (.int .i64 b) := FR.out.cell 1 2 rfl rfl rfl
        have c13 : vn.cell? ⟨q + 1, 3, none⟩ = some (.int .i64 x) := FR.out.cell 1 3 rfl rfl rfl
        go_wp2_with fail
        refine (refIn_any x 4 _).mono ?_
        rintro e wq ⟨rfl, rfl⟩
        go_wp2
        go_ret
        rw [HE.out]
        exact ⟨rfl, FR.out.out⟩
    have hn16 : (o == 16) = false := by simpa using ho16
    replace ho16 := Lib.hid ho16
    by_cases ho6 : o = 6
    · subst ho6
      have If0 := fun (W : World) => refIn_any a (n : Int) W
      cases hf0 : inB a (n : Int)
      · rw [hf0] at If0
        replace If0 := Lib.hid If0; have f0 := Lib.hid hf0; clear hf0
        have HE := Lib.hid (show plainB n ce 6 a b x = false from (show plainB n ce 6 a b x = (inB a n && ((b == 0) && (x == 0))) from rfl).trans (by simp only [HA.out, HTB.out, f0.out, Bool.true_and, Bool.false_and, Bool.and_false, Bool.and_true]))
        have c00 : vn.cell? ⟨q, 0, none⟩ = some (.slice A n c) := FR.out.cell 0 0 rfl rfl rfl
        have c01 : vn.cell? ⟨q, 1, none⟩ = some (.slice B m d) := FR.out.cell 0 1 rfl rfl rfl
        have c02 : vn.cell? ⟨q, 2, none⟩ = some (.slice C k f) := FR.out.cell 0 2 rfl rfl rfl
        have c03 : vn.cell? ⟨q, 3, none⟩ = some (.int .i64 ce) := FR.out.cell 0 3 rfl rfl rfl
        have c04 : vn.cell? ⟨q, 4, none⟩ = some (.int .i64 re) := FR.out.cell 0 4 rfl rfl rfl
        have c05 : vn.cell? ⟨q, 5, none⟩ = some (.int .i64 pa) := FR.out.cell 0 5 rfl rfl rfl
        have c10 : vn.cell? ⟨q + 1, 0, none⟩ = some (.int .i64 6) := FR.out.cell 1 0 rfl rfl rfl
        have c11 : vn.cell? ⟨q + 1, 1, none⟩ = some (.int .i64 a) := FR.out.cell 1 1 rfl rfl rfl
        have c12 : vn.cell? ⟨q + 1, 2, none⟩ = some (.int .i64 b) := FR.out.cell 1 2 rfl rfl rfl
        have c13 : vn.cell? ⟨q + 1, 3, none⟩ = some (.int .i64 x) := FR.out.cell 1 3 rfl rfl rfl
        go_wp2_with fail
        refine (If0.out _).mono ?_
        rintro e wq ⟨rfl, rfl⟩
        go_wp2
        go_ret
        rw [HE.out]
        exact ⟨rfl, FR.out.out⟩
      · rw [hf0] at If0
        replace If0 := Lib.hid If0; have f0 := Lib.hid hf0; clear hf0
        by_cases hf1 : b = 0
        · have f1 : (b == 0) = true := by simp [hf1]
          clear hf1
          have HE := Lib.hid (show plainB n ce 6 a b x = (x == 0) from (show plainB n ce 6 a b x = (inB a n && ((b == 0) && (x == 0))) from rfl).trans (by simp only [HA.out, HTB.out, f0.out, f1, Bool.true_and, Bool.false_and, Bool.and_false, Bool.and_true]))
          have c00 : vn.cell? ⟨q, 0, none⟩ = some (.slice A n c) := FR.out.cell 0 0 rfl rfl rfl
          have c01 : vn.cell? ⟨q, 1, none⟩ = some (.slice B m d) := FR.out.cell 0 1 rfl rfl rfl
          have c02 : vn.cell? ⟨q, 2, none⟩ = some (.slice C k f) := FR.out.cell 0 2 rfl rfl rfl
          have c03 : vn.cell? ⟨q, 3, none⟩ = some (.int .i64 ce) := FR.out.cell 0 3 rfl rfl rfl
          have c04 : vn.cell? ⟨q, 4, none⟩ = some (.int .i64 re) := FR.out.cell 0 4 rfl rfl rfl
          have c05 : vn.cell? ⟨q, 5, none⟩ = some (.int .i64 pa) := FR.out.cell 0 5 rfl rfl rfl
          have c10 : vn.cell? ⟨q + 1, 0, none⟩ = some (.int .i64 6) := FR.out.cell 1 0 rfl rfl rfl
          have c11 : vn.cell? ⟨q + 1, 1, none⟩ = some (.int .i64 a) := FR.out.cell 1 1 rfl rfl rfl
          have c12 : vn.cell? ⟨q + 1, 2, none⟩ = some (.int .i64 b) := FR.out.cell 1 2 rfl rfl rfl
          have c13 : vn.cell? ⟨q + 1, 3, none⟩ = some (.int .i64 x) := FR.out.cell 1 3 rfl rfl rfl
          go_wp2_with fail
          refine (If0.out _).mono ?_
          rintro e wq ⟨rfl, rfl⟩
          go_wp2
          go_ret
          rw [HE.out]
          exact ⟨rfl, FR.out.out⟩
        · have f1 : (b == 0) = false := by simp [hf1]
          clear hf1
          have HE := Lib.hid (show plainB n ce 6 a b x = false from (show plainB n ce 6 a b x = (inB a n && ((b == 0) && (x == 0))) from rfl).trans (by simp only [HA.out, HTB.out, f0.out, f1, Bool.true_and, Bool.false_and, Bool.and_false, Bool.and_true]))
          have c00 : vn.cell? ⟨q, 0, none⟩ = some (.slice A n c) := FR.out.cell 0 0 rfl rfl rfl
          have c01 : vn.cell? ⟨q, 1, none⟩ = some (.slice B m d) := FR.out.cell 0 1 rfl rfl rfl
          have c02 : vn.cell? ⟨q, 2, none⟩ = some (.slice C k f) := FR.out.cell 0 2 rfl rfl rfl
          have c03 : vn.cell? ⟨q, 3, none⟩ = some (.int .i64 ce) := FR.out.cell 0 3 rfl rfl rfl
          have c04 : vn.cell? ⟨q, 4, none⟩ = some (.int .i64 re) := FR.out.cell 0 4 rfl rfl rfl
          have c05 : vn.cell? ⟨q, 5, none⟩ = some (.int .i64 pa) := FR.out.cell 0 5 rfl rfl rfl
          have c10 : vn.cell? ⟨q + 1, 0, none⟩ = some (.int .i64 6) := FR.out.cell 1 0 rfl rfl rfl
          have c11 : vn.cell? ⟨q + 1, 1, none⟩ = some (.int .i64 a) := FR.out.cell 1 1 rfl rfl rfl
          have c12 : vn.cell? ⟨q + 1, 2, none⟩ = some (.int .i64 b) := FR.out.cell 1 2 rfl rfl rfl
          have c13 : vn.cell? ⟨q + 1, 3, none⟩ = some (.int .i64 x) := FR.out.cell 1 3 rfl rfl rfl
          go_wp2_with fail
          refine (If0.out _).mono ?_
          rintro e wq ⟨rfl, rfl⟩
          go_wp2
          go_ret
          rw [HE.out]
          exact ⟨rfl, FR.out.out⟩
    have hn6 : (o == 6) = false := by simpa using ho6
    replace ho6 := Lib.hid ho6
    by_cases ho23 : o = 23
    · subst ho23
      have If0 := fun (W : World) => refIn_any a (n : Int) W
      cases hf0 : inB a (n : Int)
      · rw [hf0] at If0
        replace If0 := Lib.hid If0; have f0 := Lib.hid hf0; clear hf0
        have HE := Lib.hid (show plainB n ce 23 a b x = false from (show plainB n ce 23 a b x = (inB a n && ((b == 0) && (x == 0))) from rfl).trans (by simp only [HA.out, HTB.out, f0.out, Bool.true_and, Bool.false_and, Bool.and_false, Bool.and_true]))
        have c00 : vn.cell? ⟨q, 0, none⟩ = some (.slice A n c) := FR.out.cell 0 0 rfl rfl rfl
        have c01 : vn.cell? ⟨q, 1, none⟩ = some (.slice B m d) := FR.out.cell 0 1 rfl rfl rfl
        have c02 : vn.cell? ⟨q, 2, none⟩ = some (.slice C k f) := FR.out.cell 0 2 rfl rfl rfl
        have c03 : vn.cell? ⟨q, 3, none⟩ = some (.int .i64 ce) := FR.out.cell 0 3 rfl rfl rfl
        have c04 : vn.cell? ⟨q, 4, none⟩ = some (.int .i64 re) := FR.out.cell 0 4 rfl rfl rfl
        have c05 : vn.cell? ⟨q, 5, none⟩ = some (.int .i64 pa) := FR.out.cell 0 5 rfl rfl rfl
        have c10 : vn.cell? ⟨q + 1, 0, none⟩ = some (.int .i64 23) := FR.out.cell 1 0 rfl rfl rfl
        have c11 : vn.cell? ⟨q + 1, 1, none⟩ = some (.int .i64 a) := FR.out.cell 1 1 rfl rfl rfl
        have c12 : vn.cell? ⟨q + 1, 2, none⟩ = some (.int .i64 b) := FR.out.cell 1 2 rfl rfl rfl
        have c13 : vn.cell? ⟨q + 1, 3, none⟩ = some (.int .i64 x) := FR.out.cell 1 3 rfl rfl rfl
        go_wp2_with fail
        refine (If0.out _).mono ?_
        rintro e wq ⟨rfl, rfl⟩
        go_wp2
        go_ret
        rw [HE.out]
        exact ⟨rfl, FR.out.out⟩
      · rw [hf0] at If0
        replace If0 := Lib.hid If0; have f0 := Lib.hid hf0; clear hf0
        by_cases hf1 : b = 0
        · have f1 : (b == 0) = true := by simp [hf1]
          clear hf1
          have HE := Lib.hid (show plainB n ce 23 a b x = (x == 0) from (show plainB n ce 23 a b x = (inB a n && ((b == 0) && (x == 0))) from rfl).trans (by simp only [HA.out, HTB.out, f0.out, f1, Bool.true_and, Bool.false_and, Bool.and_false, Bool.and_true]))
          have c00 : vn.cell? ⟨q, 0, none⟩ = some (.slice A n c) := FR.out.cell 0 0 rfl rfl rfl
          have c01 : vn.cell? ⟨q, 1, none⟩ = some (.slice B m d) := FR.out.cell 0 1 rfl rfl rfl
          have c02 : vn.cell? ⟨q, 2, none⟩ = some (.slice C k f) := FR.out.cell 0 2 rfl rfl rfl
          have c03 : vn.cell? ⟨q, 3, none⟩ = some (.int .i64 ce) := FR.out.cell 0 3 rfl rfl rfl
          have c04 : vn.cell? ⟨q, 4, none⟩ = some (.int .i64 re) := FR.out.cell 0 4 rfl rfl rfl
          have c05 : vn.cell? ⟨q, 5, none⟩ = some (.int .i64 pa) := FR.out.cell 0 5 rfl rfl rfl
          have c10 : vn.cell? ⟨q + 1, 0, none⟩ = some (.int .i64 23) := FR.out.cell 1 0 rfl rfl rfl
          have c11 : vn.cell? ⟨q + 1, 1, none⟩ = some (.int .i64 a) := FR.out.cell 1 1 rfl rfl rfl
          have c12 : vn.cell? ⟨q + 1, 2, none⟩ = some (.int .i64 b) := FR.out.cell 1 2 rfl rfl rfl
          have c13 : vn.cell? ⟨q + 1, 3, none⟩ = some (.int .i64 x) := FR.out.cell 1 3 rfl rfl rfl
          go_wp2_with fail
          refine (If0.out _).mono ?_
          rintro e wq ⟨rfl, rfl⟩
          go_wp2
          go_ret
          rw [HE.out]
          exact ⟨rfl, FR.out.out⟩
        · have f1 : (b == 0) = false := by simp [hf1]
          clear hf1
          have HE := Lib.hid (show plainB n ce 23 a b x = false from (show plainB n ce 23 a b x = (inB a n && ((b == 0) && (x == 0))) from rfl).trans (by simp only [HA.out, HTB.out, f0.out, f1, Bool.true_and, Bool.false_and, Bool.and_false, Bool.and_true]))
          have c00 : vn.cell? ⟨q, 0, none⟩ = some (.slice A n c) := FR.out.cell 0 0 rfl rfl rfl
          have c01 : vn.cell? ⟨q, 1, none⟩ = some (.slice B m d) := FR.out.cell 0 1 rfl rfl rfl
          have c02 : vn.cell? ⟨q, 2, none⟩ = some (.slice C k f) := FR.out.cell 0 2 rfl rfl rfl
          have c03 : vn.cell? ⟨q, 3, none⟩ = some (.int .i64 ce) := FR.out.cell 0 3 rfl rfl rfl
          have c04 : vn.cell? ⟨q, 4, none⟩ = some (.int .i64 re) := FR.out.cell 0 4 rfl rfl rfl
          have c05 : vn.cell? ⟨q, 5, none⟩ = some (.int .i64 pa) := FR.out.cell 0 5 rfl rfl rfl
          have c10 : vn.cell? ⟨q + 1, 0, none⟩ = some (.int .i64 23) := FR.out.cell 1 0 rfl rfl rfl
          have c11 : vn.cell? ⟨q + 1, 1, none⟩ = some (.int .i64 a) := FR.out.cell 1 1 rfl rfl rfl
          have c12 : vn.cell? ⟨q + 1, 2, none⟩ = some (.int .i64 b) := FR.out.cell 1 2 rfl rfl rfl
          have c13 : vn.cell? ⟨q + 1, 3, none⟩ = some (.int .i64 x) := FR.out.cell 1 3 rfl rfl rfl
          go_wp2_with fail
          refine (If0.out _).mono ?_
          rintro e wq ⟨rfl, rfl⟩
          go_wp2
          go_ret
          rw [HE.out]
          exact ⟨rfl, FR.out.out⟩
    have hn23 : (o == 23) = false := by simpa using ho23
    replace ho23 := Lib.hid ho23
    by_cases ho7 : o = 7
    · subst ho7
      have If0 := fun (W : World) => refIn_any b (n : Int) W
      cases hf0 : inB b (n : Int)
      · rw [hf0] at If0
        replace If0 := Lib.hid If0; have f0 := Lib.hid hf0; clear hf0
        have HE := Lib.hid (show plainB n ce 7 a b x = false from (show plainB n ce 7 a b x = (inB a 4 && (inB b n && (x == 0))) from rfl).trans (by simp only [HA.out, HTB.out, f0.out, Bool.true_and, Bool.false_and, Bool.and_false, Bool.and_true]))
        have c00 : vn.cell? ⟨q, 0, none⟩ = some (.slice A n c) := FR.out.cell 0 0 rfl rfl rfl
        have c01 : vn.cell? ⟨q, 1, none⟩ = some (.slice B m d) := FR.out.cell 0 1 rfl rfl rfl
        have c02 : vn.cell? ⟨q, 2, none⟩ = some (.slice C k f) := FR.out.cell 0 2 rfl rfl rfl
        have c03 : vn.cell? ⟨q, 3, none⟩ = some (.int .i64 ce) := FR.out.cell 0 3 rfl rfl rfl
        have c04 : vn.cell? ⟨q, 4, none⟩ = some (.int .i64 re) := FR.out.cell 0 4 rfl rfl rfl
        have c05 : vn.cell? ⟨q, 5, none⟩ = some (.int .i64 pa) := FR.out.cell 0 5 rfl rfl rfl
        have c10 : vn.cell? ⟨q + 1, 0, none⟩ = some (.int .i64 7) := FR.out.cell 1 0 rfl rfl rfl
        have c11 : vn.cell? ⟨q + 1, 1, none⟩ = some (.int .i64 a) := FR.out.cell 1 1 rfl rfl rfl
        have c12 : vn.cell? ⟨q + 1, 2, none⟩ = some (.int .i64 b) := FR.out.cell 1 2 rfl rfl rfl
        have c13 : vn.cell? ⟨q + 1, 3, none⟩ = some (.int .i64 x) := FR.out.cell 1 3 rfl rfl rfl
        go_wp2_with fail
        refine (If0.out _).mono ?_
        rintro e wq ⟨rfl, rfl⟩
        go_wp2
        go_ret
        rw [HE.out]
        exact ⟨rfl, FR.out.out⟩
      · rw [hf0] at If0
        replace If0 := Lib.hid If0; have f0 := Lib.hid hf0; clear hf0
        have HE := Lib.hid (show plainB n ce 7 a b x = (x == 0) from (show plainB n ce 7 a b x = (inB a 4 && (inB b n && (x == 0))) from rfl).trans (by simp only [HA.out, HTB.out, f0.out, Bool.true_and, Bool.false_and, Bool.and_false, Bool.and_true]))
        have c00 : vn.cell? ⟨q, 0, none⟩ = some (.slice A n c) := FR.out.cell 0 0 rfl rfl rfl
        have c01 : vn.cell? ⟨q, 1, none⟩ = some (.slice B m d) := FR.out.cell 0 1 rfl rfl rfl
        have c02 : vn.cell? ⟨q, 2, none⟩ = some (.slice C k f) := FR.out.cell 0 2 rfl rfl rfl
        have c03 : vn.cell? ⟨q, 3, none⟩ = some (.int .i64 ce) := FR.out.cell 0 3 rfl rfl rfl
        have c04 : vn.cell? ⟨q, 4, none⟩ = some (.int .i64 re) := FR.out.cell 0 4 rfl rfl rfl
        have c05 : vn.cell? ⟨q, 5, none⟩ = some (.int .i64 pa) := FR.out.cell 0 5 rfl rfl rfl
        have c10 : vn.cell? ⟨q + 1, 0, none⟩ = some (.int .i64 7) := FR.out.cell 1 0 rfl rfl rfl
        have c11 : vn.cell? ⟨q + 1, 1, none⟩ = some (.int .i64 a) := FR.out.cell 1 1 rfl rfl rfl
        have c12 : vn.cell? ⟨q + 1, 2, none⟩ = some (.int .i64 b) := FR.out.cell 1 2 rfl rfl rfl
        have c13 : vn.cell? ⟨q + 1, 3, none⟩ = some (.int .i64 x) := FR.out.cell 1 3 rfl rfl rfl
        go_wp2_with fail
        refine (If0.out _).mono ?_
        rintro e wq ⟨rfl, rfl⟩
        go_wp2
        go_ret
        rw [HE.out]
        exact ⟨rfl, FR.out.out⟩
    have hn7 : (o == 7) = false := by simpa using ho7
    replace ho7 := Lib.hid ho7
    by_cases ho22 : o = 22
    · subst ho22
      have If0 := fun (W : World) => refIn_any b (n : Int) W
      cases hf0 : inB b (n : Int)
      · rw [hf0] at If0
        replace If0 := Lib.hid If0; have f0 := Lib.hid hf0; clear hf0
        have HE := Lib.hid (show plainB n ce 22 a b x = false from (show plainB n ce 22 a b x = (inB a 4 && (inB b n && (x == 0))) from rfl).trans (by simp only [HA.out, HTB.out, f0.out, Bool.true_and, Bool.false_and, Bool.and_false, Bool.and_true]))
        have c00 : vn.cell? ⟨q, 0, none⟩ = some (.slice A n c) := FR.out.cell 0 0 rfl rfl rfl
        have c01 : vn.cell? ⟨q, 1, none⟩ = some (.slice B m d) := FR.out.cell 0 1 rfl rfl rfl
        have c02 : vn.cell? ⟨q, 2, none⟩ = some (.slice C k f) := FR.out.cell 0 2 rfl rfl rfl
        have c03 : vn.cell? ⟨q, 3, none⟩ = some (.int .i64 ce) := FR.out.cell 0 3 rfl rfl rfl
        have c04 : vn.cell? ⟨q, 4, none⟩ = some (.int .i64 re) := FR.out.cell 0 4 rfl rfl rfl
        have c05 : vn.cell? ⟨q, 5, none⟩ = some (.int .i64 pa) := FR.out.cell 0 5 rfl rfl rfl
        have c10 : vn.cell? ⟨q + 1, 0, none⟩ = some (.int .i64 22) := FR.out.cell 1 0 rfl rfl rfl
        have c11 : vn.cell? ⟨q + 1, 1, none⟩ = some (.int .i64 a) := FR.out.cell 1 1 rfl rfl rfl
        have c12 : vn.cell? ⟨q + 1, 2, none⟩ = some (.int .i64 b) := FR.out.cell 1 2 rfl rfl rfl
        have c13 : vn.cell? ⟨q + 1, 3, none⟩ = some (.int .i64 x) := FR.out.cell 1 3 rfl rfl rfl
        go_wp2_with fail
        refine (If0.out _).mono ?_
        rintro e wq ⟨rfl, rfl⟩
        go_wp2
        go_ret
        rw [HE.out]
        exact ⟨rfl, FR.out.out⟩
      · rw [hf0] at If0
        replace If0 := Lib.hid If0; have f0 := Lib.hid hf0; clear hf0
        have HE := Lib.hid (show plainB n ce 22 a b x = (x == 0) from (show plainB n ce 22 a b x = (inB a 4 && (inB b n && (x == 0))) from rfl).trans (by simp only [HA.out, HTB.out, f0.out, Bool.true_and, Bool.false_and, Bool.and_false, Bool.and_true]))
        have c00 : vn.cell? ⟨q, 0, none⟩ = some (.slice A n c) := FR.out.cell 0 0 rfl rfl rfl
        have c01 : vn.cell? ⟨q, 1, none⟩ = some (.slice B m d) := FR.out.cell 0 1 rfl rfl rfl
        have c02 : vn.cell? ⟨q, 2, none⟩ = some (.slice C k f) := FR.out.cell 0 2 rfl rfl rfl
        have c03 : vn.cell? ⟨q, 3, none⟩ = some (.int .i64 ce) := FR.out.cell 0 3 rfl rfl rfl
        have c04 : vn.cell? ⟨q, 4, none⟩ = some (.int .i64 re) := FR.out.cell 0 4 rfl rfl rfl
        have c05 : vn.cell? ⟨q, 5, none⟩ = some (.int .i64 pa) := FR.out.cell 0 5 rfl rfl rfl
        have c10 : vn.cell? ⟨q + 1, 0, none⟩ = some (.int .i64 22) := FR.out.cell 1 0 rfl rfl rfl
        have c11 : vn.cell? ⟨q + 1, 1, none⟩ = some (.int .i64 a) := FR.out.cell 1 1 rfl rfl rfl
        have c12 : vn.cell? ⟨q + 1, 2, none⟩ = some (.int .i64 b) := FR.out.cell 1 2 rfl rfl rfl
        have c13 : vn.cell? ⟨q + 1, 3, none⟩ = some (.int .i64 x) := FR.out.cell 1 3 rfl rfl rfl
        go_wp2_with fail
        refine (If0.out _).mono ?_
        rintro e wq ⟨rfl, rfl⟩
        go_wp2
        go_ret
        rw [HE.out]
        exact ⟨rfl, FR.out.out⟩
    have hn22 : (o == 22) = false := by simpa using ho22
    replace ho22 := Lib.hid ho22
    by_cases ho8 : o = 8
    · subst ho8
      have If0 := fun (W : World) => refIn_any b ce W
      cases hf0 : inB b ce
      · rw [hf0] at If0
        replace If0 := Lib.hid If0; have f0 := Lib.hid hf0; clear hf0
        have HE := Lib.hid (show plainB n ce 8 a b x = false from (show plainB n ce 8 a b x = (inB a 4 && (inB b ce && (x == 0))) from rfl).trans (by simp only [HA.out, HTB.out, f0.out, Bool.true_and, Bool.false_and, Bool.and_false, Bool.and_true]))
        have c00 : vn.cell? ⟨q, 0, none⟩ = some (.slice A n c) := FR.out.cell 0 0 rfl rfl rfl
        have c01 : vn.cell? ⟨q, 1, none⟩ = some (.slice B m d) := FR.out.cell 0 1 rfl rfl rfl
        have c02 : vn.cell? ⟨q, 2, none⟩ = some (.slice C k f) := FR.out.cell 0 2 rfl rfl rfl
        have c03 : vn.cell? ⟨q, 3, none⟩ = some (.int .i64 ce) := FR.out.cell 0 3 rfl rfl rfl
        have c04 : vn.cell? ⟨q, 4, none⟩ = some (.int .i64 re) := FR.out.cell 0 4 rfl rfl rfl
        have c05 : vn.cell? ⟨q, 5, none⟩ = some (.int .i64 pa) := FR.out.cell 0 5 rfl rfl rfl
        have c10 : vn.cell? ⟨q + 1, 0, none⟩ = some (.int .i64 8) := FR.out.cell 1 0 rfl rfl rfl
        have c11 : vn.cell? ⟨q + 1, 1, none⟩ = some (.int .i64 a) := FR.out.cell 1 1 rfl rfl rfl
        have c12 : vn.cell? ⟨q + 1, 2, none⟩ = some (.int .i64 b) := FR.out.cell 1 2 rfl rfl rfl
        have c13 : vn.cell? ⟨q + 1, 3, none⟩ = some (.int .i64 x) := FR.out.cell 1 3 rfl rfl rfl
        go_wp2_with fail
        refine (If0.out _).mono ?_
        rintro e wq ⟨rfl, rfl⟩
        go_wp2
        go_ret
        rw [HE.out]
        exact ⟨rfl, FR.out.out⟩
      · rw [hf0] at If0
        replace If0 := Lib.hid If0; have f0 := Lib.hid hf0; clear hf0
        have HE := Lib.hid (show plainB n ce 8 a b x = (x == 0) from (show plainB n ce 8 a b x = (inB a 4 && (inB b ce && (x == 0))) from rfl).trans (by simp only [HA.out, HTB.out, f0.out, Bool.true_and, Bool.false_and, Bool.and_false, Bool.and_true]))
        have c00 : vn.cell? ⟨q, 0, none⟩ = some (.slice A n c) := FR.out.cell 0 0 rfl rfl rfl
        have c01 : vn.cell? ⟨q, 1, none⟩ = some (.slice B m d) := FR.out.cell 0 1 rfl rfl rfl
        have c02 : vn.cell? ⟨q, 2, none⟩ = some (.slice C k f) := FR.out.cell 0 2 rfl rfl rfl
        have c03 : vn.cell? ⟨q, 3, none⟩ = some (.int .i64 ce) := FR.out.cell 0 3 rfl rfl rfl
        have c04 : vn.cell? ⟨q, 4, none⟩ = some (.int .i64 re) := FR.out.cell 0 4 rfl rfl rfl
        have c05 : vn.cell? ⟨q, 5, none⟩ = some (.int .i64 pa) := FR.out.cell 0 5 rfl rfl rfl
        have c10 : vn.cell? ⟨q + 1, 0, none⟩ = some (.int .i64 8) := FR.out.cell 1 0 rfl rfl rfl
        have c11 : vn.cell? ⟨q + 1, 1, none⟩ = some (.int .i64 a) := FR.out.cell 1 1 rfl rfl rfl
        have c12 : vn.cell? ⟨q + 1, 2, none⟩ = some (.int .i64 b) := FR.out.cell 1 2 rfl rfl rfl
        have c13 : vn.cell? ⟨q + 1, 3, none⟩ = some (.int .i64 x) := FR.out.cell 1 3 rfl rfl rfl
        go_wp2_with fail
        refine (If0.out _).mono ?_
        rintro e wq ⟨rfl, rfl⟩
        go_wp2
        go_ret
        rw [HE.out]
        exact ⟨rfl, FR.out.out⟩
    have hn8 : (o == 8) = false := by simpa using ho8
    replace ho8 := Lib.hid ho8
    by_cases ho9 : o = 9
    · subst ho9
      have If0 := fun (W : World) => refIn_any b ce W
      cases hf0 : inB b ce
      · rw [hf0] at If0
        replace If0 := Lib.hid If0; have f0 := Lib.hid hf0; clear hf0
        have HE := Lib.hid (show plainB n ce 9 a b x = false from (show plainB n ce 9 a b x = (inB a 4 && (inB b ce && (x == 0))) from rfl).trans (by simp only [HA.out, HTB.out, f0.out, Bool.true_and, Bool.false_and, Bool.and_false, Bool.and_true]))
        have c00 : vn.cell? ⟨q, 0, none⟩ = some (.slice A n c) := FR.out.cell 0 0 rfl rfl rfl
        have c01 : vn.cell? ⟨q, 1, none⟩ = some (.slice B m d) := FR.out.cell 0 1 rfl rfl rfl
        have c02 : vn.cell? ⟨q, 2, none⟩ = some (.slice C k f) := FR.out.cell 0 2 rfl rfl rfl
        have c03 : vn.cell? ⟨q, 3, none⟩ = some (.int .i64 ce) := FR.out.cell 0 3 rfl rfl rfl
        have c04 : vn.cell? ⟨q, 4, none⟩ = some (.int .i64 re) := FR.out.cell 0 4 rfl rfl rfl
        have c05 : vn.cell? ⟨q, 5, none⟩ = some (.int .i64 pa) := FR.out.cell 0 5 rfl rfl rfl
        have c10 : vn.cell? ⟨q + 1, 0, none⟩ = some (.int .i64 9) := FR.out.cell 1 0 rfl rfl rfl
        have c11 : vn.cell? ⟨q + 1, 1, none⟩ = some (.int .i64 a) := FR.out.cell 1 1 rfl rfl rfl
        have c12 : vn.cell? ⟨q + 1, 2, none⟩ = some (.int .i64 b) := FR.out.cell 1 2 rfl rfl rfl
        have c13 : vn.cell? ⟨q + 1, 3, none⟩ = some (.int .i64 x) := FR.out.cell 1 3 rfl rfl rfl
        go_wp2_with fail
        refine (If0.out _).mono ?_
        rintro e wq ⟨rfl, rfl⟩
        go_wp2
        go_ret
        rw [HE.out]
        exact ⟨rfl, FR.out.out⟩
      · rw [hf0] at If0
        replace If0 := Lib.hid If0; have f0 := Lib.hid hf0; clear hf0
        have HE := Lib.hid (show plainB n ce 9 a b x = (x == 0) from (show plainB n ce 9 a b x = (inB a 4 && (inB b ce && (x == 0))) from rfl).trans (by simp only [HA.out, HTB.out, f0.out, Bool.true_and, Bool.false_and, Bool.and_false, Bool.and_true]))
        have c00 : vn.cell? ⟨q, 0, none⟩ = some (.slice A n c) := FR.out.cell 0 0 rfl rfl rfl
        have c01 : vn.cell? ⟨q, 1, none⟩ = some (.slice B m d) := FR.out.cell 0 1 rfl rfl rfl
        have c02 : vn.cell? ⟨q, 2, none⟩ = some (.slice C k f) := FR.out.cell 0 2 rfl rfl rfl
        have c03 : vn.cell? ⟨q, 3, none⟩ = some (.int .i64 ce) := FR.out.cell 0 3 rfl rfl rfl
        have c04 : vn.cell? ⟨q, 4, none⟩ = some (.int .i64 re) := FR.out.cell 0 4 rfl rfl rfl
        have c05 : vn.cell? ⟨q, 5, none⟩ = some (.int .i64 pa) := FR.out.cell 0 5 rfl rfl rfl
        have c10 : vn.cell? ⟨q + 1, 0, none⟩ = some (.int .i64 9) := FR.out.cell 1 0 rfl rfl rfl
        have c11 : vn.cell? ⟨q + 1, 1, none⟩ = some (.int .i64 a) := FR.out.cell 1 1 rfl rfl rfl
        have c12 : vn.cell? ⟨q + 1, 2, none⟩ = some (.int .i64 b) := FR.out.cell 1 2 rfl rfl rfl
        have c13 : vn.cell? ⟨q + 1, 3, none⟩ = some (.int .i64 x) := FR.out.cell 1 3 rfl rfl rfl
        go_wp2_with fail
        refine (If0.out _).mono ?_
        rintro e wq ⟨rfl, rfl⟩
        go_wp2
        go_ret
        rw [HE.out]
        exact ⟨rfl, FR.out.out⟩
    have hn9 : (o == 9) = false := by simpa using ho9
    replace ho9 := Lib.hid ho9
    by_cases ho11 : o = 11
    · subst ho11
      have If0 := fun (W : World) => refIn_any b ce W
      cases hf0 : inB b ce
      · rw [hf0] at If0
        replace If0 := Lib.hid If0; have f0 := Lib.hid hf0; clear hf0
        have HE := Lib.hid (show plainB n ce 11 a b x = false from (show plainB n ce 11 a b x = (inB a 4 && (inB b ce && (x == 0))) from rfl).trans (by simp only [HA.out, HTB.out, f0.out, Bool.true_and, Bool.false_and, Bool.and_false, Bool.and_true]))
        have c00 : vn.cell? ⟨q, 0, none⟩ = some (.slice A n c) := FR.out.cell 0 0 rfl rfl rfl
        have c01 : vn.cell? ⟨q, 1, none⟩ = some (.slice B m d) := FR.out.cell 0 1 rfl rfl rfl
        have c02 : vn.cell? ⟨q, 2, none⟩ = some (.slice C k f) := FR.out.cell 0 2 rfl rfl rfl
        have c03 : vn.cell? ⟨q, 3, none⟩ = some (.int .i64 ce) := FR.out.cell 0 3 rfl rfl rfl
        have c04 : vn.cell? ⟨q, 4, none⟩ = some (.int .i64 re) := FR.out.cell 0 4 rfl rfl rfl
        have c05 : vn.cell? ⟨q, 5, none⟩ = some (.int .i64 pa) := FR.out.cell 0 5 rfl rfl rfl
        have c10 : vn.cell? ⟨q + 1, 0, none⟩ = some (.int .i64 11) := FR.out.cell 1 0 rfl rfl rfl
        have c11 : vn.cell? ⟨q + 1, 1, none⟩ = some (.int .i64 a) := FR.out.cell 1 1 rfl rfl rfl
        have c12 : vn.cell? ⟨q + 1, 2, none⟩ = some (.int .i64 b) := FR.out.cell 1 2 rfl rfl rfl
        have c13 : vn.cell? ⟨q + 1, 3, none⟩ = some (.int .i64 x) := FR.out.cell 1 3 rfl rfl rfl
        go_wp2_with fail
        refine (If0.out _).mono ?_
        rintro e wq ⟨rfl, rfl⟩
        go_wp2
        go_ret
        rw [HE.out]
        exact ⟨rfl, FR.out.out⟩
      · rw [hf0] at If0
        replace If0 := Lib.hid If0; have f0 := Lib.hid hf0; clear hf0
        have HE := Lib.hid (show plainB n ce 11 a b x = (x == 0) from (show plainB n ce 11 a b x = (inB a 4 && (inB b ce && (x == 0))) from rfl).trans (by simp only [HA.out, HTB.out, f0.out, Bool.true_and, Bool.false_and, Bool.and_false, Bool.and_true]))
        have c00 : vn.cell? ⟨q, 0, none⟩ = some (.slice A n c) := FR.out.cell 0 0 rfl rfl rfl
        have c01 : vn.cell? ⟨q, 1, none⟩ = some (.slice B m d) := FR.out.cell 0 1 rfl rfl rfl
        have c02 : vn.cell? ⟨q, 2, none⟩ = some (.slice C k f) := FR.out.cell 0 2 rfl rfl rfl
        have c03 : vn.cell? ⟨q, 3, none⟩ = some (.int .i64 ce) := FR.out.cell 0 3 rfl rfl rfl
        have c04 : vn.cell? ⟨q, 4, none⟩ = some (.int .i64 re) := FR.out.cell 0 4 rfl rfl rfl
        have c05 : vn.cell? ⟨q, 5, none⟩ = some (.int .i64 pa) := FR.out.cell 0 5 rfl rfl rfl
        have c10 : vn.cell? ⟨q + 1, 0, none⟩ = some (.int .i64 11) := FR.out.cell 1 0 rfl rfl rfl
        have c11 : vn.cell? ⟨q + 1, 1, none⟩ = some (.int .i64 a) := FR.out.cell 1 1 rfl rfl rfl
        have c12 : vn.cell? ⟨q + 1, 2, none⟩ = some (.int .i64 b) := FR.out.cell 1 2 rfl rfl rfl
        have c13 : vn.cell? ⟨q + 1, 3, none⟩ = some (.int .i64 x) := FR.out.cell 1 3 rfl rfl rfl
        go_wp2_with fail
        refine (If0.out _).mono ?_
        rintro e wq ⟨rfl, rfl⟩
        go_wp2
        go_ret
        rw [HE.out]
        exact ⟨rfl, FR.out.out⟩
    have hn11 : (o == 11) = false := by simpa using ho11
    replace ho11 := Lib.hid ho11
    by_cases ho10 : o = 10
    · subst ho10
      have If0 := fun (W : World) => refIn_any b ce W
      cases hf0 : inB b ce
      · rw [hf0] at If0
        replace If0 := Lib.hid If0; have f0 := Lib.hid hf0; clear hf0
        have HE := Lib.hid (show plainB n ce 10 a b x = false from (show plainB n ce 10 a b x = (inB a 4 && (inB b ce && inB x 4)) from rfl).trans (by simp only [HA.out, HTB.out, f0.out, Bool.true_and, Bool.false_and, Bool.and_false, Bool.and_true]))
        have c00 : vn.cell? ⟨q, 0, none⟩ = some (.slice A n c) := FR.out.cell 0 0 rfl rfl rfl
        have c01 : vn.cell? ⟨q, 1, none⟩ = some (.slice B m d) := FR.out.cell 0 1 rfl rfl rfl
        have c02 : vn.cell? ⟨q, 2, none⟩ = some (.slice C k f) := FR.out.cell 0 2 rfl rfl rfl
        have c03 : vn.cell? ⟨q, 3, none⟩ = some (.int .i64 ce) := FR.out.cell 0 3 rfl rfl rfl
        have c04 : vn.cell? ⟨q, 4, none⟩ = some (.int .i64 re) := FR.out.cell 0 4 rfl rfl rfl
        have c05 : vn.cell? ⟨q, 5, none⟩ = some (.int .i64 pa) := FR.out.cell 0 5 rfl rfl rfl
        have c10 : vn.cell? ⟨q + 1, 0, none⟩ = some (.int .i64 10) := FR.out.cell 1 0 rfl rfl rfl
        have c11 : vn.cell? ⟨q + 1, 1, none⟩ = some (.int .i64 a) := FR.out.cell 1 1 rfl rfl rfl
        have c12 : vn.cell? ⟨q + 1, 2, none⟩ = some (.int .i64 b) := FR.out.cell 1 2 rfl rfl rfl
        have c13 : vn.cell? ⟨q + 1, 3, none⟩ = some (.int .i64 x) := FR.out.cell 1 3 rfl rfl rfl
        go_wp2_with fail
        refine (If0.out _).mono ?_
        rintro e wq ⟨rfl, rfl⟩
        go_wp2
        go_ret
        rw [HE.out]
        exact ⟨rfl, FR.out.out⟩
      · rw [hf0] at If0
        replace If0 := Lib.hid If0; have f0 := Lib.hid hf0; clear hf0
        have HE := Lib.hid (show plainB n ce 10 a b x = inB x 4 from (show plainB n ce 10 a b x = (inB a 4 && (inB b ce && inB x 4)) from rfl).trans (by simp only [HA.out, HTB.out, f0.out, Bool.true_and, Bool.false_and, Bool.and_false, Bool.and_true]))
        have c00 : vn.cell? ⟨q, 0, none⟩ = some (.slice A n c) := FR.out.cell 0 0 rfl rfl rfl
        have c01 : vn.cell? ⟨q, 1, none⟩ = some (.slice B m d) := FR.out.cell 0 1 rfl rfl rfl
        have c02 : vn.cell? ⟨q, 2, none⟩ = some (.slice C k f) := FR.out.cell 0 2 rfl rfl rfl
        have c03 : vn.cell? ⟨q, 3, none⟩ = some (.int .i64 ce) := FR.out.cell 0 3 rfl rfl rfl
        have c04 : vn.cell? ⟨q, 4, none⟩ = some (.int .i64 re) := FR.out.cell 0 4 rfl rfl rfl
        have c05 : vn.cell? ⟨q, 5, none⟩ = some (.int .i64 pa) := FR.out.cell 0 5 rfl rfl rfl
        have c10 : vn.cell? ⟨q + 1, 0, none⟩ = some (.int .i64 10) := FR.out.cell 1 0 rfl rfl rfl
        have c11 : vn.cell? ⟨q + 1, 1, none⟩ = some (.int .i64 a) := FR.out.cell 1 1 rfl rfl rfl
        have c12 : vn.cell? ⟨q + 1, 2, none⟩ = some (.int .i64 b) := FR.out.cell 1 2 rfl rfl rfl
        have c13 : vn.cell? ⟨q + 1, 3, none⟩ = some (.int .i64 x) := FR.out.cell 1 3 rfl rfl rfl
        go_wp2_with fail
        refine (If0.out _).mono ?_
        rintro e wq ⟨rfl, rfl⟩
        go_wp2_with fail
        refine (refIn_any x 4 _).mono ?_
        rintro e wq ⟨rfl, rfl⟩
        go_wp2
        go_ret
        rw [HE.out]
        exact ⟨rfl, FR.out.out⟩
    have hn10 : (o == 10) = false := by simpa using ho10
    replace ho10 := Lib.hid ho10
    by_cases ho19 : o = 19
    · subst ho19
      by_cases hf0 : b = 0
      · have f0 : (b == 0) = true := by simp [hf0]
        clear hf0
        have HE := Lib.hid (show plainB n ce 19 a b x = (x == 0) from (show plainB n ce 19 a b x = (inB a 4 && ((b == 0) && (x == 0))) from rfl).trans (by simp only [HA.out, HTB.out, f0, Bool.true_and, Bool.false_and, Bool.and_false, Bool.and_true]))
        have c10 : vn.cell? ⟨q + 1, 0, none⟩ = some (.int .i64 19) := FR.out.cell 1 0 rfl rfl rfl
        have c11 : vn.cell? ⟨q + 1, 1, none⟩ = some (.int .i64 a) := FR.out.cell 1 1 rfl rfl rfl
        have c12 : vn.cell? ⟨q + 1, 2, none⟩ = some (.int .i64 b) := FR.out.cell 1 2 rfl rfl rfl
        have c13 : vn.cell? ⟨q + 1, 3, none⟩ = some (.int .i64 x) := FR.out.cell 1 3 rfl rfl rfl
        go_wp2
        go_ret
        rw [HE.out]
        exact ⟨rfl, FR.out.out⟩
      · have f0 : (b == 0) = false := by simp [hf0]
        clear hf0
        have HE := Lib.hid (show plainB n ce 19 a b x = false from (show plainB n ce 19 a b x = (inB a 4 && ((b == 0) && (x == 0))) from rfl).trans (by simp only [HA.out, HTB.out, f0, Bool.true_and, Bool.false_and, Bool.and_false, Bool.and_true]))
        have c10 : vn.cell? ⟨q + 1, 0, none⟩ = some (.int .i64 19) := FR.out.cell 1 0 rfl rfl rfl
        have c11 : vn.cell? ⟨q + 1, 1, none⟩ = some (.int .i64 a) := FR.out.cell 1 1 rfl rfl rfl
        have c12 : vn.cell? ⟨q + 1, 2, none⟩ = some (.int .i64 b) := FR.out.cell 1 2 rfl rfl rfl
        have c13 : vn.cell? ⟨q + 1, 3, none⟩ = some (.int .i64 x) := FR.out.cell 1 3 rfl rfl rfl
        go_wp2
        go_ret
        rw [HE.out]
        exact ⟨rfl, FR.out.out⟩
    have hn19 : (o == 19) = false := by simpa using ho19
    replace ho19 := Lib.hid ho19
    by_cases ho20 : o = 20
    · subst ho20
      by_cases hf0 : b = 0
      · have f0 : (b == 0) = true := by simp [hf0]
        clear hf0
        have HE := Lib.hid (show plainB n ce 20 a b x = (x == 0) from (show plainB n ce 20 a b x = (inB a 4 && ((b == 0) && (x == 0))) from rfl).trans (by simp only [HA.out, HTB.out, f0, Bool.true_and, Bool.false_and, Bool.and_false, Bool.and_true]))
        have c10 : vn.cell? ⟨q + 1, 0, none⟩ = some (.int .i64 20) := FR.out.cell 1 0 rfl rfl rfl
        have c11 : vn.cell? ⟨q + 1, 1, none⟩ = some (.int .i64 a) := FR.out.cell 1 1 rfl rfl rfl
        have c12 : vn.cell? ⟨q + 1, 2, none⟩ = some (.int .i64 b) := FR.out.cell 1 2 rfl rfl rfl
        have c13 : vn.cell? ⟨q + 1, 3, none⟩ = some (.int .i64 x) := FR.out.cell 1 3 rfl rfl rfl
        go_wp2
        go_ret
        rw [HE.out]
        exact ⟨rfl, FR.out.out⟩
      · have f0 : (b == 0) = false := by simp [hf0]
        clear hf0
        have HE := Lib.hid (show plainB n ce 20 a b x = false from (show plainB n ce 20 a b x = (inB a 4 && ((b == 0) && (x == 0))) from rfl).trans (by simp only [HA.out, HTB.out, f0, Bool.true_and, Bool.false_and, Bool.and_false, Bool.and_true]))
        have c10 : vn.cell? ⟨q + 1, 0, none⟩ = some (.int .i64 20) := FR.out.cell 1 0 rfl rfl rfl
        have c11 : vn.cell? ⟨q + 1, 1, none⟩ = some (.int .i64 a) := FR.out.cell 1 1 rfl rfl rfl
        have c12 : vn.cell? ⟨q + 1, 2, none⟩ = some (.int .i64 b) := FR.out.cell 1 2 rfl rfl rfl
        have c13 : vn.cell? ⟨q + 1, 3, none⟩ = some (.int .i64 x) := FR.out.cell 1 3 rfl rfl rfl
        go_wp2
        go_ret
        rw [HE.out]
        exact ⟨rfl, FR.out.out⟩
    have hn20 : (o == 20) = false := by simpa using ho20
    replace ho20 := Lib.hid ho20
    by_cases ho21 : o = 21
    · subst ho21
      by_cases hf0 : b = 0
      · have f0 : (b == 0) = true := by simp [hf0]
        clear hf0
        have HE := Lib.hid (show plainB n ce 21 a b x = (x == 0) from (show plainB n ce 21 a b x = (inB a 4 && ((b == 0) && (x == 0))) from rfl).trans (by simp only [HA.out, HTB.out, f0, Bool.true_and, Bool.false_and, Bool.and_false, Bool.and_true]))
        have c10 : vn.cell? ⟨q + 1, 0, none⟩ = some (.int .i64 21) := FR.out.cell 1 0 rfl rfl rfl
        have c11 : vn.cell? ⟨q + 1, 1, none⟩ = some (.int .i64 a) := FR.out.cell 1 1 rfl rfl rfl
        have c12 : vn.cell? ⟨q + 1, 2, none⟩ = some (.int .i64 b) := FR.out.cell 1 2 rfl rfl rfl
        have c13 : vn.cell? ⟨q + 1, 3, none⟩ = some (.int .i64 x) := FR.out.cell 1 3 rfl rfl rfl
        go_wp2
        go_ret
        rw [HE.out]
        exact ⟨rfl, FR.out.out⟩
      · have f0 : (b == 0) = false := by simp [hf0]
        clear hf0
        have HE := Lib.hid (show plainB n ce 21 a b x = false from (show plainB n ce 21 a b x = (inB a 4 && ((b == 0) && (x == 0))) from rfl).trans (by simp only [HA.out, HTB.out, f0, Bool.true_and, Bool.false_and, Bool.and_false, Bool.and_true]))
        have c10 : vn.cell? ⟨q + 1, 0, none⟩ = some (.int .i64 21) := FR.out.cell 1 0 rfl rfl rfl
        have c11 : vn.cell? ⟨q + 1, 1, none⟩ = some (.int .i64 a) := FR.out.cell 1 1 rfl rfl rfl
        have c12 : vn.cell? ⟨q + 1, 2, none⟩ = some (.int .i64 b) := FR.out.cell 1 2 rfl rfl rfl
        have c13 : vn.cell? ⟨q + 1, 3, none⟩ = some (.int .i64 x) := FR.out.cell 1 3 rfl rfl rfl
        go_wp2
        go_ret
        rw [HE.out]
        exact ⟨rfl, FR.out.out⟩
    have hn21 : (o == 21) = false := by simpa using ho21
    replace ho21 := Lib.hid ho21
    by_cases ho24 : o = 24
    · subst ho24
      by_cases hf0 : b = 0
      · have f0 : (b == 0) = true := by simp [hf0]
        clear hf0
        have HE := Lib.hid (show plainB n ce 24 a b x = (x == 0) from (show plainB n ce 24 a b x = (inB a 4 && ((b == 0) && (x == 0))) from rfl).trans (by simp only [HA.out, HTB.out, f0, Bool.true_and, Bool.false_and, Bool.and_false, Bool.and_true]))
        have c10 : vn.cell? ⟨q + 1, 0, none⟩ = some (.int .i64 24) := FR.out.cell 1 0 rfl rfl rfl
        have c11 : vn.cell? ⟨q + 1, 1, none⟩ = some (.int .i64 a) := FR.out.cell 1 1 rfl rfl rfl
        have c12 : vn.cell? ⟨q + 1, 2, none⟩ = some (.int .i64 b) := FR.out.cell 1 2 rfl rfl rfl
        have c13 : vn.cell? ⟨q + 1, 3, none⟩ = some (.int .i64 x) := FR.out.cell 1 3 rfl rfl rfl
        go_wp2
        go_ret
        rw [HE.out]
        exact ⟨rfl, FR.out.out⟩
      · have f0 : (b == 0) = false := by simp [hf0]
        clear hf0
        have HE := Lib.hid (show plainB n ce 24 a b x = false from (show plainB n ce 24 a b x = (inB a 4 && ((b == 0) && (x == 0))) from rfl).trans (by simp only [HA.out, HTB.out, f0, Bool.true_and, Bool.false_and, Bool.and_false, Bool.and_true]))
        have c10 : vn.cell? ⟨q + 1, 0, none⟩ = some (.int .i64 24) := FR.out.cell 1 0 rfl rfl rfl
        have c11 : vn.cell? ⟨q + 1, 1, none⟩ = some (.int .i64 a) := FR.out.cell 1 1 rfl rfl rfl
        have c12 : vn.cell? ⟨q + 1, 2, none⟩ = some (.int .i64 b) := FR.out.cell 1 2 rfl rfl rfl
        have c13 : vn.cell? ⟨q + 1, 3, none⟩ = some (.int .i64 x) := FR.out.cell 1 3 rfl rfl rfl
        go_wp2
        go_ret
        rw [HE.out]
        exact ⟨rfl, FR.out.out⟩
    have hn24 : (o == 24) = false := by simpa using ho24
    replace ho24 := Lib.hid ho24
    by_cases ho41 : o = 41
    · subst ho41
      by_cases hf0 : b = 0
      · have f0 : (b == 0) = true := by simp [hf0]
        clear hf0
        have HE := Lib.hid (show plainB n ce 41 a b x = (x == 0) from (show plainB n ce 41 a b x = (inB a 4 && ((b == 0) && (x == 0))) from rfl).trans (by simp only [HA.out, HTB.out, f0, Bool.true_and, Bool.false_and, Bool.and_false, Bool.and_true]))
        have c10 : vn.cell? ⟨q + 1, 0, none⟩ = some (.int .i64 41) := FR.out.cell 1 0 rfl rfl rfl
        have c11 : vn.cell? ⟨q + 1, 1, none⟩ = some (.int .i64 a) := FR.out.cell 1 1 rfl rfl rfl
        have c12 : vn.cell? ⟨q + 1, 2, none⟩ = some (.int .i64 b) := FR.out.cell 1 2 rfl rfl rfl
        have c13 : vn.cell? ⟨q + 1, 3, none⟩ = some (.int .i64 x) := FR.out.cell 1 3 rfl rfl rfl
        go_wp2
        go_ret
        rw [HE.out]
        exact ⟨rfl, FR.out.out⟩
      · have f0 : (b == 0) = false := by simp [hf0]
        clear hf0
        have HE := Lib.hid (show plainB n ce 41 a b x = false from (show plainB n ce 41 a b x = (inB a 4 && ((b == 0) && (x == 0))) from rfl).trans (by simp only [HA.out, HTB.out, f0, Bool.true_and, Bool.false_and, Bool.and_false, Bool.and_true]))
        have c10 : vn.cell? ⟨q + 1, 0, none⟩ = some (.int .i64 41) := FR.out.cell 1 0 rfl rfl rfl
        have c11 : vn.cell? ⟨q + 1, 1, none⟩ = some (.int .i64 a) := FR.out.cell 1 1 rfl rfl rfl
        have c12 : vn.cell? ⟨q + 1, 2, none⟩ = some (.int .i64 b) := FR.out.cell 1 2 rfl rfl rfl
        have c13 : vn.cell? ⟨q + 1, 3, none⟩ = some (.int .i64 x) := FR.out.cell 1 3 rfl rfl rfl
        go_wp2
        go_ret
        rw [HE.out]
        exact ⟨rfl, FR.out.out⟩
    have hn41 : (o == 41) = false := by simpa using ho41
    replace ho41 := Lib.hid ho41
    have HE := Lib.hid (show plainB n ce o a b x = false from by
      unfold plainB
      rw [if_neg (by have q0 := ho0.out; omega)]
      rw [if_neg (by have q1 := ho1.out; omega)]
      rw [if_neg (by have q2 := ho2.out; have q17 := ho17.out; have q18 := ho18.out; have q25 := ho25.out; omega)]
      rw [if_neg (by have q3 := ho3.out; have q4 := ho4.out; have q5 := ho5.out; have q12 := ho12.out; have q13 := ho13.out; have q14 := ho14.out; have q15 := ho15.out; have q16 := ho16.out; omega)]
      rw [if_neg (by have q6 := ho6.out; have q23 := ho23.out; omega)]
      rw [if_neg (by have q7 := ho7.out; have q22 := ho22.out; omega)]
      rw [if_neg (by have q8 := ho8.out; have q9 := ho9.out; have q11 := ho11.out; omega)]
      rw [if_neg (by have q10 := ho10.out; omega)]
      rw [if_neg (by have q19 := ho19.out; have q20 := ho20.out; have q21 := ho21.out; have q24 := ho24.out; have q41 := ho41.out; omega)])
    have c00 : vn.cell? ⟨q, 0, none⟩ = some (.slice A n c) := FR.out.cell 0 0 rfl rfl rfl
    have c01 : vn.cell? ⟨q, 1, none⟩ = some (.slice B m d) := FR.out.cell 0 1 rfl rfl rfl
    have c02 : vn.cell? ⟨q, 2, none⟩ = some (.slice C k f) := FR.out.cell 0 2 rfl rfl rfl
    have c03 : vn.cell? ⟨q, 3, none⟩ = some (.int .i64 ce) := FR.out.cell 0 3 rfl rfl rfl
    have c04 : vn.cell? ⟨q, 4, none⟩ = some (.int .i64 re) := FR.out.cell 0 4 rfl rfl rfl
    have c05 : vn.cell? ⟨q, 5, none⟩ = some (.int .i64 pa) := FR.out.cell 0 5 rfl rfl rfl
    have c10 : vn.cell? ⟨q + 1, 0, none⟩ = some (.int .i64 o) := FR.out.cell 1 0 rfl rfl rfl
    have c11 : vn.cell? ⟨q + 1, 1, none⟩ = some (.int .i64 a) := FR.out.cell 1 1 rfl rfl rfl
    have c12 : vn.cell? ⟨q + 1, 2, none⟩ = some (.int .i64 b) := FR.out.cell 1 2 rfl rfl rfl
    have c13 : vn.cell? ⟨q + 1, 3, none⟩ = some (.int .i64 x) := FR.out.cell 1 3 rfl rfl rfl
    go_wp2
    go_ret
    rw [HE.out]
    exact ⟨rfl, FR.out.out⟩
end Go.Proofs.Ytkoodhnfphmbnaa
