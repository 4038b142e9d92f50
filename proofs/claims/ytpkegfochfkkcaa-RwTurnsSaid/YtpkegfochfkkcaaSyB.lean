/- Layers 15 to 22: what torporref15's Obj and Act answer of equal ones, and Great; for lists of up to 16384. -/
import Derived.Test.YtpkegfochfkkcaaSyA
import Derived.Test.YtpkegfochfkkcaaNotE
import Derived.Test.YtpkegfochfkkcaaAreG
import Derived.Deep.RegionHeld3
import Derived.BigQuiet
import Derived.Deep.QuietTactic
import Derived.ChangeKeysEq
namespace Go.Proofs.Ytpkegfochfkkcaa
set_option linter.unusedVariables false
set_option linter.unusedSimpArgs false
open Go.RowKit
set_option maxRecDepth 100000 in
/-- six words are the same as themselves. -/
theorem w6_self (o0 o1 o2 o3 o4 o5 : Int) (W : World) : (binOp .neq 22 (.agg #[.int .i64 o0, .int .i64 o1, .int .i64 o2, .int .i64 o3, .int .i64 o4, .int .i64 o5]) (.agg #[.int .i64 o0, .int .i64 o1, .int .i64 o2, .int .i64 o3, .int .i64 o4, .int .i64 o5])).run Try.prog W = .ok (.bool false) W := by
  have e : ∀ x : Int, (x == x) = true := fun x => by simp
  obtain ⟨i5, hi5, _⟩ := info_of (show (Try.prog.info? 2).map (fun i => (i.zero, i.size, i.bytes)) = some (some (.int .i64 0), 1, 8) by kernel_rfl)
  go_simp
  rw [run_equalIn_array W 9999 _ _ Try.underlying22 hi5]
  rw [show Try.prog.cellsOf 2 = 1 from by kernel_rfl, show List.range 6 = [0,1,2,3,4,5] from rfl]
  simp [Op.eqItems, go_sem, e]
set_option maxRecDepth 100000 in
set_option maxHeartbeats 16000000 in
theorem great15_any (kd o0 o1 o2 o3 o4 o5 wa to : Int) (A : Option Addr) (n c : Nat) (B : Option Addr) (m d : Nat) (w : World) : Calls Try.prog 8 #[.agg #[.int .i64 kd, .int .i64 o0, .int .i64 o1, .int .i64 o2, .int .i64 o3, .int .i64 o4, .int .i64 o5, .int .u32 wa, .int .u32 to, .slice A n c, .slice B m d]] w (YesS w (decide (20 < n) || decide (20 < m))) := by
  obtain ⟨v1, hv1, z1, F⟩ := boxes1 w (.cells #[.int .i64 kd, .int .i64 o0, .int .i64 o1, .int .i64 o2, .int .i64 o3, .int .i64 o4, .int .i64 o5, .int .u32 wa, .int .u32 to, .slice A n c, .slice B m d] 29)
  generalize hq : w.heap.size = q at *
  have FR := Lib.hid F
  clear F
  obtain ⟨R, hR⟩ : ∃ R, (decide (20 < n) || decide (20 < m)) = R := ⟨_, rfl⟩
  rw [hR]
  by_cases h1 : 20 < n
  · have t1 : decide ((20 : Int) < (n : Int)) = true := by simp; omega
    have u1 : decide (20 < n) = true := by simp; omega
    have HE := Lib.hid (show R = true from by rw [← hR, u1]; rfl)
    clear hR h1
    go_enter Try.func8, Try.ntmps8
    have c00 : v1.cell? ⟨q, 0, none⟩ = some (.int .i64 kd) := FR.out.cell 0 0 rfl rfl rfl
    have c01 : v1.cell? ⟨q, 1, none⟩ = some (.int .i64 o0) := FR.out.cell 0 1 rfl rfl rfl
    have c02 : v1.cell? ⟨q, 2, none⟩ = some (.int .i64 o1) := FR.out.cell 0 2 rfl rfl rfl
    have c03 : v1.cell? ⟨q, 3, none⟩ = some (.int .i64 o2) := FR.out.cell 0 3 rfl rfl rfl
    have c04 : v1.cell? ⟨q, 4, none⟩ = some (.int .i64 o3) := FR.out.cell 0 4 rfl rfl rfl
    have c05 : v1.cell? ⟨q, 5, none⟩ = some (.int .i64 o4) := FR.out.cell 0 5 rfl rfl rfl
    have c06 : v1.cell? ⟨q, 6, none⟩ = some (.int .i64 o5) := FR.out.cell 0 6 rfl rfl rfl
    have c07 : v1.cell? ⟨q, 7, none⟩ = some (.int .u32 wa) := FR.out.cell 0 7 rfl rfl rfl
    have c08 : v1.cell? ⟨q, 8, none⟩ = some (.int .u32 to) := FR.out.cell 0 8 rfl rfl rfl
    have c09 : v1.cell? ⟨q, 9, none⟩ = some (.slice A n c) := FR.out.cell 0 9 rfl rfl rfl
    have c010 : v1.cell? ⟨q, 10, none⟩ = some (.slice B m d) := FR.out.cell 0 10 rfl rfl rfl
    go_wp2
    go_ret
    rw [HE.out]
    exact ⟨rfl, FR.out.out⟩
  · have t1 : decide ((20 : Int) < (n : Int)) = false := by simp; omega
    have u1 : decide (20 < n) = false := by simp; omega
    have HE := Lib.hid (show R = decide ((20 : Int) < (m : Int)) from by rw [← hR, u1, Bool.false_or]; exact decide_eq_decide.2 (by omega))
    have HE2 := Lib.hid (show R = decide (20 < m) from by rw [← hR, u1, Bool.false_or])
    clear hR h1
    go_enter Try.func8, Try.ntmps8
    have c00 : v1.cell? ⟨q, 0, none⟩ = some (.int .i64 kd) := FR.out.cell 0 0 rfl rfl rfl
    have c01 : v1.cell? ⟨q, 1, none⟩ = some (.int .i64 o0) := FR.out.cell 0 1 rfl rfl rfl
    have c02 : v1.cell? ⟨q, 2, none⟩ = some (.int .i64 o1) := FR.out.cell 0 2 rfl rfl rfl
    have c03 : v1.cell? ⟨q, 3, none⟩ = some (.int .i64 o2) := FR.out.cell 0 3 rfl rfl rfl
    have c04 : v1.cell? ⟨q, 4, none⟩ = some (.int .i64 o3) := FR.out.cell 0 4 rfl rfl rfl
    have c05 : v1.cell? ⟨q, 5, none⟩ = some (.int .i64 o4) := FR.out.cell 0 5 rfl rfl rfl
    have c06 : v1.cell? ⟨q, 6, none⟩ = some (.int .i64 o5) := FR.out.cell 0 6 rfl rfl rfl
    have c07 : v1.cell? ⟨q, 7, none⟩ = some (.int .u32 wa) := FR.out.cell 0 7 rfl rfl rfl
    have c08 : v1.cell? ⟨q, 8, none⟩ = some (.int .u32 to) := FR.out.cell 0 8 rfl rfl rfl
    have c09 : v1.cell? ⟨q, 9, none⟩ = some (.slice A n c) := FR.out.cell 0 9 rfl rfl rfl
    have c010 : v1.cell? ⟨q, 10, none⟩ = some (.slice B m d) := FR.out.cell 0 10 rfl rfl rfl
    go_wp2
    go_ret
    first | rw [HE.out] | rw [HE2.out]
    exact ⟨rfl, FR.out.out⟩
theorem great15_yes (kd o0 o1 o2 o3 o4 o5 wa to : Int) (A : Option Addr) (n c : Nat) (B : Option Addr) (m d : Nat) (w : World) (h : 20 < n ∨ 20 < m) : Calls Try.prog 8 #[obV kd o0 o1 o2 o3 o4 o5 wa to A n c B m d] w (YesS w true) := by
  have h1 := great15_any kd o0 o1 o2 o3 o4 o5 wa to A n c B m d w
  rwa [show (decide (20 < n) || decide (20 < m)) = true by rcases h with h | h <;> simp [h]] at h1
theorem great15_no (kd o0 o1 o2 o3 o4 o5 wa to : Int) (A : Option Addr) (n c : Nat) (B : Option Addr) (m d : Nat) (w : World) (h : ¬ (20 < n ∨ 20 < m)) : Calls Try.prog 8 #[obV kd o0 o1 o2 o3 o4 o5 wa to A n c B m d] w (YesS w false) := by
  have h1 := great15_any kd o0 o1 o2 o3 o4 o5 wa to A n c B m d w
  rwa [show (decide (20 < n) || decide (20 < m)) = false by simp; omega] at h1
set_option maxRecDepth 100000 in
set_option maxHeartbeats 16000000 in
theorem act15_eq (dn pk hd : Bool) (gv ft vl : Int) (w : World) : Calls Try.prog 15 #[.agg #[.bool dn, .bool pk, .bool hd, .int .i64 gv, .int .i64 ft, .int .u64 vl, .slice none 0 0], .agg #[.bool dn, .bool pk, .bool hd, .int .i64 gv, .int .i64 ft, .int .u64 vl, .slice none 0 0]] w (YesS w true) := by
  have a1 : (dn == dn) = true := by simp
  have a2 : (pk == pk) = true := by simp
  have a3 : (hd == hd) = true := by simp
  have a4 : (gv == gv) = true := by simp
  have a5 : (ft == ft) = true := by simp
  have a6 : (vl == vl) = true := by simp
  have IK := Lib.hid (fun (W : World) => refInts_any none 0 0 [] none 0 0 [] W (Es.nil _ _ _ _) (Es.nil _ _ _ _) (by omega))
  obtain ⟨v1, hv1, z1, v2, hv2, z2, F⟩ := boxes2 w (.cells #[.bool dn, .bool pk, .bool hd, .int .i64 gv, .int .i64 ft, .int .u64 vl, .slice none 0 0] 38) (.cells #[.bool dn, .bool pk, .bool hd, .int .i64 gv, .int .i64 ft, .int .u64 vl, .slice none 0 0] 38)
  generalize hq : w.heap.size = q at *
  have FR := Lib.hid F
  clear F
  go_enter Try.func15, Try.ntmps15
  have c00 : v2.cell? ⟨q, 0, none⟩ = some (.bool dn) := FR.out.cell 0 0 rfl rfl rfl
  have c01 : v2.cell? ⟨q, 1, none⟩ = some (.bool pk) := FR.out.cell 0 1 rfl rfl rfl
  have c02 : v2.cell? ⟨q, 2, none⟩ = some (.bool hd) := FR.out.cell 0 2 rfl rfl rfl
  have c03 : v2.cell? ⟨q, 3, none⟩ = some (.int .i64 gv) := FR.out.cell 0 3 rfl rfl rfl
  have c04 : v2.cell? ⟨q, 4, none⟩ = some (.int .i64 ft) := FR.out.cell 0 4 rfl rfl rfl
  have c05 : v2.cell? ⟨q, 5, none⟩ = some (.int .u64 vl) := FR.out.cell 0 5 rfl rfl rfl
  have c06 : v2.cell? ⟨q, 6, none⟩ = some (.slice none 0 0) := FR.out.cell 0 6 rfl rfl rfl
  have c10 : v2.cell? ⟨q + 1, 0, none⟩ = some (.bool dn) := FR.out.cell 1 0 rfl rfl rfl
  have c11 : v2.cell? ⟨q + 1, 1, none⟩ = some (.bool pk) := FR.out.cell 1 1 rfl rfl rfl
  have c12 : v2.cell? ⟨q + 1, 2, none⟩ = some (.bool hd) := FR.out.cell 1 2 rfl rfl rfl
  have c13 : v2.cell? ⟨q + 1, 3, none⟩ = some (.int .i64 gv) := FR.out.cell 1 3 rfl rfl rfl
  have c14 : v2.cell? ⟨q + 1, 4, none⟩ = some (.int .i64 ft) := FR.out.cell 1 4 rfl rfl rfl
  have c15 : v2.cell? ⟨q + 1, 5, none⟩ = some (.int .u64 vl) := FR.out.cell 1 5 rfl rfl rfl
  have c16 : v2.cell? ⟨q + 1, 6, none⟩ = some (.slice none 0 0) := FR.out.cell 1 6 rfl rfl rfl
  go_wp2_with fail
  refine (IK.out _).mono ?_
  rintro e w3 ⟨rfl, hb⟩
  clear c00 c01 c02 c03 c04 c05 c06 c10 c11 c12 c13 c14 c15 c16
  replace FR := Lib.hid (FR.out.step hb)
  clear hb
  have c00 : w3.cell? ⟨q, 0, none⟩ = some (.bool dn) := FR.out.cell 0 0 rfl rfl rfl
  have c01 : w3.cell? ⟨q, 1, none⟩ = some (.bool pk) := FR.out.cell 0 1 rfl rfl rfl
  have c02 : w3.cell? ⟨q, 2, none⟩ = some (.bool hd) := FR.out.cell 0 2 rfl rfl rfl
  have c03 : w3.cell? ⟨q, 3, none⟩ = some (.int .i64 gv) := FR.out.cell 0 3 rfl rfl rfl
  have c04 : w3.cell? ⟨q, 4, none⟩ = some (.int .i64 ft) := FR.out.cell 0 4 rfl rfl rfl
  have c05 : w3.cell? ⟨q, 5, none⟩ = some (.int .u64 vl) := FR.out.cell 0 5 rfl rfl rfl
  have c06 : w3.cell? ⟨q, 6, none⟩ = some (.slice none 0 0) := FR.out.cell 0 6 rfl rfl rfl
  have c10 : w3.cell? ⟨q + 1, 0, none⟩ = some (.bool dn) := FR.out.cell 1 0 rfl rfl rfl
  have c11 : w3.cell? ⟨q + 1, 1, none⟩ = some (.bool pk) := FR.out.cell 1 1 rfl rfl rfl
  have c12 : w3.cell? ⟨q + 1, 2, none⟩ = some (.bool hd) := FR.out.cell 1 2 rfl rfl rfl
  have c13 : w3.cell? ⟨q + 1, 3, none⟩ = some (.int .i64 gv) := FR.out.cell 1 3 rfl rfl rfl
  have c14 : w3.cell? ⟨q + 1, 4, none⟩ = some (.int .i64 ft) := FR.out.cell 1 4 rfl rfl rfl
  have c15 : w3.cell? ⟨q + 1, 5, none⟩ = some (.int .u64 vl) := FR.out.cell 1 5 rfl rfl rfl
  have c16 : w3.cell? ⟨q + 1, 6, none⟩ = some (.slice none 0 0) := FR.out.cell 1 6 rfl rfl rfl
  go_wp2
  go_ret
  exact ⟨rfl, FR.out.out⟩
set_option maxRecDepth 100000 in
set_option maxHeartbeats 16000000 in
theorem obj15_eq2 (kd o0 o1 o2 o3 o4 o5 wa to : Int) (A : Option Addr) (n c : Nat) (B : Option Addr) (m d : Nat) (A2 : Option Addr) (c2 : Nat) (B2 : Option Addr) (d2 : Nat) (nl : List Wt) (ll : List Cl) (w : World) (hx : Wts w A n c nl) (hy : Cls w B m d ll) (hx2 : Wts w A2 n c2 nl) (hy2 : Cls w B2 m d2 ll) (hn : n ≤ 16384) (hm : m ≤ 16384) : Calls Try.prog 14 #[.agg #[.int .i64 kd, .int .i64 o0, .int .i64 o1, .int .i64 o2, .int .i64 o3, .int .i64 o4, .int .i64 o5, .int .u32 wa, .int .u32 to, .slice A n c, .slice B m d], .agg #[.int .i64 kd, .int .i64 o0, .int .i64 o1, .int .i64 o2, .int .i64 o3, .int .i64 o4, .int .i64 o5, .int .u32 wa, .int .u32 to, .slice A2 n c2, .slice B2 m d2]] w (YesS w true) := by
  have RX := Lib.hid hx; have RY := Lib.hid hy; have RX2 := Lib.hid hx2; have RY2 := Lib.hid hy2
  clear hx hy hx2 hy2
  have hwn := w6_self o0 o1 o2 o3 o4 o5
  have t0 : (kd != kd) = false := by simp
  have t1 : ((m : Int) != (m : Int)) = false := by simp
  have t1n : (m != m) = false := by simp
  have SM := Lib.hid (fun (W : World) (h1 : Wts W A n c nl) (h2 : Wts W A2 n c2 nl) => refSame11_eq A n c nl wa to A2 n c2 W h1 h2 hn)
  obtain ⟨v1, hv1, z1, v2, hv2, z2, F⟩ := boxes2 w (.cells #[.int .i64 kd, .int .i64 o0, .int .i64 o1, .int .i64 o2, .int .i64 o3, .int .i64 o4, .int .i64 o5, .int .u32 wa, .int .u32 to, .slice A n c, .slice B m d] 29) (.cells #[.int .i64 kd, .int .i64 o0, .int .i64 o1, .int .i64 o2, .int .i64 o3, .int .i64 o4, .int .i64 o5, .int .u32 wa, .int .u32 to, .slice A2 n c2, .slice B2 m d2] 29)
  generalize hq : w.heap.size = q at *
  have FR := Lib.hid F
  clear F
  go_enter Try.func14, Try.ntmps14
  have c00 : v2.cell? ⟨q, 0, none⟩ = some (.int .i64 kd) := FR.out.cell 0 0 rfl rfl rfl
  have c01 : v2.cell? ⟨q, 1, none⟩ = some (.int .i64 o0) := FR.out.cell 0 1 rfl rfl rfl
  have c02 : v2.cell? ⟨q, 2, none⟩ = some (.int .i64 o1) := FR.out.cell 0 2 rfl rfl rfl
  have c03 : v2.cell? ⟨q, 3, none⟩ = some (.int .i64 o2) := FR.out.cell 0 3 rfl rfl rfl
  have c04 : v2.cell? ⟨q, 4, none⟩ = some (.int .i64 o3) := FR.out.cell 0 4 rfl rfl rfl
  have c05 : v2.cell? ⟨q, 5, none⟩ = some (.int .i64 o4) := FR.out.cell 0 5 rfl rfl rfl
  have c06 : v2.cell? ⟨q, 6, none⟩ = some (.int .i64 o5) := FR.out.cell 0 6 rfl rfl rfl
  have c07 : v2.cell? ⟨q, 7, none⟩ = some (.int .u32 wa) := FR.out.cell 0 7 rfl rfl rfl
  have c08 : v2.cell? ⟨q, 8, none⟩ = some (.int .u32 to) := FR.out.cell 0 8 rfl rfl rfl
  have c09 : v2.cell? ⟨q, 9, none⟩ = some (.slice A n c) := FR.out.cell 0 9 rfl rfl rfl
  have c010 : v2.cell? ⟨q, 10, none⟩ = some (.slice B m d) := FR.out.cell 0 10 rfl rfl rfl
  have c10 : v2.cell? ⟨q + 1, 0, none⟩ = some (.int .i64 kd) := FR.out.cell 1 0 rfl rfl rfl
  have c11 : v2.cell? ⟨q + 1, 1, none⟩ = some (.int .i64 o0) := FR.out.cell 1 1 rfl rfl rfl
  have c12 : v2.cell? ⟨q + 1, 2, none⟩ = some (.int .i64 o1) := FR.out.cell 1 2 rfl rfl rfl
  have c13 : v2.cell? ⟨q + 1, 3, none⟩ = some (.int .i64 o2) := FR.out.cell 1 3 rfl rfl rfl
  have c14 : v2.cell? ⟨q + 1, 4, none⟩ = some (.int .i64 o3) := FR.out.cell 1 4 rfl rfl rfl
  have c15 : v2.cell? ⟨q + 1, 5, none⟩ = some (.int .i64 o4) := FR.out.cell 1 5 rfl rfl rfl
  have c16 : v2.cell? ⟨q + 1, 6, none⟩ = some (.int .i64 o5) := FR.out.cell 1 6 rfl rfl rfl
  have c17 : v2.cell? ⟨q + 1, 7, none⟩ = some (.int .u32 wa) := FR.out.cell 1 7 rfl rfl rfl
  have c18 : v2.cell? ⟨q + 1, 8, none⟩ = some (.int .u32 to) := FR.out.cell 1 8 rfl rfl rfl
  have c19 : v2.cell? ⟨q + 1, 9, none⟩ = some (.slice A2 n c2) := FR.out.cell 1 9 rfl rfl rfl
  have c110 : v2.cell? ⟨q + 1, 10, none⟩ = some (.slice B2 m d2) := FR.out.cell 1 10 rfl rfl rfl
  go_wp2_with fail
  refine (SM.out _ (FR.out.es RX.out) (FR.out.es RX2.out)).mono ?_
  rintro e w3 ⟨rfl, hb⟩
  clear c00 c01 c02 c03 c04 c05 c06 c07 c08 c09 c010 c10 c11 c12 c13 c14 c15 c16 c17 c18 c19 c110
  replace FR := Lib.hid (FR.out.step hb)
  clear hb hv1 hv2 z1 z2
  have c00 : w3.cell? ⟨q, 0, none⟩ = some (.int .i64 kd) := FR.out.cell 0 0 rfl rfl rfl
  have c01 : w3.cell? ⟨q, 1, none⟩ = some (.int .i64 o0) := FR.out.cell 0 1 rfl rfl rfl
  have c02 : w3.cell? ⟨q, 2, none⟩ = some (.int .i64 o1) := FR.out.cell 0 2 rfl rfl rfl
  have c03 : w3.cell? ⟨q, 3, none⟩ = some (.int .i64 o2) := FR.out.cell 0 3 rfl rfl rfl
  have c04 : w3.cell? ⟨q, 4, none⟩ = some (.int .i64 o3) := FR.out.cell 0 4 rfl rfl rfl
  have c05 : w3.cell? ⟨q, 5, none⟩ = some (.int .i64 o4) := FR.out.cell 0 5 rfl rfl rfl
  have c06 : w3.cell? ⟨q, 6, none⟩ = some (.int .i64 o5) := FR.out.cell 0 6 rfl rfl rfl
  have c07 : w3.cell? ⟨q, 7, none⟩ = some (.int .u32 wa) := FR.out.cell 0 7 rfl rfl rfl
  have c08 : w3.cell? ⟨q, 8, none⟩ = some (.int .u32 to) := FR.out.cell 0 8 rfl rfl rfl
  have c09 : w3.cell? ⟨q, 9, none⟩ = some (.slice A n c) := FR.out.cell 0 9 rfl rfl rfl
  have c010 : w3.cell? ⟨q, 10, none⟩ = some (.slice B m d) := FR.out.cell 0 10 rfl rfl rfl
  have c10 : w3.cell? ⟨q + 1, 0, none⟩ = some (.int .i64 kd) := FR.out.cell 1 0 rfl rfl rfl
  have c11 : w3.cell? ⟨q + 1, 1, none⟩ = some (.int .i64 o0) := FR.out.cell 1 1 rfl rfl rfl
  have c12 : w3.cell? ⟨q + 1, 2, none⟩ = some (.int .i64 o1) := FR.out.cell 1 2 rfl rfl rfl
  have c13 : w3.cell? ⟨q + 1, 3, none⟩ = some (.int .i64 o2) := FR.out.cell 1 3 rfl rfl rfl
  have c14 : w3.cell? ⟨q + 1, 4, none⟩ = some (.int .i64 o3) := FR.out.cell 1 4 rfl rfl rfl
  have c15 : w3.cell? ⟨q + 1, 5, none⟩ = some (.int .i64 o4) := FR.out.cell 1 5 rfl rfl rfl
  have c16 : w3.cell? ⟨q + 1, 6, none⟩ = some (.int .i64 o5) := FR.out.cell 1 6 rfl rfl rfl
  have c17 : w3.cell? ⟨q + 1, 7, none⟩ = some (.int .u32 wa) := FR.out.cell 1 7 rfl rfl rfl
  have c18 : w3.cell? ⟨q + 1, 8, none⟩ = some (.int .u32 to) := FR.out.cell 1 8 rfl rfl rfl
  have c19 : w3.cell? ⟨q + 1, 9, none⟩ = some (.slice A2 n c2) := FR.out.cell 1 9 rfl rfl rfl
  have c110 : w3.cell? ⟨q + 1, 10, none⟩ = some (.slice B2 m d2) := FR.out.cell 1 10 rfl rfl rfl
  go_wp2
  clear c00 c01 c02 c03 c04 c05 c06 c07 c08 c09 c010 c10 c11 c12 c13 c14 c15 c16 c17 c18 c19 c110
  go_loopw [5] (fun iv wr => ∃ (i : Nat), iv = .int .i64 (i : Int) ∧ i ≤ m ∧ Hid (Fr w wr q [.cells #[.int .i64 kd, .int .i64 o0, .int .i64 o1, .int .i64 o2, .int .i64 o3, .int .i64 o4, .int .i64 o5, .int .u32 wa, .int .u32 to, .slice A n c, .slice B m d] 29, .cells #[.int .i64 kd, .int .i64 o0, .int .i64 o1, .int .i64 o2, .int .i64 o3, .int .i64 o4, .int .i64 o5, .int .u32 wa, .int .u32 to, .slice A2 n c2, .slice B2 m d2] 29])) (fun iv _ => m - (intOf iv).toNat)
  case atStart => exact ⟨0, rfl, by omega, FR⟩
  case round =>
    clear FR
    obtain ⟨i, rfl, hi, FR⟩ := hrel
    by_cases hlt : i < m
    · have c1 : decide ((i : Int) < (m : Int)) = true := by simpa using hlt
      have c1n : decide (i < m) = true := by simpa using hlt
      have i0 : (0 : Int) ≤ (i : Int) := by omega
      have i1 : (i : Int) < (m : Int) := by omega
      obtain ⟨b, off, rfl, _, u0, u1⟩ := Cls.look (FR.out.es RY.out) i hlt
      obtain ⟨b2, off2, rfl, _, v0, v1⟩ := Cls.look (FR.out.es RY2.out) i hlt
      have hne : ∀ W : World, (binOp .neq 62 (.agg #[.int .i64 (clAt ll i).1, .int .i64 (clAt ll i).2]) (.agg #[.int .i64 (clAt ll i).1, .int .i64 (clAt ll i).2])).run Try.prog W = .ok (.bool false) W := fun W => by simp [go_sem]
      have HLT := Lib.hid hlt
      generalize clAt ll i = r at *
      clear hlt
      have c00 : wr.cell? ⟨q, 0, none⟩ = some (.int .i64 kd) := FR.out.cell 0 0 rfl rfl rfl
      have c01 : wr.cell? ⟨q, 1, none⟩ = some (.int .i64 o0) := FR.out.cell 0 1 rfl rfl rfl
      have c02 : wr.cell? ⟨q, 2, none⟩ = some (.int .i64 o1) := FR.out.cell 0 2 rfl rfl rfl
      have c03 : wr.cell? ⟨q, 3, none⟩ = some (.int .i64 o2) := FR.out.cell 0 3 rfl rfl rfl
      have c04 : wr.cell? ⟨q, 4, none⟩ = some (.int .i64 o3) := FR.out.cell 0 4 rfl rfl rfl
      have c05 : wr.cell? ⟨q, 5, none⟩ = some (.int .i64 o4) := FR.out.cell 0 5 rfl rfl rfl
      have c06 : wr.cell? ⟨q, 6, none⟩ = some (.int .i64 o5) := FR.out.cell 0 6 rfl rfl rfl
      have c07 : wr.cell? ⟨q, 7, none⟩ = some (.int .u32 wa) := FR.out.cell 0 7 rfl rfl rfl
      have c08 : wr.cell? ⟨q, 8, none⟩ = some (.int .u32 to) := FR.out.cell 0 8 rfl rfl rfl
      have c09 : wr.cell? ⟨q, 9, none⟩ = some (.slice A n c) := FR.out.cell 0 9 rfl rfl rfl
      have c010 : wr.cell? ⟨q, 10, none⟩ = some (.slice (some ⟨b, off, none⟩) m d) := FR.out.cell 0 10 rfl rfl rfl
      have c10 : wr.cell? ⟨q + 1, 0, none⟩ = some (.int .i64 kd) := FR.out.cell 1 0 rfl rfl rfl
      have c11 : wr.cell? ⟨q + 1, 1, none⟩ = some (.int .i64 o0) := FR.out.cell 1 1 rfl rfl rfl
      have c12 : wr.cell? ⟨q + 1, 2, none⟩ = some (.int .i64 o1) := FR.out.cell 1 2 rfl rfl rfl
      have c13 : wr.cell? ⟨q + 1, 3, none⟩ = some (.int .i64 o2) := FR.out.cell 1 3 rfl rfl rfl
      have c14 : wr.cell? ⟨q + 1, 4, none⟩ = some (.int .i64 o3) := FR.out.cell 1 4 rfl rfl rfl
      have c15 : wr.cell? ⟨q + 1, 5, none⟩ = some (.int .i64 o4) := FR.out.cell 1 5 rfl rfl rfl
      have c16 : wr.cell? ⟨q + 1, 6, none⟩ = some (.int .i64 o5) := FR.out.cell 1 6 rfl rfl rfl
      have c17 : wr.cell? ⟨q + 1, 7, none⟩ = some (.int .u32 wa) := FR.out.cell 1 7 rfl rfl rfl
      have c18 : wr.cell? ⟨q + 1, 8, none⟩ = some (.int .u32 to) := FR.out.cell 1 8 rfl rfl rfl
      have c19 : wr.cell? ⟨q + 1, 9, none⟩ = some (.slice A2 n c2) := FR.out.cell 1 9 rfl rfl rfl
      have c110 : wr.cell? ⟨q + 1, 10, none⟩ = some (.slice (some ⟨b2, off2, none⟩) m d2) := FR.out.cell 1 10 rfl rfl rfl
      go_wp2
      go_quiet (fail)
      replace FR := Lib.hid (show Fr w (wr.drewN nq) q [.cells #[.int .i64 kd, .int .i64 o0, .int .i64 o1, .int .i64 o2, .int .i64 o3, .int .i64 o4, .int .i64 o5, .int .u32 wa, .int .u32 to, .slice A n c, .slice (some ⟨b, off, none⟩) m d] 29, .cells #[.int .i64 kd, .int .i64 o0, .int .i64 o1, .int .i64 o2, .int .i64 o3, .int .i64 o4, .int .i64 o5, .int .u32 wa, .int .u32 to, .slice A2 n c2, .slice (some ⟨b2, off2, none⟩) m d2] 29] from ⟨FR.out.blk, bel_drewN FR.out.bel _, FR.out.sz, FR.out.q0⟩)
      clear c00 c01 c02 c03 c04 c05 c06 c07 c08 c09 c010 c10 c11 c12 c13 c14 c15 c16 c17 c18 c19 c110
      clear u0 u1 v0 v1 hne
      obtain ⟨wn, hwn⟩ : ∃ W, wr.drewN nq = W := ⟨_, rfl⟩
      rw [hwn] at FR ⊢
      clear hwn
      have c00 : wn.cell? ⟨q, 0, none⟩ = some (.int .i64 kd) := FR.out.cell 0 0 rfl rfl rfl
      have c01 : wn.cell? ⟨q, 1, none⟩ = some (.int .i64 o0) := FR.out.cell 0 1 rfl rfl rfl
      have c02 : wn.cell? ⟨q, 2, none⟩ = some (.int .i64 o1) := FR.out.cell 0 2 rfl rfl rfl
      have c03 : wn.cell? ⟨q, 3, none⟩ = some (.int .i64 o2) := FR.out.cell 0 3 rfl rfl rfl
      have c04 : wn.cell? ⟨q, 4, none⟩ = some (.int .i64 o3) := FR.out.cell 0 4 rfl rfl rfl
      have c05 : wn.cell? ⟨q, 5, none⟩ = some (.int .i64 o4) := FR.out.cell 0 5 rfl rfl rfl
      have c06 : wn.cell? ⟨q, 6, none⟩ = some (.int .i64 o5) := FR.out.cell 0 6 rfl rfl rfl
      have c07 : wn.cell? ⟨q, 7, none⟩ = some (.int .u32 wa) := FR.out.cell 0 7 rfl rfl rfl
      have c08 : wn.cell? ⟨q, 8, none⟩ = some (.int .u32 to) := FR.out.cell 0 8 rfl rfl rfl
      have c09 : wn.cell? ⟨q, 9, none⟩ = some (.slice A n c) := FR.out.cell 0 9 rfl rfl rfl
      have c010 : wn.cell? ⟨q, 10, none⟩ = some (.slice (some ⟨b, off, none⟩) m d) := FR.out.cell 0 10 rfl rfl rfl
      have c10 : wn.cell? ⟨q + 1, 0, none⟩ = some (.int .i64 kd) := FR.out.cell 1 0 rfl rfl rfl
      have c11 : wn.cell? ⟨q + 1, 1, none⟩ = some (.int .i64 o0) := FR.out.cell 1 1 rfl rfl rfl
      have c12 : wn.cell? ⟨q + 1, 2, none⟩ = some (.int .i64 o1) := FR.out.cell 1 2 rfl rfl rfl
      have c13 : wn.cell? ⟨q + 1, 3, none⟩ = some (.int .i64 o2) := FR.out.cell 1 3 rfl rfl rfl
      have c14 : wn.cell? ⟨q + 1, 4, none⟩ = some (.int .i64 o3) := FR.out.cell 1 4 rfl rfl rfl
      have c15 : wn.cell? ⟨q + 1, 5, none⟩ = some (.int .i64 o4) := FR.out.cell 1 5 rfl rfl rfl
      have c16 : wn.cell? ⟨q + 1, 6, none⟩ = some (.int .i64 o5) := FR.out.cell 1 6 rfl rfl rfl
      have c17 : wn.cell? ⟨q + 1, 7, none⟩ = some (.int .u32 wa) := FR.out.cell 1 7 rfl rfl rfl
      have c18 : wn.cell? ⟨q + 1, 8, none⟩ = some (.int .u32 to) := FR.out.cell 1 8 rfl rfl rfl
      have c19 : wn.cell? ⟨q + 1, 9, none⟩ = some (.slice A2 n c2) := FR.out.cell 1 9 rfl rfl rfl
      have c110 : wn.cell? ⟨q + 1, 10, none⟩ = some (.slice (some ⟨b2, off2, none⟩) m d2) := FR.out.cell 1 10 rfl rfl rfl
      go_wp2
      go_roundw
      case rel => have := HLT.out; exact ⟨i + 1, by go_num, by omega, FR⟩
      case measure => have := HLT.out; simp [intOf]; omega
    · have c1 : decide ((i : Int) < (m : Int)) = false := by simp; omega
      have c1n : decide (i < m) = false := by simp; omega
      clear hlt hi
      have c00 : wr.cell? ⟨q, 0, none⟩ = some (.int .i64 kd) := FR.out.cell 0 0 rfl rfl rfl
      have c01 : wr.cell? ⟨q, 1, none⟩ = some (.int .i64 o0) := FR.out.cell 0 1 rfl rfl rfl
      have c02 : wr.cell? ⟨q, 2, none⟩ = some (.int .i64 o1) := FR.out.cell 0 2 rfl rfl rfl
      have c03 : wr.cell? ⟨q, 3, none⟩ = some (.int .i64 o2) := FR.out.cell 0 3 rfl rfl rfl
      have c04 : wr.cell? ⟨q, 4, none⟩ = some (.int .i64 o3) := FR.out.cell 0 4 rfl rfl rfl
      have c05 : wr.cell? ⟨q, 5, none⟩ = some (.int .i64 o4) := FR.out.cell 0 5 rfl rfl rfl
      have c06 : wr.cell? ⟨q, 6, none⟩ = some (.int .i64 o5) := FR.out.cell 0 6 rfl rfl rfl
      have c07 : wr.cell? ⟨q, 7, none⟩ = some (.int .u32 wa) := FR.out.cell 0 7 rfl rfl rfl
      have c08 : wr.cell? ⟨q, 8, none⟩ = some (.int .u32 to) := FR.out.cell 0 8 rfl rfl rfl
      have c09 : wr.cell? ⟨q, 9, none⟩ = some (.slice A n c) := FR.out.cell 0 9 rfl rfl rfl
      have c010 : wr.cell? ⟨q, 10, none⟩ = some (.slice B m d) := FR.out.cell 0 10 rfl rfl rfl
      have c10 : wr.cell? ⟨q + 1, 0, none⟩ = some (.int .i64 kd) := FR.out.cell 1 0 rfl rfl rfl
      have c11 : wr.cell? ⟨q + 1, 1, none⟩ = some (.int .i64 o0) := FR.out.cell 1 1 rfl rfl rfl
      have c12 : wr.cell? ⟨q + 1, 2, none⟩ = some (.int .i64 o1) := FR.out.cell 1 2 rfl rfl rfl
      have c13 : wr.cell? ⟨q + 1, 3, none⟩ = some (.int .i64 o2) := FR.out.cell 1 3 rfl rfl rfl
      have c14 : wr.cell? ⟨q + 1, 4, none⟩ = some (.int .i64 o3) := FR.out.cell 1 4 rfl rfl rfl
      have c15 : wr.cell? ⟨q + 1, 5, none⟩ = some (.int .i64 o4) := FR.out.cell 1 5 rfl rfl rfl
      have c16 : wr.cell? ⟨q + 1, 6, none⟩ = some (.int .i64 o5) := FR.out.cell 1 6 rfl rfl rfl
      have c17 : wr.cell? ⟨q + 1, 7, none⟩ = some (.int .u32 wa) := FR.out.cell 1 7 rfl rfl rfl
      have c18 : wr.cell? ⟨q + 1, 8, none⟩ = some (.int .u32 to) := FR.out.cell 1 8 rfl rfl rfl
      have c19 : wr.cell? ⟨q + 1, 9, none⟩ = some (.slice A2 n c2) := FR.out.cell 1 9 rfl rfl rfl
      have c110 : wr.cell? ⟨q + 1, 10, none⟩ = some (.slice B2 m d2) := FR.out.cell 1 10 rfl rfl rfl
      go_wp2
      go_ret
      exact ⟨rfl, FR.out.out⟩
theorem obj15_eq (kd o0 o1 o2 o3 o4 o5 wa to : Int) (A : Option Addr) (n c : Nat) (B : Option Addr) (m d : Nat) (nl : List Wt) (ll : List Cl) (w : World) (hx : Wts w A n c nl) (hy : Cls w B m d ll) (hn : n ≤ 16384) (hm : m ≤ 16384) : Calls Try.prog 14 #[.agg #[.int .i64 kd, .int .i64 o0, .int .i64 o1, .int .i64 o2, .int .i64 o3, .int .i64 o4, .int .i64 o5, .int .u32 wa, .int .u32 to, .slice A n c, .slice B m d], .agg #[.int .i64 kd, .int .i64 o0, .int .i64 o1, .int .i64 o2, .int .i64 o3, .int .i64 o4, .int .i64 o5, .int .u32 wa, .int .u32 to, .slice A n c, .slice B m d]] w (YesS w true) := obj15_eq2 kd o0 o1 o2 o3 o4 o5 wa to A n c B m d A c B d nl ll w hx hy hx hy hn hm
end Go.Proofs.Ytpkegfochfkkcaa
