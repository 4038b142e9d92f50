/- What slices.Clone and the landed notify's own copied and Add answer; for lists of up to 16384 who wait. -/
import Derived.Test.YtjpgmkbcjedhfaaNotG
import Derived.Test.YtjpgmkbcjedhfaaNotC
namespace Go.Proofs.Ytjpgmkbcjedhfaa
set_option linter.unusedVariables false
set_option linter.unusedSimpArgs false
open Go.RowKit
/-- waiters of the call's own. -/
def RowPost11 (w : World) (n : Nat) (ws : List Wt) (e : Ending) (w' : World) : Prop :=
  ∃ B d, e = .returned (.slice B n d) ∧ w'.ownsRow w.heap.size 53 2 (.slice B n d) n (wtC ws) ∧ Below w.heap.size w w'
set_option maxHeartbeats 1000000 in
theorem clone11_any (A : Option Addr) (n c : Nat) (ws : List Wt) (w : World) (hx : Wts w A n c ws) (hn : n ≤ 16384) :
    Calls Try.prog 35 #[.slice A n c] w (RowPost11 w n ws) := by
  cases A with
  | none =>
    have h0 : n = 0 := by
      rcases Nat.eq_zero_or_pos n with h0 | h0
      · exact h0
      · obtain ⟨b, off, e, _⟩ := Es.mem hx (by omega); cases e
    subst h0
    obtain rfl : ws = [] := List.eq_nil_of_length_eq_zero hx.len
    have hq : ∀ W : World, (binOp .eql 23 (.slice none 0 c) (.slice none 0 0)).run Try.prog W = .ok (.bool true) W := fun _ => by kernel_rfl
    go_enter Try.func35, Try.ntmps35
    go_wp2
    go_ret
    exact ⟨none, 0, rfl, World.ownsRow_nil _ _ _ _, Below.refl _ _⟩
  | some ad =>
    obtain ⟨i5, hi5, hz0, hz1, hz2⟩ := info_of infoWt
    have hown0 : (w.alloc (.cells #[] 53)).ownsRow w.heap.size 53 2 (.slice (some ⟨w.heap.size, 0, none⟩) 0 0) 0 [] := World.ownsRow_lit w #[] 0 (Nat.le_refl _) (by unfold maxLen; omega) (by simp)
    obtain ⟨v, w3, hap, hown, hgr, hvk⟩ := eapp_own (P := Try.prog) (w.alloc (.cells #[] 53)) w.heap.size 23 23 53 i5 _ 2 16 Try.underlying23 hi5 hz0 hz1 hz2 rfl (by decide) _ 0 _ hown0 (some ad) n c _ (Es.alloc hx _) (by unfold maxLen; omega) (by omega) (by simp)
    rw [Nat.zero_add, List.nil_append] at hown
    have hb3 : Below w.heap.size w w3 := ((Below.refl _ _).alloc (Nat.le_refl _) _).grown hgr (by simp) (by simp [Value.ownBlock])
    obtain ⟨B, d, rfl⟩ := (show ∃ B d, v = .slice B n d from by obtain ⟨B, d, h, _⟩ := Es.of_own hown (wtC_one _); exact ⟨B, d, h⟩)
    have HO := Lib.hid hown; have HB3 := Lib.hid hb3
    have hq : ∀ W : World, (binOp .eql 23 (.slice (some ad) n c) (.slice none 0 0)).run Try.prog W = .ok (.bool false) W := fun _ => by kernel_rfl
    clear hown hgr hb3 hown0 hx hi5 hz0 hz1 hz2 hvk
    go_enter Try.func35, Try.ntmps35
    go_wp2_with (at_builtin; refine eapp_run (by rfl) rfl rfl rfl hap ?_)
    go_ret
    exact ⟨_, _, rfl, HO.out, HB3.out⟩
set_option maxRecDepth 100000 in
set_option maxHeartbeats 4000000 in
theorem ntCopied_any (A : Option Addr) (n c : Nat) (ws : List Wt) (wa to : Int) (w : World) (hx : Wts w A n c ws) (hn : n ≤ 16384) (hb : NB (wa, to, ws)) :
    Calls Try.prog 25 #[.agg #[.int .u32 wa, .int .u32 to, .slice A n c]] w (CopyPostN w n ws wa to) := by
  have RX := Lib.hid hx
  have CL := Lib.hid (fun (W : World) (h : Wts W A n c ws) => clone11_any A n c ws W h hn)
  clear hx hb
  obtain ⟨v1, hv1⟩ : ∃ W, w.alloc (.cells #[.int .u32 wa, .int .u32 to, .slice A n c] 25) = W := ⟨_, rfl⟩
  have fr1 : Fr w v1 w.heap.size [.cells #[.int .u32 wa, .int .u32 to, .slice A n c] 25] := hv1 ▸ Fr.first w _
  have z1 : v1.heap.size = w.heap.size + 1 := by rw [← hv1, Fr.size1]
  obtain ⟨v2, hv2⟩ : ∃ W, v1.alloc (.cells #[.int .u32 0, .int .u32 0, .slice none 0 0] 25) = W := ⟨_, rfl⟩
  have fr2 : Fr w v2 w.heap.size [.cells #[.int .u32 wa, .int .u32 to, .slice A n c] 25, .cells #[.int .u32 0, .int .u32 0, .slice none 0 0] 25] := hv2 ▸ fr1.more z1 _
  have z2 : v2.heap.size = w.heap.size + 2 := by rw [← hv2, Fr.size1, z1]
  generalize hq : w.heap.size = q at *
  have FR := Lib.hid fr2
  clear fr1 fr2
  have CL2 := Lib.hid (CL.out _ (FR.out.es RX.out))
  go_enter Try.func25, Try.ntmps25
  have c00 : v2.cell? ⟨q, 0, none⟩ = some (.int .u32 wa) := FR.out.cell 0 0 rfl rfl rfl
  have c01 : v2.cell? ⟨q, 1, none⟩ = some (.int .u32 to) := FR.out.cell 0 1 rfl rfl rfl
  have c02 : v2.cell? ⟨q, 2, none⟩ = some (.slice A n c) := FR.out.cell 0 2 rfl rfl rfl
  have c10 : v2.cell? ⟨q + 1, 0, none⟩ = some (.int .u32 0) := FR.out.cell 1 0 rfl rfl rfl
  have c11 : v2.cell? ⟨q + 1, 1, none⟩ = some (.int .u32 0) := FR.out.cell 1 1 rfl rfl rfl
  have c12 : v2.cell? ⟨q + 1, 2, none⟩ = some (.slice none 0 0) := FR.out.cell 1 2 rfl rfl rfl
  go_wp2_with fail
  refine CL2.out.mono ?_
  rintro e w3 ⟨B, d, rfl, hown, hb⟩
  clear c00 c01 c02 c10 c11 c12
  have hsz := FR.out.sz
  simp only [List.length_cons, List.length_nil] at hsz
  replace FR := Lib.hid (FR.out.step hb)
  replace hown := own_base hown hsz
  have OW := Lib.hid hown
  clear hb hown
  have c00 : w3.cell? ⟨q, 0, none⟩ = some (.int .u32 wa) := FR.out.cell 0 0 rfl rfl rfl
  have f00 : w3.frozen? ⟨q, 0, none⟩ = false := FR.out.frozen 0 0 rfl rfl
  have c01 : w3.cell? ⟨q, 1, none⟩ = some (.int .u32 to) := FR.out.cell 0 1 rfl rfl rfl
  have f01 : w3.frozen? ⟨q, 1, none⟩ = false := FR.out.frozen 0 1 rfl rfl
  have c02 : w3.cell? ⟨q, 2, none⟩ = some (.slice A n c) := FR.out.cell 0 2 rfl rfl rfl
  have f02 : w3.frozen? ⟨q, 2, none⟩ = false := FR.out.frozen 0 2 rfl rfl
  have c10 : w3.cell? ⟨q + 1, 0, none⟩ = some (.int .u32 0) := FR.out.cell 1 0 rfl rfl rfl
  have f10 : w3.frozen? ⟨q + 1, 0, none⟩ = false := FR.out.frozen 1 0 rfl rfl
  have c11 : w3.cell? ⟨q + 1, 1, none⟩ = some (.int .u32 0) := FR.out.cell 1 1 rfl rfl rfl
  have f11 : w3.frozen? ⟨q + 1, 1, none⟩ = false := FR.out.frozen 1 1 rfl rfl
  have c12 : w3.cell? ⟨q + 1, 2, none⟩ = some (.slice none 0 0) := FR.out.cell 1 2 rfl rfl rfl
  have f12 : w3.frozen? ⟨q + 1, 2, none⟩ = false := FR.out.frozen 1 2 rfl rfl
  go_wp2
  have FZ : Fr w ((((w3.setCell ⟨q, 2, none⟩ (.slice B n d)).setCell ⟨q + 1, 0, none⟩ (.int .u32 wa)).setCell ⟨q + 1, 1, none⟩ (.int .u32 to)).setCell ⟨q + 1, 2, none⟩ (.slice B n d)) q [.cells #[.int .u32 wa, .int .u32 to, .slice B n d] 25, .cells #[.int .u32 wa, .int .u32 to, .slice B n d] 25] := ((((FR.out.set 0 2 rfl rfl (.slice B n d)).set 1 0 rfl rfl (.int .u32 wa)).set 1 1 rfl rfl (.int .u32 to)).set 1 2 rfl rfl (.slice B n d))
  refine bodyPost_ret (res_c Try.results25 (by rfl) (FZ.load 1 rfl rfl Try.underlying25 (by kernel_rfl))) rfl ?_
  exact ⟨B, d, rfl, own_base (own_apart (own_apart (own_apart (own_apart (OW.out) (k := q) (o := 2) (u := .slice B n d) (by omega)) (k := q + 1) (o := 0) (u := .int .u32 wa) (by omega)) (k := q + 1) (o := 1) (u := .int .u32 to) (by omega)) (k := q + 1) (o := 2) (u := .slice B n d) (by omega)) (by rw [hq]; omega), FZ.out⟩
set_option maxRecDepth 100000 in
set_option maxHeartbeats 4000000 in
theorem ntAdd_any (A : Option Addr) (n c : Nat) (ws : List Wt) (wa to : Int) (w : World) (hx : Wts w A n c ws) (hn : n ≤ 16384) (hb : NB (wa, to, ws)) :
    Calls Try.prog 9 #[.agg #[.int .u32 wa, .int .u32 to, .slice A n c]] w (AGotN w A n c (addN (wa, to, ws))) := by
  have hlen := hx.len
  have RX := Lib.hid hx
  have HL := Lib.hid hlen
  have CP := Lib.hid (fun (W : World) (h : Wts W A n c ws) => ntCopied_any A n c ws wa to W h hn hb)
  have RT := fun (B : Option Addr) (d : Nat) (W : World) (h : Wts W B n d ws) => ntRight_any B n d ws wa to W h hn hb
  have CN := Lib.hid (fun (B : Option Addr) (d : Nat) (W : World) (h : Wts W B n d ws) => ntCount_any B n d ws wa to W h hn hb)
  have hw0 := hb.w0
  obtain ⟨R, hR⟩ : ∃ R, addN (wa, to, ws) = R := ⟨_, rfl⟩
  rw [hR]
  clear hx
  obtain ⟨v1, hv1⟩ : ∃ W, w.alloc (.cells #[.int .u32 wa, .int .u32 to, .slice A n c] 25) = W := ⟨_, rfl⟩
  have fr1 : Fr w v1 w.heap.size [.cells #[.int .u32 wa, .int .u32 to, .slice A n c] 25] := hv1 ▸ Fr.first w _
  have z1 : v1.heap.size = w.heap.size + 1 := by rw [← hv1, Fr.size1]
  obtain ⟨v2, hv2⟩ : ∃ W, v1.alloc (.cells #[.int .u32 0, .int .u32 0, .slice none 0 0] 25) = W := ⟨_, rfl⟩
  have fr2 : Fr w v2 w.heap.size [.cells #[.int .u32 wa, .int .u32 to, .slice A n c] 25, .cells #[.int .u32 0, .int .u32 0, .slice none 0 0] 25] := hv2 ▸ fr1.more z1 _
  have z2 : v2.heap.size = w.heap.size + 2 := by rw [← hv2, Fr.size1, z1]
  generalize hq : w.heap.size = q at *
  have FR := Lib.hid fr2
  clear fr1 fr2
  cases hr : rightN (wa, to, ws)
  · rw [hr] at RT
    replace RT := Lib.hid RT
    have HE := Lib.hid (show R = ((wa, to, ws), 0, 1) by rw [← hR]; unfold addN; rw [if_pos hr])
    clear hr hR hlen hb hw0
    go_enter Try.func9, Try.ntmps9
    have CP2 := Lib.hid (CP.out _ (FR.out.es RX.out))
    have c00 : v2.cell? ⟨q, 0, none⟩ = some (.int .u32 wa) := FR.out.cell 0 0 rfl rfl rfl
    have c01 : v2.cell? ⟨q, 1, none⟩ = some (.int .u32 to) := FR.out.cell 0 1 rfl rfl rfl
    have c02 : v2.cell? ⟨q, 2, none⟩ = some (.slice A n c) := FR.out.cell 0 2 rfl rfl rfl
    have c10 : v2.cell? ⟨q + 1, 0, none⟩ = some (.int .u32 0) := FR.out.cell 1 0 rfl rfl rfl
    have c11 : v2.cell? ⟨q + 1, 1, none⟩ = some (.int .u32 0) := FR.out.cell 1 1 rfl rfl rfl
    have c12 : v2.cell? ⟨q + 1, 2, none⟩ = some (.slice none 0 0) := FR.out.cell 1 2 rfl rfl rfl
    go_wp2_with fail
    refine CP2.out.mono ?_
    rintro e w3 ⟨B, d, rfl, hown, hb⟩
    clear c00 c01 c02 c10 c11 c12
    have hsz := FR.out.sz
    simp only [List.length_cons, List.length_nil] at hsz
    replace FR := Lib.hid (FR.out.step hb)
    have OW := Lib.hid (own_base hown hsz)
    clear hb hown hsz
    have pc00 : w3.cell? ⟨q, 0, none⟩ = some (.int .u32 wa) := FR.out.cell 0 0 rfl rfl rfl
    have pf00 : w3.frozen? ⟨q, 0, none⟩ = false := FR.out.frozen 0 0 rfl rfl
    have pc01 : w3.cell? ⟨q, 1, none⟩ = some (.int .u32 to) := FR.out.cell 0 1 rfl rfl rfl
    have pf01 : w3.frozen? ⟨q, 1, none⟩ = false := FR.out.frozen 0 1 rfl rfl
    have pc02 : w3.cell? ⟨q, 2, none⟩ = some (.slice A n c) := FR.out.cell 0 2 rfl rfl rfl
    have pf02 : w3.frozen? ⟨q, 2, none⟩ = false := FR.out.frozen 0 2 rfl rfl
    have hszw4 := FR.out.sz
    simp only [List.length_cons, List.length_nil] at hszw4
    obtain ⟨w4, hw4⟩ : ∃ W, (((w3.setCell ⟨q, 0, none⟩ (.int .u32 wa)).setCell ⟨q, 1, none⟩ (.int .u32 to)).setCell ⟨q, 2, none⟩ (.slice B n d)) = W := ⟨_, rfl⟩
    replace FR := Lib.hid (show Fr w w4 q [.cells #[.int .u32 wa, .int .u32 to, .slice B n d] 25, .cells #[.int .u32 0, .int .u32 0, .slice none 0 0] 25] from hw4 ▸ (((FR.out.set 0 0 rfl rfl (.int .u32 wa)).set 0 1 rfl rfl (.int .u32 to)).set 0 2 rfl rfl (.slice B n d)))
    replace OW := Lib.hid (hw4 ▸ (own_apart (own_apart (own_apart OW.out (k := q) (o := 0) (u := .int .u32 wa) (by omega)) (k := q) (o := 1) (u := .int .u32 to) (by omega)) (k := q) (o := 2) (u := .slice B n d) (by omega)))
    have RX2 := Lib.hid (wts_own OW.out)
    have c00 : w4.cell? ⟨q, 0, none⟩ = some (.int .u32 wa) := FR.out.cell 0 0 rfl rfl rfl
    have c01 : w4.cell? ⟨q, 1, none⟩ = some (.int .u32 to) := FR.out.cell 0 1 rfl rfl rfl
    have c02 : w4.cell? ⟨q, 2, none⟩ = some (.slice B n d) := FR.out.cell 0 2 rfl rfl rfl
    go_wp2_with fail
    refine ((RT.out _ _ _ RX2.out)).mono ?_
    rintro e w5 ⟨rfl, hb⟩
    clear c00 c01 c02
    replace FR := Lib.hid (FR.out.step hb)
    replace OW := Lib.hid (own_below OW.out hb)
    clear hb
    replace RX2 := Lib.hid (wts_own OW.out)
    have c00 : w5.cell? ⟨q, 0, none⟩ = some (.int .u32 wa) := FR.out.cell 0 0 rfl rfl rfl
    have f00 : w5.frozen? ⟨q, 0, none⟩ = false := FR.out.frozen 0 0 rfl rfl
    have c01 : w5.cell? ⟨q, 1, none⟩ = some (.int .u32 to) := FR.out.cell 0 1 rfl rfl rfl
    have f01 : w5.frozen? ⟨q, 1, none⟩ = false := FR.out.frozen 0 1 rfl rfl
    have c02 : w5.cell? ⟨q, 2, none⟩ = some (.slice B n d) := FR.out.cell 0 2 rfl rfl rfl
    have f02 : w5.frozen? ⟨q, 2, none⟩ = false := FR.out.frozen 0 2 rfl rfl
    have c10 : w5.cell? ⟨q + 1, 0, none⟩ = some (.int .u32 0) := FR.out.cell 1 0 rfl rfl rfl
    have f10 : w5.frozen? ⟨q + 1, 0, none⟩ = false := FR.out.frozen 1 0 rfl rfl
    have c11 : w5.cell? ⟨q + 1, 1, none⟩ = some (.int .u32 0) := FR.out.cell 1 1 rfl rfl rfl
    have f11 : w5.frozen? ⟨q + 1, 1, none⟩ = false := FR.out.frozen 1 1 rfl rfl
    have c12 : w5.cell? ⟨q + 1, 2, none⟩ = some (.slice none 0 0) := FR.out.cell 1 2 rfl rfl rfl
    have f12 : w5.frozen? ⟨q + 1, 2, none⟩ = false := FR.out.frozen 1 2 rfl rfl
    go_wp2
    have FZ : Fr w (((w5.setCell ⟨q + 1, 0, none⟩ (.int .u32 wa)).setCell ⟨q + 1, 1, none⟩ (.int .u32 to)).setCell ⟨q + 1, 2, none⟩ (.slice B n d)) q [.cells #[.int .u32 wa, .int .u32 to, .slice B n d] 25, .cells #[.int .u32 wa, .int .u32 to, .slice B n d] 25] := (((FR.out.set 1 0 rfl rfl (.int .u32 wa)).set 1 1 rfl rfl (.int .u32 to)).set 1 2 rfl rfl (.slice B n d))
    refine bodyPost_ret (res_css Try.results9 (by rfl) (FZ.load 1 rfl rfl Try.underlying25 (by kernel_rfl))) rfl ?_
    rw [HE.out]
    have hrs := own_base (own_apart (own_apart (own_apart (OW.out) (k := q + 1) (o := 0) (u := .int .u32 wa) (by omega)) (k := q + 1) (o := 1) (u := .int .u32 to) (by omega)) (k := q + 1) (o := 2) (u := .slice B n d) (by omega)) (show w.heap.size ≤ _ from by rw [hq]; omega)
    exact ⟨_, _, _, rfl, wts_own hrs, FZ.out, Or.inl hrs⟩
  · rw [hr] at RT
    replace RT := Lib.hid RT
    have hE : R = if far to wa = 1000 then ((wa, to, ws), 0, 6) else ((next32 wa, to, ws), wa, 0) := by rw [← hR]; unfold addN; exact if_neg (by rw [hr]; simp)
    obtain ⟨r, hfr⟩ : ∃ r, far to wa = r := ⟨_, rfl⟩
    rw [hfr] at CN hE
    by_cases h1 : r = 1000
    · have b1 : (r == 1000) = true := by simp [h1]
      have HE := Lib.hid (show R = ((wa, to, ws), 0, 6) by rw [hE, if_pos h1])
      clear hE h1 hfr hr hR hlen hb hw0
      go_enter Try.func9, Try.ntmps9
      have CP2 := Lib.hid (CP.out _ (FR.out.es RX.out))
      have c00 : v2.cell? ⟨q, 0, none⟩ = some (.int .u32 wa) := FR.out.cell 0 0 rfl rfl rfl
      have c01 : v2.cell? ⟨q, 1, none⟩ = some (.int .u32 to) := FR.out.cell 0 1 rfl rfl rfl
      have c02 : v2.cell? ⟨q, 2, none⟩ = some (.slice A n c) := FR.out.cell 0 2 rfl rfl rfl
      have c10 : v2.cell? ⟨q + 1, 0, none⟩ = some (.int .u32 0) := FR.out.cell 1 0 rfl rfl rfl
      have c11 : v2.cell? ⟨q + 1, 1, none⟩ = some (.int .u32 0) := FR.out.cell 1 1 rfl rfl rfl
      have c12 : v2.cell? ⟨q + 1, 2, none⟩ = some (.slice none 0 0) := FR.out.cell 1 2 rfl rfl rfl
      go_wp2_with fail
      refine CP2.out.mono ?_
      rintro e w3 ⟨B, d, rfl, hown, hb⟩
      clear c00 c01 c02 c10 c11 c12
      have hsz := FR.out.sz
      simp only [List.length_cons, List.length_nil] at hsz
      replace FR := Lib.hid (FR.out.step hb)
      have OW := Lib.hid (own_base hown hsz)
      clear hb hown hsz
      have pc00 : w3.cell? ⟨q, 0, none⟩ = some (.int .u32 wa) := FR.out.cell 0 0 rfl rfl rfl
      have pf00 : w3.frozen? ⟨q, 0, none⟩ = false := FR.out.frozen 0 0 rfl rfl
      have pc01 : w3.cell? ⟨q, 1, none⟩ = some (.int .u32 to) := FR.out.cell 0 1 rfl rfl rfl
      have pf01 : w3.frozen? ⟨q, 1, none⟩ = false := FR.out.frozen 0 1 rfl rfl
      have pc02 : w3.cell? ⟨q, 2, none⟩ = some (.slice A n c) := FR.out.cell 0 2 rfl rfl rfl
      have pf02 : w3.frozen? ⟨q, 2, none⟩ = false := FR.out.frozen 0 2 rfl rfl
      have hszw4 := FR.out.sz
      simp only [List.length_cons, List.length_nil] at hszw4
      obtain ⟨w4, hw4⟩ : ∃ W, (((w3.setCell ⟨q, 0, none⟩ (.int .u32 wa)).setCell ⟨q, 1, none⟩ (.int .u32 to)).setCell ⟨q, 2, none⟩ (.slice B n d)) = W := ⟨_, rfl⟩
      replace FR := Lib.hid (show Fr w w4 q [.cells #[.int .u32 wa, .int .u32 to, .slice B n d] 25, .cells #[.int .u32 0, .int .u32 0, .slice none 0 0] 25] from hw4 ▸ (((FR.out.set 0 0 rfl rfl (.int .u32 wa)).set 0 1 rfl rfl (.int .u32 to)).set 0 2 rfl rfl (.slice B n d)))
      replace OW := Lib.hid (hw4 ▸ (own_apart (own_apart (own_apart OW.out (k := q) (o := 0) (u := .int .u32 wa) (by omega)) (k := q) (o := 1) (u := .int .u32 to) (by omega)) (k := q) (o := 2) (u := .slice B n d) (by omega)))
      have RX2 := Lib.hid (wts_own OW.out)
      have c00 : w4.cell? ⟨q, 0, none⟩ = some (.int .u32 wa) := FR.out.cell 0 0 rfl rfl rfl
      have c01 : w4.cell? ⟨q, 1, none⟩ = some (.int .u32 to) := FR.out.cell 0 1 rfl rfl rfl
      have c02 : w4.cell? ⟨q, 2, none⟩ = some (.slice B n d) := FR.out.cell 0 2 rfl rfl rfl
      go_wp2_with fail
      refine ((RT.out _ _ _ RX2.out)).mono ?_
      rintro e w5 ⟨rfl, hb⟩
      clear c00 c01 c02
      replace FR := Lib.hid (FR.out.step hb)
      replace OW := Lib.hid (own_below OW.out hb)
      clear hb
      replace RX2 := Lib.hid (wts_own OW.out)
      have c00 : w5.cell? ⟨q, 0, none⟩ = some (.int .u32 wa) := FR.out.cell 0 0 rfl rfl rfl
      have c01 : w5.cell? ⟨q, 1, none⟩ = some (.int .u32 to) := FR.out.cell 0 1 rfl rfl rfl
      have c02 : w5.cell? ⟨q, 2, none⟩ = some (.slice B n d) := FR.out.cell 0 2 rfl rfl rfl
      go_wp2_with fail
      refine ((CN.out _ _ _ RX2.out)).mono ?_
      rintro e w6 ⟨rfl, hb⟩
      clear c00 c01 c02
      replace FR := Lib.hid (FR.out.step hb)
      replace OW := Lib.hid (own_below OW.out hb)
      clear hb
      replace RX2 := Lib.hid (wts_own OW.out)
      have c00 : w6.cell? ⟨q, 0, none⟩ = some (.int .u32 wa) := FR.out.cell 0 0 rfl rfl rfl
      have f00 : w6.frozen? ⟨q, 0, none⟩ = false := FR.out.frozen 0 0 rfl rfl
      have c01 : w6.cell? ⟨q, 1, none⟩ = some (.int .u32 to) := FR.out.cell 0 1 rfl rfl rfl
      have f01 : w6.frozen? ⟨q, 1, none⟩ = false := FR.out.frozen 0 1 rfl rfl
      have c02 : w6.cell? ⟨q, 2, none⟩ = some (.slice B n d) := FR.out.cell 0 2 rfl rfl rfl
      have f02 : w6.frozen? ⟨q, 2, none⟩ = false := FR.out.frozen 0 2 rfl rfl
      have c10 : w6.cell? ⟨q + 1, 0, none⟩ = some (.int .u32 0) := FR.out.cell 1 0 rfl rfl rfl
      have f10 : w6.frozen? ⟨q + 1, 0, none⟩ = false := FR.out.frozen 1 0 rfl rfl
      have c11 : w6.cell? ⟨q + 1, 1, none⟩ = some (.int .u32 0) := FR.out.cell 1 1 rfl rfl rfl
      have f11 : w6.frozen? ⟨q + 1, 1, none⟩ = false := FR.out.frozen 1 1 rfl rfl
      have c12 : w6.cell? ⟨q + 1, 2, none⟩ = some (.slice none 0 0) := FR.out.cell 1 2 rfl rfl rfl
      have f12 : w6.frozen? ⟨q + 1, 2, none⟩ = false := FR.out.frozen 1 2 rfl rfl
      go_wp2
      have FZ : Fr w (((w6.setCell ⟨q + 1, 0, none⟩ (.int .u32 wa)).setCell ⟨q + 1, 1, none⟩ (.int .u32 to)).setCell ⟨q + 1, 2, none⟩ (.slice B n d)) q [.cells #[.int .u32 wa, .int .u32 to, .slice B n d] 25, .cells #[.int .u32 wa, .int .u32 to, .slice B n d] 25] := (((FR.out.set 1 0 rfl rfl (.int .u32 wa)).set 1 1 rfl rfl (.int .u32 to)).set 1 2 rfl rfl (.slice B n d))
      refine bodyPost_ret (res_css Try.results9 (by rfl) (FZ.load 1 rfl rfl Try.underlying25 (by kernel_rfl))) rfl ?_
      rw [HE.out]
      have hrs := own_base (own_apart (own_apart (own_apart (OW.out) (k := q + 1) (o := 0) (u := .int .u32 wa) (by omega)) (k := q + 1) (o := 1) (u := .int .u32 to) (by omega)) (k := q + 1) (o := 2) (u := .slice B n d) (by omega)) (show w.heap.size ≤ _ from by rw [hq]; omega)
      exact ⟨_, _, _, rfl, wts_own hrs, FZ.out, Or.inl hrs⟩
    · have b1 : (r == 1000) = false := by simp [h1]
      obtain ⟨nx, hnx⟩ : ∃ x, next32 wa = x := ⟨_, rfl⟩
      have HE := Lib.hid (show R = ((nx, to, ws), wa, 0) by rw [hE, if_neg h1, hnx])
      have hw1 : IntKind.u32.wrap (wa + 1) = nx := by rw [← hnx, IntKind.wrap_u32]; unfold next32; omega
      clear hE h1 hfr hr hR hlen hb hw0 hnx
      go_enter Try.func9, Try.ntmps9
      have CP2 := Lib.hid (CP.out _ (FR.out.es RX.out))
      have c00 : v2.cell? ⟨q, 0, none⟩ = some (.int .u32 wa) := FR.out.cell 0 0 rfl rfl rfl
      have c01 : v2.cell? ⟨q, 1, none⟩ = some (.int .u32 to) := FR.out.cell 0 1 rfl rfl rfl
      have c02 : v2.cell? ⟨q, 2, none⟩ = some (.slice A n c) := FR.out.cell 0 2 rfl rfl rfl
      have c10 : v2.cell? ⟨q + 1, 0, none⟩ = some (.int .u32 0) := FR.out.cell 1 0 rfl rfl rfl
      have c11 : v2.cell? ⟨q + 1, 1, none⟩ = some (.int .u32 0) := FR.out.cell 1 1 rfl rfl rfl
      have c12 : v2.cell? ⟨q + 1, 2, none⟩ = some (.slice none 0 0) := FR.out.cell 1 2 rfl rfl rfl
      go_wp2_with fail
      refine CP2.out.mono ?_
      rintro e w3 ⟨B, d, rfl, hown, hb⟩
      clear c00 c01 c02 c10 c11 c12
      have hsz := FR.out.sz
      simp only [List.length_cons, List.length_nil] at hsz
      replace FR := Lib.hid (FR.out.step hb)
      have OW := Lib.hid (own_base hown hsz)
      clear hb hown hsz
      have pc00 : w3.cell? ⟨q, 0, none⟩ = some (.int .u32 wa) := FR.out.cell 0 0 rfl rfl rfl
      have pf00 : w3.frozen? ⟨q, 0, none⟩ = false := FR.out.frozen 0 0 rfl rfl
      have pc01 : w3.cell? ⟨q, 1, none⟩ = some (.int .u32 to) := FR.out.cell 0 1 rfl rfl rfl
      have pf01 : w3.frozen? ⟨q, 1, none⟩ = false := FR.out.frozen 0 1 rfl rfl
      have pc02 : w3.cell? ⟨q, 2, none⟩ = some (.slice A n c) := FR.out.cell 0 2 rfl rfl rfl
      have pf02 : w3.frozen? ⟨q, 2, none⟩ = false := FR.out.frozen 0 2 rfl rfl
      have hszw4 := FR.out.sz
      simp only [List.length_cons, List.length_nil] at hszw4
      obtain ⟨w4, hw4⟩ : ∃ W, (((w3.setCell ⟨q, 0, none⟩ (.int .u32 wa)).setCell ⟨q, 1, none⟩ (.int .u32 to)).setCell ⟨q, 2, none⟩ (.slice B n d)) = W := ⟨_, rfl⟩
      replace FR := Lib.hid (show Fr w w4 q [.cells #[.int .u32 wa, .int .u32 to, .slice B n d] 25, .cells #[.int .u32 0, .int .u32 0, .slice none 0 0] 25] from hw4 ▸ (((FR.out.set 0 0 rfl rfl (.int .u32 wa)).set 0 1 rfl rfl (.int .u32 to)).set 0 2 rfl rfl (.slice B n d)))
      replace OW := Lib.hid (hw4 ▸ (own_apart (own_apart (own_apart OW.out (k := q) (o := 0) (u := .int .u32 wa) (by omega)) (k := q) (o := 1) (u := .int .u32 to) (by omega)) (k := q) (o := 2) (u := .slice B n d) (by omega)))
      have RX2 := Lib.hid (wts_own OW.out)
      have c00 : w4.cell? ⟨q, 0, none⟩ = some (.int .u32 wa) := FR.out.cell 0 0 rfl rfl rfl
      have c01 : w4.cell? ⟨q, 1, none⟩ = some (.int .u32 to) := FR.out.cell 0 1 rfl rfl rfl
      have c02 : w4.cell? ⟨q, 2, none⟩ = some (.slice B n d) := FR.out.cell 0 2 rfl rfl rfl
      go_wp2_with fail
      refine ((RT.out _ _ _ RX2.out)).mono ?_
      rintro e w5 ⟨rfl, hb⟩
      clear c00 c01 c02
      replace FR := Lib.hid (FR.out.step hb)
      replace OW := Lib.hid (own_below OW.out hb)
      clear hb
      replace RX2 := Lib.hid (wts_own OW.out)
      have c00 : w5.cell? ⟨q, 0, none⟩ = some (.int .u32 wa) := FR.out.cell 0 0 rfl rfl rfl
      have c01 : w5.cell? ⟨q, 1, none⟩ = some (.int .u32 to) := FR.out.cell 0 1 rfl rfl rfl
      have c02 : w5.cell? ⟨q, 2, none⟩ = some (.slice B n d) := FR.out.cell 0 2 rfl rfl rfl
      go_wp2_with fail
      refine ((CN.out _ _ _ RX2.out)).mono ?_
      rintro e w6 ⟨rfl, hb⟩
      clear c00 c01 c02
      replace FR := Lib.hid (FR.out.step hb)
      replace OW := Lib.hid (own_below OW.out hb)
      clear hb
      replace RX2 := Lib.hid (wts_own OW.out)
      have hsz := FR.out.sz
      simp only [List.length_cons, List.length_nil] at hsz
      have c00 : w6.cell? ⟨q, 0, none⟩ = some (.int .u32 wa) := FR.out.cell 0 0 rfl rfl rfl
      have f00 : w6.frozen? ⟨q, 0, none⟩ = false := FR.out.frozen 0 0 rfl rfl
      have c01 : w6.cell? ⟨q, 1, none⟩ = some (.int .u32 to) := FR.out.cell 0 1 rfl rfl rfl
      have f01 : w6.frozen? ⟨q, 1, none⟩ = false := FR.out.frozen 0 1 rfl rfl
      have c02 : w6.cell? ⟨q, 2, none⟩ = some (.slice B n d) := FR.out.cell 0 2 rfl rfl rfl
      have f02 : w6.frozen? ⟨q, 2, none⟩ = false := FR.out.frozen 0 2 rfl rfl
      have c10 : w6.cell? ⟨q + 1, 0, none⟩ = some (.int .u32 0) := FR.out.cell 1 0 rfl rfl rfl
      have f10 : w6.frozen? ⟨q + 1, 0, none⟩ = false := FR.out.frozen 1 0 rfl rfl
      have c11 : w6.cell? ⟨q + 1, 1, none⟩ = some (.int .u32 0) := FR.out.cell 1 1 rfl rfl rfl
      have f11 : w6.frozen? ⟨q + 1, 1, none⟩ = false := FR.out.frozen 1 1 rfl rfl
      have c12 : w6.cell? ⟨q + 1, 2, none⟩ = some (.slice none 0 0) := FR.out.cell 1 2 rfl rfl rfl
      have f12 : w6.frozen? ⟨q + 1, 2, none⟩ = false := FR.out.frozen 1 2 rfl rfl
      go_wp2
      have FZ : Fr w ((((w6.setCell ⟨q, 0, none⟩ (.int .u32 nx)).setCell ⟨q + 1, 0, none⟩ (.int .u32 nx)).setCell ⟨q + 1, 1, none⟩ (.int .u32 to)).setCell ⟨q + 1, 2, none⟩ (.slice B n d)) q [.cells #[.int .u32 nx, .int .u32 to, .slice B n d] 25, .cells #[.int .u32 nx, .int .u32 to, .slice B n d] 25] := ((((FR.out.set 0 0 rfl rfl (.int .u32 nx)).set 1 0 rfl rfl (.int .u32 nx)).set 1 1 rfl rfl (.int .u32 to)).set 1 2 rfl rfl (.slice B n d))
      refine bodyPost_ret (res_css Try.results9 (by rfl) (FZ.load 1 rfl rfl Try.underlying25 (by kernel_rfl))) rfl ?_
      rw [HE.out]
      have hrs := own_base (own_apart (own_apart (own_apart (own_apart (OW.out) (k := q) (o := 0) (u := .int .u32 nx) (by omega)) (k := q + 1) (o := 0) (u := .int .u32 nx) (by omega)) (k := q + 1) (o := 1) (u := .int .u32 to) (by omega)) (k := q + 1) (o := 2) (u := .slice B n d) (by omega)) (show w.heap.size ≤ _ from by rw [hq]; omega)
      exact ⟨_, _, _, rfl, wts_own hrs, FZ.out, Or.inl hrs⟩
end Go.Proofs.Ytjpgmkbcjedhfaa
