/- What the document's own One and All of layer 11 answer; for lists of up to 16384 who wait. -/
import Derived.Test.YtjpgmkbcjedhfaaNotC
namespace Go.Proofs.Ytjpgmkbcjedhfaa
set_option linter.unusedVariables false
set_option linter.unusedSimpArgs false
open Go.RowKit
/-- a list, numbers, and what was wrong. -/
def LGotN (w : World) (A : Option Addr) (n c : Nat) (r : Nf × List Int × Int) (e : Ending) (w' : World) : Prop :=
  ∃ B m d C k f, e = .returned (.tuple #[.agg #[.int .u32 r.1.1, .int .u32 r.1.2.1, .slice B m d], .slice C k f, .int .i64 r.2.2]) ∧ Wts w' B m d r.1.2.2 ∧ w'.ownsRow w.heap.size 3 1 (.slice C k f) k (intC r.2.1) ∧ Below w.heap.size w w' ∧ (w'.ownsRow w.heap.size 53 2 (.slice B m d) m (wtC r.1.2.2) ∨ Value.slice B m d = .slice A n c)
/-- a list, a task, and what was wrong. -/
def OGotN (w : World) (A : Option Addr) (n c : Nat) (r : Nf × Int × Int) (e : Ending) (w' : World) : Prop :=
  ∃ B m d, e = .returned (.tuple #[.agg #[.int .u32 r.1.1, .int .u32 r.1.2.1, .slice B m d], .int .i64 r.2.1, .int .i64 r.2.2]) ∧ Wts w' B m d r.1.2.2 ∧ Below w.heap.size w w' ∧ (w'.ownsRow w.heap.size 53 2 (.slice B m d) m (wtC r.1.2.2) ∨ Value.slice B m d = .slice A n c)
theorem oneT_add (t : Int) (x : Wt) : ∀ (ws : List Wt) (acc : Int), oneT t (ws ++ [x]) acc = if x.1 = t then x.2 else oneT t ws acc
  | [], acc => rfl
  | y :: ws, acc => oneT_add t x ws _
theorem butT_add (t : Int) (x : Wt) : ∀ (ws : List Wt), butT t (ws ++ [x]) = if x.1 = t then butT t ws else butT t ws ++ [x]
  | [] => by show (if x.1 = t then butT t [] else x :: butT t []) = _; split <;> rfl
  | y :: ws => by
    show (if y.1 = t then butT t (ws ++ [x]) else y :: butT t (ws ++ [x])) = _
    rw [butT_add t x ws]
    by_cases hy : y.1 = t
    · rw [if_pos hy, show butT t (y :: ws) = butT t ws from if_pos hy]
    · rw [if_neg hy, show butT t (y :: ws) = y :: butT t ws from if_neg hy]
      split <;> rfl
theorem butT_len (t : Int) : ∀ ws, (butT t ws).length ≤ ws.length
  | [] => Nat.le_refl _
  | y :: ws => by
    have := butT_len t ws
    unfold butT
    split <;> simp <;> omega
theorem take_wt {ws : List Wt} {i : Nat} (h : i < ws.length) : ws.take (i + 1) = ws.take i ++ [wtAt ws i] := by
  unfold wtAt
  rw [List.take_add_one, List.getElem?_eq_getElem h, List.getD_eq_getElem?_getD, List.getElem?_eq_getElem h]; rfl
theorem lit_wt {w : World} {b : Nat} {x : Wt} (h : w.heap[b]? = some (.cells #[.int .u32 x.1, .int .i64 x.2] 53)) : Es w (some ⟨b, 0, none⟩) 1 1 2 (wtC [x]) := by
  refine ⟨rfl, Nat.le_refl _, wtC_one _, fun _ => ⟨b, 0, rfl, blk_lt h, fun j v hj => ?_⟩⟩
  rw [Nat.zero_add, blk_cell h]; simpa [wtC] using hj
set_option maxRecDepth 100000 in
set_option maxHeartbeats 8000000 in
theorem refAll11_any (A : Option Addr) (n c : Nat) (ws : List Wt) (wa to : Int) (w : World) (hx : Wts w A n c ws) (hn : n ≤ 16384) (hb : NB (wa, to, ws)) :
    Calls Try.prog 21 #[.agg #[.int .u32 wa, .int .u32 to, .slice A n c]] w (LGotN w A n c (allN (wa, to, ws))) := by
  obtain ⟨i5, hi5, hz0, hz1, hz2⟩ := info_of infoInt
  have HI := Lib.hid hi5; have HZ0 := Lib.hid hz0; have HZ1 := Lib.hid hz1; have HZ2 := Lib.hid hz2
  clear hi5 hz0 hz1 hz2
  have hlen := hx.len
  have RX := Lib.hid hx
  have HL := Lib.hid hlen
  have RT := fun (W : World) (h : Wts W A n c ws) => refRight11_any A n c ws wa to W h hn hb
  obtain ⟨R, hR⟩ : ∃ R, allN (wa, to, ws) = R := ⟨_, rfl⟩
  rw [hR]
  clear hx hb
  obtain ⟨v1, hv1⟩ : ∃ W, w.alloc (.cells #[.int .u32 wa, .int .u32 to, .slice A n c] 25) = W := ⟨_, rfl⟩
  have fr1 : Fr w v1 w.heap.size [.cells #[.int .u32 wa, .int .u32 to, .slice A n c] 25] := hv1 ▸ Fr.first w _
  have z1 : v1.heap.size = w.heap.size + 1 := by rw [← hv1, Fr.size1]
  obtain ⟨v2, hv2⟩ : ∃ W, v1.alloc (.cells #[.int .u32 0, .int .u32 0, .slice none 0 0] 25) = W := ⟨_, rfl⟩
  have fr2 : Fr w v2 w.heap.size [.cells #[.int .u32 wa, .int .u32 to, .slice A n c] 25, .cells #[.int .u32 0, .int .u32 0, .slice none 0 0] 25] := hv2 ▸ fr1.more z1 _
  have z2 : v2.heap.size = w.heap.size + 2 := by rw [← hv2, Fr.size1, z1]
  generalize hq : w.heap.size = q at *
  have FR := Lib.hid fr2
  clear fr1 fr2
  cases hr : rightN (wa, to, ws)
  · rw [hr] at RT
    replace RT := Lib.hid RT
    have HE := Lib.hid (show R = ((wa, to, ws), [], 1) by rw [← hR]; unfold allN; rw [if_pos hr])
    clear hr hR hlen
    go_enter Try.func21, Try.ntmps21
    have c00 : v2.cell? ⟨q, 0, none⟩ = some (.int .u32 wa) := FR.out.cell 0 0 rfl rfl rfl
    have c01 : v2.cell? ⟨q, 1, none⟩ = some (.int .u32 to) := FR.out.cell 0 1 rfl rfl rfl
    have c02 : v2.cell? ⟨q, 2, none⟩ = some (.slice A n c) := FR.out.cell 0 2 rfl rfl rfl
    have c10 : v2.cell? ⟨q + 1, 0, none⟩ = some (.int .u32 0) := FR.out.cell 1 0 rfl rfl rfl
    have c11 : v2.cell? ⟨q + 1, 1, none⟩ = some (.int .u32 0) := FR.out.cell 1 1 rfl rfl rfl
    have c12 : v2.cell? ⟨q + 1, 2, none⟩ = some (.slice none 0 0) := FR.out.cell 1 2 rfl rfl rfl
    go_wp2_with fail
    refine ((RT.out _ (FR.out.es RX.out))).mono ?_
    rintro e w3 ⟨rfl, hb⟩
    clear c00 c01 c02 c10 c11 c12
    replace FR := Lib.hid (FR.out.step hb)
    clear hb
    have c00 : w3.cell? ⟨q, 0, none⟩ = some (.int .u32 wa) := FR.out.cell 0 0 rfl rfl rfl
    have c01 : w3.cell? ⟨q, 1, none⟩ = some (.int .u32 to) := FR.out.cell 0 1 rfl rfl rfl
    have c02 : w3.cell? ⟨q, 2, none⟩ = some (.slice A n c) := FR.out.cell 0 2 rfl rfl rfl
    have c10 : w3.cell? ⟨q + 1, 0, none⟩ = some (.int .u32 0) := FR.out.cell 1 0 rfl rfl rfl
    have f10 : w3.frozen? ⟨q + 1, 0, none⟩ = false := FR.out.frozen 1 0 rfl rfl
    have c11 : w3.cell? ⟨q + 1, 1, none⟩ = some (.int .u32 0) := FR.out.cell 1 1 rfl rfl rfl
    have f11 : w3.frozen? ⟨q + 1, 1, none⟩ = false := FR.out.frozen 1 1 rfl rfl
    have c12 : w3.cell? ⟨q + 1, 2, none⟩ = some (.slice none 0 0) := FR.out.cell 1 2 rfl rfl rfl
    have f12 : w3.frozen? ⟨q + 1, 2, none⟩ = false := FR.out.frozen 1 2 rfl rfl
    go_wp2
    have FZ : Fr w (((w3.setCell ⟨q + 1, 0, none⟩ (.int .u32 wa)).setCell ⟨q + 1, 1, none⟩ (.int .u32 to)).setCell ⟨q + 1, 2, none⟩ (.slice A n c)) q [.cells #[.int .u32 wa, .int .u32 to, .slice A n c] 25, .cells #[.int .u32 wa, .int .u32 to, .slice A n c] 25] := (((FR.out.set 1 0 rfl rfl (.int .u32 wa)).set 1 1 rfl rfl (.int .u32 to)).set 1 2 rfl rfl (.slice A n c))
    refine bodyPost_ret (res_css Try.results21 (by rfl) (FZ.load 1 rfl rfl Try.underlying25 (by kernel_rfl))) rfl ?_
    rw [HE.out]
    exact ⟨_, _, _, none, 0, 0, rfl, FZ.es RX.out, World.ownsRow_nil _ _ _ _, FZ.out, Or.inr rfl⟩
  · rw [hr] at RT
    replace RT := Lib.hid RT
    have HE := Lib.hid (show R = ((wa, wa, []), ws.map (·.2), 0) by rw [← hR]; unfold allN; exact if_neg (by rw [hr]; simp))
    clear hr hR hlen
    go_enter Try.func21, Try.ntmps21
    have c00 : v2.cell? ⟨q, 0, none⟩ = some (.int .u32 wa) := FR.out.cell 0 0 rfl rfl rfl
    have c01 : v2.cell? ⟨q, 1, none⟩ = some (.int .u32 to) := FR.out.cell 0 1 rfl rfl rfl
    have c02 : v2.cell? ⟨q, 2, none⟩ = some (.slice A n c) := FR.out.cell 0 2 rfl rfl rfl
    have c10 : v2.cell? ⟨q + 1, 0, none⟩ = some (.int .u32 0) := FR.out.cell 1 0 rfl rfl rfl
    have c11 : v2.cell? ⟨q + 1, 1, none⟩ = some (.int .u32 0) := FR.out.cell 1 1 rfl rfl rfl
    have c12 : v2.cell? ⟨q + 1, 2, none⟩ = some (.slice none 0 0) := FR.out.cell 1 2 rfl rfl rfl
    go_wp2_with fail
    refine ((RT.out _ (FR.out.es RX.out))).mono ?_
    rintro e w3 ⟨rfl, hb⟩
    clear c00 c01 c02 c10 c11 c12
    replace FR := Lib.hid (FR.out.step hb)
    clear hb
    have c00 : w3.cell? ⟨q, 0, none⟩ = some (.int .u32 wa) := FR.out.cell 0 0 rfl rfl rfl
    have c01 : w3.cell? ⟨q, 1, none⟩ = some (.int .u32 to) := FR.out.cell 0 1 rfl rfl rfl
    have c02 : w3.cell? ⟨q, 2, none⟩ = some (.slice A n c) := FR.out.cell 0 2 rfl rfl rfl
    have c10 : w3.cell? ⟨q + 1, 0, none⟩ = some (.int .u32 0) := FR.out.cell 1 0 rfl rfl rfl
    have c11 : w3.cell? ⟨q + 1, 1, none⟩ = some (.int .u32 0) := FR.out.cell 1 1 rfl rfl rfl
    have c12 : w3.cell? ⟨q + 1, 2, none⟩ = some (.slice none 0 0) := FR.out.cell 1 2 rfl rfl rfl
    go_wp2
    clear c00 c01 c02 c10 c11 c12
    clear hv1 hv2 z1 z2
    go_loopw [5, 6] (fun ov iv wr => ∃ (i : Nat), iv = .int .i64 (i : Int) ∧ i ≤ n ∧ lenV ov = i ∧ Hid (Fr w wr q [.cells #[.int .u32 wa, .int .u32 to, .slice A n c] 25, .cells #[.int .u32 0, .int .u32 0, .slice none 0 0] 25]) ∧ Hid (wr.ownsRow (q + 2) 3 1 ov i (intC ((ws.map (·.2)).take i)))) (fun _ iv _ => n - (intOf iv).toNat)
    case atStart => exact ⟨0, rfl, by omega, rfl, FR.out, World.ownsRow_nil _ _ _ _⟩
    case round =>
      clear FR
      obtain ⟨i, rfl, hi, hlv, FR, OW⟩ := hrel
      obtain ⟨C2, d2, rfl, hit⟩ := Es.of_own OW.out (intC_one _)
      clear hit hlv
      by_cases hlt : i < n
      · have c1 : decide ((i : Int) < (n : Int)) = true := by simpa using hlt
        have i0 : (0 : Int) ≤ (i : Int) := by omega
        have i1 : (i : Int) < (n : Int) := by omega
        obtain ⟨b, off, rfl, hb0, k0, k1⟩ := Wts.look (ws := ws) (FR.out.es RX.out) i hlt
        clear hb0 k0
        have htk : (ws.map (·.2)).take (i + 1) = (ws.map (·.2)).take i ++ [(wtAt ws i).2] := by rw [← List.map_take, take_wt (by have := HL.out; omega), List.map_append, List.map_take]; rfl
        obtain ⟨tb, htb⟩ : ∃ x, (wtAt ws i).2 = x := ⟨_, rfl⟩
        rw [htb] at k1 htk
        have hsz := FR.out.sz
        simp only [List.length_cons, List.length_nil] at hsz
        obtain ⟨A4, c4, w9, hap4, hown4, hbel4⟩ := eapp_lit (P := Try.prog) (ty := 39) (w0 := wr) (base := q + 2) (W := wr) Try.underlying39 HI.out HZ0.out HZ1.out HZ2.out rfl (by decide) OW.out (intC_one _) (intC [tb]) (intC_one _) (m := 1) rfl (by unfold maxLen; omega) (by omega) (Below.refl _ wr) hsz
        rw [← intC_app, ← htk] at hown4
        have FR9 := Lib.hid (show Fr w w9 q [.cells #[.int .u32 wa, .int .u32 to, .slice (some ⟨b, off, none⟩) n c] 25, .cells #[.int .u32 0, .int .u32 0, .slice none 0 0] 25] from ⟨fun k o hk => (hbel4.block (q + k) (by have : k < 2 := (List.getElem?_eq_some_iff.1 hk).1; omega)).trans (FR.out.blk k o hk), FR.out.bel.trans (hbel4.mono (by omega)), Nat.le_trans FR.out.sz hbel4.size, FR.out.q0⟩)
        have HO4 := Lib.hid hown4
        have c00 : wr.cell? ⟨q, 0, none⟩ = some (.int .u32 wa) := FR.out.cell 0 0 rfl rfl rfl
        have c01 : wr.cell? ⟨q, 1, none⟩ = some (.int .u32 to) := FR.out.cell 0 1 rfl rfl rfl
        have c02 : wr.cell? ⟨q, 2, none⟩ = some (.slice (some ⟨b, off, none⟩) n c) := FR.out.cell 0 2 rfl rfl rfl
        have d02 : w9.cell? ⟨q, 2, none⟩ = some (.slice (some ⟨b, off, none⟩) n c) := FR9.out.cell 0 2 rfl rfl rfl
        clear hown4 hbel4 OW htk htb
        replace hap4 : (Builtin.append_ #[39, 39] 39 #[_, .slice (some ⟨wr.heap.size, 0, none⟩) 1 1]).run Try.prog (wr.alloc (.cells #[.int .i64 tb] 3)) = _ := hap4
        go_wp2_with (at_builtin; refine eapp_run (by rfl) rfl rfl rfl hap4 ?_)
        go_roundw
        case rel => exact ⟨i + 1, by go_num, by omega, rfl, FR9.out, HO4.out⟩
        case measure => simp [intOf]; omega
      · have en : i = n := by omega
        have c1 : decide ((i : Int) < (n : Int)) = false := by simp; omega
        have c1n : decide (i < n) = false := by simp; omega
        have OWn := Lib.hid (show wr.ownsRow (q + 2) 3 1 (.slice C2 i d2) i (intC (ws.map (·.2))) by have h := OW.out; rw [List.take_of_length_le (by rw [List.length_map, HL.out]; omega)] at h; exact h)
        replace OW := OWn
        clear OWn en hlt hi
        have c00 : wr.cell? ⟨q, 0, none⟩ = some (.int .u32 wa) := FR.out.cell 0 0 rfl rfl rfl
        have f00 : wr.frozen? ⟨q, 0, none⟩ = false := FR.out.frozen 0 0 rfl rfl
        have c01 : wr.cell? ⟨q, 1, none⟩ = some (.int .u32 to) := FR.out.cell 0 1 rfl rfl rfl
        have f01 : wr.frozen? ⟨q, 1, none⟩ = false := FR.out.frozen 0 1 rfl rfl
        have c02 : wr.cell? ⟨q, 2, none⟩ = some (.slice A n c) := FR.out.cell 0 2 rfl rfl rfl
        have f02 : wr.frozen? ⟨q, 2, none⟩ = false := FR.out.frozen 0 2 rfl rfl
        have c10 : wr.cell? ⟨q + 1, 0, none⟩ = some (.int .u32 0) := FR.out.cell 1 0 rfl rfl rfl
        have f10 : wr.frozen? ⟨q + 1, 0, none⟩ = false := FR.out.frozen 1 0 rfl rfl
        have c11 : wr.cell? ⟨q + 1, 1, none⟩ = some (.int .u32 0) := FR.out.cell 1 1 rfl rfl rfl
        have f11 : wr.frozen? ⟨q + 1, 1, none⟩ = false := FR.out.frozen 1 1 rfl rfl
        have c12 : wr.cell? ⟨q + 1, 2, none⟩ = some (.slice none 0 0) := FR.out.cell 1 2 rfl rfl rfl
        have f12 : wr.frozen? ⟨q + 1, 2, none⟩ = false := FR.out.frozen 1 2 rfl rfl
        go_wp2
        have FZ : Fr w (((wr.setCell ⟨q + 1, 0, none⟩ (.int .u32 wa)).setCell ⟨q + 1, 1, none⟩ (.int .u32 wa)).setCell ⟨q + 1, 2, none⟩ (.slice none 0 0)) q [.cells #[.int .u32 wa, .int .u32 to, .slice A n c] 25, .cells #[.int .u32 wa, .int .u32 wa, .slice none 0 0] 25] := (((FR.out.set 1 0 rfl rfl (.int .u32 wa)).set 1 1 rfl rfl (.int .u32 wa)).set 1 2 rfl rfl (.slice none 0 0))
        refine bodyPost_ret (res_css Try.results21 (by rfl) (FZ.load 1 rfl rfl Try.underlying25 (by kernel_rfl))) rfl ?_
        rw [HE.out]
        have hrs := own_base (own_apart (own_apart (own_apart (OW.out) (k := q + 1) (o := 0) (u := .int .u32 wa) (by omega)) (k := q + 1) (o := 1) (u := .int .u32 wa) (by omega)) (k := q + 1) (o := 2) (u := .slice none 0 0) (by omega)) (show w.heap.size ≤ _ from by rw [hq]; omega)
        exact ⟨none, 0, 0, _, _, _, rfl, Es.nil _ _ _ _, hrs, FZ.out, Or.inl (World.ownsRow_nil _ _ _ _)⟩
theorem rng2n {w : World} {b o : Nat} {v0 v1 : Value} (h0 : w.cell? ⟨b, o, none⟩ = some v0) (h1 : w.cell? ⟨b, o + 1, none⟩ = some v1) : w.rangeAt b o [v0, v1] := by
  intro j v hj
  match j, hj with
  | 0, hj => simp at hj; subst hj; exact h0
  | 1, hj => simp at hj; subst hj; exact h1
  | j + 2, hj => simp at hj
set_option maxRecDepth 100000 in
set_option maxHeartbeats 16000000 in
theorem refOne11_any (A : Option Addr) (n c : Nat) (ws : List Wt) (wa to : Int) (w : World) (hx : Wts w A n c ws) (hn : n ≤ 16384) (hb : NB (wa, to, ws)) :
    Calls Try.prog 19 #[.agg #[.int .u32 wa, .int .u32 to, .slice A n c]] w (OGotN w A n c (oneN (wa, to, ws))) := by
  obtain ⟨i5, hi5, hz0, hz1, hz2⟩ := info_of infoWt
  have HI := Lib.hid hi5; have HZ0 := Lib.hid hz0; have HZ1 := Lib.hid hz1; have HZ2 := Lib.hid hz2
  clear hi5 hz0 hz1 hz2
  have hlen := hx.len
  have RX := Lib.hid hx
  have HL := Lib.hid hlen
  have RT := fun (W : World) (h : Wts W A n c ws) => refRight11_any A n c ws wa to W h hn hb
  obtain ⟨R, hR⟩ : ∃ R, oneN (wa, to, ws) = R := ⟨_, rfl⟩
  rw [hR]
  have ht0 := hb.t0; have ht1 := hb.t1
  clear hx hb
  obtain ⟨v1, hv1⟩ : ∃ W, w.alloc (.cells #[.int .u32 wa, .int .u32 to, .slice A n c] 25) = W := ⟨_, rfl⟩
  have fr1 : Fr w v1 w.heap.size [.cells #[.int .u32 wa, .int .u32 to, .slice A n c] 25] := hv1 ▸ Fr.first w _
  have z1 : v1.heap.size = w.heap.size + 1 := by rw [← hv1, Fr.size1]
  obtain ⟨v2, hv2⟩ : ∃ W, v1.alloc (.cells #[.int .u32 0, .int .u32 0, .slice none 0 0] 25) = W := ⟨_, rfl⟩
  have fr2 : Fr w v2 w.heap.size [.cells #[.int .u32 wa, .int .u32 to, .slice A n c] 25, .cells #[.int .u32 0, .int .u32 0, .slice none 0 0] 25] := hv2 ▸ fr1.more z1 _
  have z2 : v2.heap.size = w.heap.size + 2 := by rw [← hv2, Fr.size1, z1]
  generalize hq : w.heap.size = q at *
  have FR := Lib.hid fr2
  clear fr1 fr2
  cases hr : rightN (wa, to, ws)
  · rw [hr] at RT
    replace RT := Lib.hid RT
    have HE := Lib.hid (show R = ((wa, to, ws), 0, 1) by rw [← hR]; unfold oneN; rw [if_pos hr])
    clear hr hR hlen ht0 ht1
    go_enter Try.func19, Try.ntmps19
    have c00 : v2.cell? ⟨q, 0, none⟩ = some (.int .u32 wa) := FR.out.cell 0 0 rfl rfl rfl
    have c01 : v2.cell? ⟨q, 1, none⟩ = some (.int .u32 to) := FR.out.cell 0 1 rfl rfl rfl
    have c02 : v2.cell? ⟨q, 2, none⟩ = some (.slice A n c) := FR.out.cell 0 2 rfl rfl rfl
    have c10 : v2.cell? ⟨q + 1, 0, none⟩ = some (.int .u32 0) := FR.out.cell 1 0 rfl rfl rfl
    have c11 : v2.cell? ⟨q + 1, 1, none⟩ = some (.int .u32 0) := FR.out.cell 1 1 rfl rfl rfl
    have c12 : v2.cell? ⟨q + 1, 2, none⟩ = some (.slice none 0 0) := FR.out.cell 1 2 rfl rfl rfl
    go_wp2_with fail
    refine ((RT.out _ (FR.out.es RX.out))).mono ?_
    rintro e w3 ⟨rfl, hb⟩
    clear c00 c01 c02 c10 c11 c12
    replace FR := Lib.hid (FR.out.step hb)
    clear hb
    have c00 : w3.cell? ⟨q, 0, none⟩ = some (.int .u32 wa) := FR.out.cell 0 0 rfl rfl rfl
    have c01 : w3.cell? ⟨q, 1, none⟩ = some (.int .u32 to) := FR.out.cell 0 1 rfl rfl rfl
    have c02 : w3.cell? ⟨q, 2, none⟩ = some (.slice A n c) := FR.out.cell 0 2 rfl rfl rfl
    have c10 : w3.cell? ⟨q + 1, 0, none⟩ = some (.int .u32 0) := FR.out.cell 1 0 rfl rfl rfl
    have f10 : w3.frozen? ⟨q + 1, 0, none⟩ = false := FR.out.frozen 1 0 rfl rfl
    have c11 : w3.cell? ⟨q + 1, 1, none⟩ = some (.int .u32 0) := FR.out.cell 1 1 rfl rfl rfl
    have f11 : w3.frozen? ⟨q + 1, 1, none⟩ = false := FR.out.frozen 1 1 rfl rfl
    have c12 : w3.cell? ⟨q + 1, 2, none⟩ = some (.slice none 0 0) := FR.out.cell 1 2 rfl rfl rfl
    have f12 : w3.frozen? ⟨q + 1, 2, none⟩ = false := FR.out.frozen 1 2 rfl rfl
    go_wp2
    have FZ : Fr w (((w3.setCell ⟨q + 1, 0, none⟩ (.int .u32 wa)).setCell ⟨q + 1, 1, none⟩ (.int .u32 to)).setCell ⟨q + 1, 2, none⟩ (.slice A n c)) q [.cells #[.int .u32 wa, .int .u32 to, .slice A n c] 25, .cells #[.int .u32 wa, .int .u32 to, .slice A n c] 25] := (((FR.out.set 1 0 rfl rfl (.int .u32 wa)).set 1 1 rfl rfl (.int .u32 to)).set 1 2 rfl rfl (.slice A n c))
    refine bodyPost_ret (res_css Try.results19 (by rfl) (FZ.load 1 rfl rfl Try.underlying25 (by kernel_rfl))) rfl ?_
    rw [HE.out]
    exact ⟨_, _, _, rfl, FZ.es RX.out, FZ.out, Or.inr rfl⟩
  · rw [hr] at RT
    replace RT := Lib.hid RT
    have hE : R = if to = wa then ((wa, to, ws), 0, 7) else ((wa, next32 to, butT to ws), oneT to ws (-1), 0) := by rw [← hR]; unfold oneN; exact if_neg (by rw [hr]; simp)
    by_cases h1 : to = wa
    · have b1 : (to == wa) = true := by simp [h1]
      have HE := Lib.hid (show R = ((wa, to, ws), 0, 7) by rw [hE, if_pos h1])
      clear hE h1 hr hR hlen ht0 ht1
      go_enter Try.func19, Try.ntmps19
      have c00 : v2.cell? ⟨q, 0, none⟩ = some (.int .u32 wa) := FR.out.cell 0 0 rfl rfl rfl
      have c01 : v2.cell? ⟨q, 1, none⟩ = some (.int .u32 to) := FR.out.cell 0 1 rfl rfl rfl
      have c02 : v2.cell? ⟨q, 2, none⟩ = some (.slice A n c) := FR.out.cell 0 2 rfl rfl rfl
      have c10 : v2.cell? ⟨q + 1, 0, none⟩ = some (.int .u32 0) := FR.out.cell 1 0 rfl rfl rfl
      have c11 : v2.cell? ⟨q + 1, 1, none⟩ = some (.int .u32 0) := FR.out.cell 1 1 rfl rfl rfl
      have c12 : v2.cell? ⟨q + 1, 2, none⟩ = some (.slice none 0 0) := FR.out.cell 1 2 rfl rfl rfl
      go_wp2_with fail
      refine ((RT.out _ (FR.out.es RX.out))).mono ?_
      rintro e w3 ⟨rfl, hb⟩
      clear c00 c01 c02 c10 c11 c12
      replace FR := Lib.hid (FR.out.step hb)
      clear hb
      have c00 : w3.cell? ⟨q, 0, none⟩ = some (.int .u32 wa) := FR.out.cell 0 0 rfl rfl rfl
      have c01 : w3.cell? ⟨q, 1, none⟩ = some (.int .u32 to) := FR.out.cell 0 1 rfl rfl rfl
      have c02 : w3.cell? ⟨q, 2, none⟩ = some (.slice A n c) := FR.out.cell 0 2 rfl rfl rfl
      have c10 : w3.cell? ⟨q + 1, 0, none⟩ = some (.int .u32 0) := FR.out.cell 1 0 rfl rfl rfl
      have f10 : w3.frozen? ⟨q + 1, 0, none⟩ = false := FR.out.frozen 1 0 rfl rfl
      have c11 : w3.cell? ⟨q + 1, 1, none⟩ = some (.int .u32 0) := FR.out.cell 1 1 rfl rfl rfl
      have f11 : w3.frozen? ⟨q + 1, 1, none⟩ = false := FR.out.frozen 1 1 rfl rfl
      have c12 : w3.cell? ⟨q + 1, 2, none⟩ = some (.slice none 0 0) := FR.out.cell 1 2 rfl rfl rfl
      have f12 : w3.frozen? ⟨q + 1, 2, none⟩ = false := FR.out.frozen 1 2 rfl rfl
      go_wp2
      have FZ : Fr w (((w3.setCell ⟨q + 1, 0, none⟩ (.int .u32 wa)).setCell ⟨q + 1, 1, none⟩ (.int .u32 to)).setCell ⟨q + 1, 2, none⟩ (.slice A n c)) q [.cells #[.int .u32 wa, .int .u32 to, .slice A n c] 25, .cells #[.int .u32 wa, .int .u32 to, .slice A n c] 25] := (((FR.out.set 1 0 rfl rfl (.int .u32 wa)).set 1 1 rfl rfl (.int .u32 to)).set 1 2 rfl rfl (.slice A n c))
      refine bodyPost_ret (res_css Try.results19 (by rfl) (FZ.load 1 rfl rfl Try.underlying25 (by kernel_rfl))) rfl ?_
      rw [HE.out]
      exact ⟨_, _, _, rfl, FZ.es RX.out, FZ.out, Or.inr rfl⟩
    · have b1 : (to == wa) = false := by simp [h1]
      obtain ⟨nx, hnx⟩ : ∃ x, next32 to = x := ⟨_, rfl⟩
      have HE := Lib.hid (show R = ((wa, nx, butT to ws), oneT to ws (-1), 0) by rw [hE, if_neg h1, hnx])
      have hw1 : IntKind.u32.wrap (to + 1) = nx := by rw [← hnx, IntKind.wrap_u32]; unfold next32; omega
      clear hE h1 hr hR hlen hnx ht0 ht1
      go_enter Try.func19, Try.ntmps19
      have c00 : v2.cell? ⟨q, 0, none⟩ = some (.int .u32 wa) := FR.out.cell 0 0 rfl rfl rfl
      have c01 : v2.cell? ⟨q, 1, none⟩ = some (.int .u32 to) := FR.out.cell 0 1 rfl rfl rfl
      have c02 : v2.cell? ⟨q, 2, none⟩ = some (.slice A n c) := FR.out.cell 0 2 rfl rfl rfl
      have c10 : v2.cell? ⟨q + 1, 0, none⟩ = some (.int .u32 0) := FR.out.cell 1 0 rfl rfl rfl
      have c11 : v2.cell? ⟨q + 1, 1, none⟩ = some (.int .u32 0) := FR.out.cell 1 1 rfl rfl rfl
      have c12 : v2.cell? ⟨q + 1, 2, none⟩ = some (.slice none 0 0) := FR.out.cell 1 2 rfl rfl rfl
      go_wp2_with fail
      refine ((RT.out _ (FR.out.es RX.out))).mono ?_
      rintro e w3 ⟨rfl, hb⟩
      clear c00 c01 c02 c10 c11 c12
      replace FR := Lib.hid (FR.out.step hb)
      clear hb
      clear hv1 hv2 z1 z2
      have c00 : w3.cell? ⟨q, 0, none⟩ = some (.int .u32 wa) := FR.out.cell 0 0 rfl rfl rfl
      have c01 : w3.cell? ⟨q, 1, none⟩ = some (.int .u32 to) := FR.out.cell 0 1 rfl rfl rfl
      have c02 : w3.cell? ⟨q, 2, none⟩ = some (.slice A n c) := FR.out.cell 0 2 rfl rfl rfl
      go_wp2
      clear c00 c01 c02
      have gex := FR.out.sz
      simp only [List.length_cons, List.length_nil] at gex
      obtain ⟨w4, hw4⟩ : ∃ W, w3.alloc (.cells #[.int .u32 wa, .int .u32 nx, .slice none 0 0] 25) = W := ⟨_, rfl⟩
      have hb : Below w3.heap.size w3 w4 := hw4 ▸ (Below.refl _ _).alloc (Nat.le_refl _) _
      have hv : w4.heap[w3.heap.size]? = some (.cells #[.int .u32 wa, .int .u32 nx, .slice none 0 0] 25) := hw4 ▸ heap_alloc_new _ _
      replace FR := Lib.hid (FR.out.step hb)
      have Vx := Lib.hid hv
      generalize hsx : w3.heap.size = sx at *
      clear hb hv
      rw [hw4]
      have gx2 := gex
      clear gex
      go_loopw [6, 7] (fun tv iv wr => ∃ (i m d : Nat) (B : Option Addr), tv = .int .i64 (oneT to (ws.take i) (-1)) ∧ iv = .int .i64 (i : Int) ∧ i ≤ n ∧ m ≤ i ∧ Hid (Fr w wr q [.cells #[.int .u32 wa, .int .u32 to, .slice A n c] 25, .cells #[.int .u32 0, .int .u32 0, .slice none 0 0] 25]) ∧ Hid (wr.heap[sx]? = some (.cells #[.int .u32 wa, .int .u32 nx, .slice B m d] 25)) ∧ Hid (wr.ownsRow (q + 2) 53 2 (.slice B m d) m (wtC (butT to (ws.take i))))) (fun _ iv _ => n - (intOf iv).toNat)
      case atStart => exact ⟨0, 0, 0, none, rfl, rfl, by omega, by omega, FR.out, Vx.out, World.ownsRow_nil _ _ _ _⟩
      case round =>
        clear FR Vx
        obtain ⟨i, m, d, B, rfl, rfl, hi, hmi, FR, Vx, OW⟩ := hrel
        have gex := gx2
        obtain ⟨ot, hot⟩ : ∃ x, oneT to (ws.take i) (-1) = x := ⟨_, rfl⟩
        rw [hot]
        by_cases hlt : i < n
        · have c1 : decide ((i : Int) < (n : Int)) = true := by simpa using hlt
          have i0 : (0 : Int) ≤ (i : Int) := by omega
          have i1 : (i : Int) < (n : Int) := by omega
          obtain ⟨b, off, rfl, hbq, k0, k1⟩ := Wts.look (ws := ws) RX.out i hlt
          have hb0 : b < wr.heap.size := Nat.lt_of_lt_of_le hbq FR.out.out.size
          have K0 := k0; have K1 := k1
          replace k0 := (FR.out.out.cell (p := ⟨b, off + i * 2, none⟩) hbq).trans k0
          replace k1 := (FR.out.out.cell (p := ⟨b, off + i * 2 + 1, none⟩) hbq).trans k1
          have htw := take_wt (ws := ws) (i := i) (by have := HL.out; omega)
          have ha1 := oneT_add to (wtAt ws i) (ws.take i) (-1)
          have ha2 := butT_add to (wtAt ws i) (ws.take i)
          rw [← htw] at ha1 ha2
          obtain ⟨⟨ti, tb⟩, hti⟩ : ∃ x, wtAt ws i = x := ⟨_, rfl⟩
          rw [hti] at k0 k1 K0 K1 ha1 ha2
          simp only at k0 k1 K0 K1 ha1
          replace K0 := Lib.hid K0; replace K1 := Lib.hid K1
          rw [hot] at ha1
          clear htw hti
          by_cases h2 : ti = to
          · have c2 : (ti == to) = true := by simp [h2]
            have HA1 := Lib.hid (show oneT to (ws.take (i + 1)) (-1) = tb by rw [ha1, if_pos h2])
            have HA2 := Lib.hid (show butT to (ws.take (i + 1)) = butT to (ws.take i) by rw [ha2]; exact if_pos h2)
            clear ha1 ha2 h2 hot hbq
            have c00 : wr.cell? ⟨q, 0, none⟩ = some (.int .u32 wa) := FR.out.cell 0 0 rfl rfl rfl
            have c01 : wr.cell? ⟨q, 1, none⟩ = some (.int .u32 to) := FR.out.cell 0 1 rfl rfl rfl
            have c02 : wr.cell? ⟨q, 2, none⟩ = some (.slice (some ⟨b, off, none⟩) n c) := FR.out.cell 0 2 rfl rfl rfl
            have c10 : wr.cell? ⟨q + 1, 0, none⟩ = some (.int .u32 0) := FR.out.cell 1 0 rfl rfl rfl
            have c11 : wr.cell? ⟨q + 1, 1, none⟩ = some (.int .u32 0) := FR.out.cell 1 1 rfl rfl rfl
            have c12 : wr.cell? ⟨q + 1, 2, none⟩ = some (.slice none 0 0) := FR.out.cell 1 2 rfl rfl rfl
            have cx0 : wr.cell? ⟨sx, 0, none⟩ = some (.int .u32 wa) := (blk_cell Vx.out 0).trans rfl
            have cx1 : wr.cell? ⟨sx, 1, none⟩ = some (.int .u32 nx) := (blk_cell Vx.out 1).trans rfl
            have cx2 : wr.cell? ⟨sx, 2, none⟩ = some (.slice B m d) := (blk_cell Vx.out 2).trans rfl
            go_wp2
            go_quiet (fail)
            have FRd := Lib.hid (show Fr w (wr.drewN nq) q [.cells #[.int .u32 wa, .int .u32 to, .slice (some ⟨b, off, none⟩) n c] 25, .cells #[.int .u32 0, .int .u32 0, .slice none 0 0] 25] from ⟨FR.out.blk, bel_drewN FR.out.bel _, FR.out.sz, FR.out.q0⟩)
            have k1d : (wr.drewN nq).cell? ⟨b, off + i * 2 + 1, none⟩ = some (.int .i64 tb) := k1
            have e02 : (wr.drewN nq).cell? ⟨q, 2, none⟩ = some (.slice (some ⟨b, off, none⟩) n c) := c02
            go_wp2
            go_roundw
            case rel => exact ⟨i + 1, m, d, B, by rw [HA1.out], by go_num, by omega, by omega, FRd.out, Vx.out, by rw [HA2.out]; exact OW.out⟩
            case measure => simp [intOf]; omega
          · have c2 : (ti == to) = false := by simp [h2]
            have HA1 := Lib.hid (show oneT to (ws.take (i + 1)) (-1) = ot by rw [ha1, if_neg h2])
            have HA2 := Lib.hid (show butT to (ws.take (i + 1)) = butT to (ws.take i) ++ [(ti, tb)] by rw [ha2]; exact if_neg h2)
            clear ha1 ha2 h2 hot
            have HLTI := Lib.hid hlt
            clear hlt
            have c00 : wr.cell? ⟨q, 0, none⟩ = some (.int .u32 wa) := FR.out.cell 0 0 rfl rfl rfl
            have c01 : wr.cell? ⟨q, 1, none⟩ = some (.int .u32 to) := FR.out.cell 0 1 rfl rfl rfl
            have c02 : wr.cell? ⟨q, 2, none⟩ = some (.slice (some ⟨b, off, none⟩) n c) := FR.out.cell 0 2 rfl rfl rfl
            have c10 : wr.cell? ⟨q + 1, 0, none⟩ = some (.int .u32 0) := FR.out.cell 1 0 rfl rfl rfl
            have c11 : wr.cell? ⟨q + 1, 1, none⟩ = some (.int .u32 0) := FR.out.cell 1 1 rfl rfl rfl
            have c12 : wr.cell? ⟨q + 1, 2, none⟩ = some (.slice none 0 0) := FR.out.cell 1 2 rfl rfl rfl
            have cx0 : wr.cell? ⟨sx, 0, none⟩ = some (.int .u32 wa) := (blk_cell Vx.out 0).trans rfl
            have cx1 : wr.cell? ⟨sx, 1, none⟩ = some (.int .u32 nx) := (blk_cell Vx.out 1).trans rfl
            have cx2 : wr.cell? ⟨sx, 2, none⟩ = some (.slice B m d) := (blk_cell Vx.out 2).trans rfl
            go_wp2
            go_quiet (fail)
            clear c00 c01 c02 c10 c11 c12 cx0 cx1 cx2
            have hsz := FR.out.sz
            simp only [List.length_cons, List.length_nil] at hsz
            have FRd := Lib.hid (show Fr w (wr.drewN nq) q [.cells #[.int .u32 wa, .int .u32 to, .slice (some ⟨b, off, none⟩) n c] 25, .cells #[.int .u32 0, .int .u32 0, .slice none 0 0] 25] from ⟨FR.out.blk, bel_drewN FR.out.bel _, FR.out.sz, FR.out.q0⟩)
            have Vxd := Lib.hid (show (wr.drewN nq).heap[sx]? = some (.cells #[.int .u32 wa, .int .u32 nx, .slice B m d] 25) from Vx.out)
            have OWd := Lib.hid (show (wr.drewN nq).ownsRow (q + 2) 53 2 (.slice B m d) m (wtC (butT to (ws.take i))) from ⟨OW.out.1, OW.out.2⟩)
            have k0d : (wr.drewN nq).cell? ⟨b, off + i * 2, none⟩ = some (.int .u32 ti) := k0
            have k1d : (wr.drewN nq).cell? ⟨b, off + i * 2 + 1, none⟩ = some (.int .i64 tb) := k1
            have hbd : b < (wr.drewN nq).heap.size := hb0
            clear k0 k1 FR Vx OW hb0
            generalize wr.drewN nq = w5 at *
            have FR := FRd; have Vx := Vxd; have OW := OWd
            clear FRd Vxd OWd
            have hqz : q < w5.heap.size := by have := FR.out.sz; simp only [List.length_cons, List.length_nil] at this; omega
            have c00 : w5.cell? ⟨q, 0, none⟩ = some (.int .u32 wa) := FR.out.cell 0 0 rfl rfl rfl
            have c01 : w5.cell? ⟨q, 1, none⟩ = some (.int .u32 to) := FR.out.cell 0 1 rfl rfl rfl
            have c02 : w5.cell? ⟨q, 2, none⟩ = some (.slice (some ⟨b, off, none⟩) n c) := FR.out.cell 0 2 rfl rfl rfl
            have cx0 : w5.cell? ⟨sx, 0, none⟩ = some (.int .u32 wa) := (blk_cell Vx.out 0).trans rfl
            have cx1 : w5.cell? ⟨sx, 1, none⟩ = some (.int .u32 nx) := (blk_cell Vx.out 1).trans rfl
            have cx2 : w5.cell? ⟨sx, 2, none⟩ = some (.slice B m d) := (blk_cell Vx.out 2).trans rfl
            have hox := own_ne OW.out Vx.out (by decide)
            have hqx : q ≠ sx := by omega
            have zc00 : w5.cell? ⟨q, 0, none⟩ = some (.int .u32 wa) := FR.out.cell 0 0 rfl rfl rfl
            have zf00 : w5.frozen? ⟨q, 0, none⟩ = false := FR.out.frozen 0 0 rfl rfl
            have zc01 : w5.cell? ⟨q, 1, none⟩ = some (.int .u32 to) := FR.out.cell 0 1 rfl rfl rfl
            have zf01 : w5.frozen? ⟨q, 1, none⟩ = false := FR.out.frozen 0 1 rfl rfl
            have zc02 : w5.cell? ⟨q, 2, none⟩ = some (.slice (some ⟨b, off, none⟩) n c) := FR.out.cell 0 2 rfl rfl rfl
            have zf02 : w5.frozen? ⟨q, 2, none⟩ = false := FR.out.frozen 0 2 rfl rfl
            have zc10 : w5.cell? ⟨q + 1, 0, none⟩ = some (.int .u32 0) := FR.out.cell 1 0 rfl rfl rfl
            have zf10 : w5.frozen? ⟨q + 1, 0, none⟩ = false := FR.out.frozen 1 0 rfl rfl
            have zc11 : w5.cell? ⟨q + 1, 1, none⟩ = some (.int .u32 0) := FR.out.cell 1 1 rfl rfl rfl
            have zf11 : w5.frozen? ⟨q + 1, 1, none⟩ = false := FR.out.frozen 1 1 rfl rfl
            have zc12 : w5.cell? ⟨q + 1, 2, none⟩ = some (.slice none 0 0) := FR.out.cell 1 2 rfl rfl rfl
            have zf12 : w5.frozen? ⟨q + 1, 2, none⟩ = false := FR.out.frozen 1 2 rfl rfl
            have zcx0 : w5.cell? ⟨sx, 0, none⟩ = some (.int .u32 wa) := (blk_cell Vx.out 0).trans rfl
            have zfx0 : w5.frozen? ⟨sx, 0, none⟩ = false := blk_frozen Vx.out 0
            have zcx1 : w5.cell? ⟨sx, 1, none⟩ = some (.int .u32 nx) := (blk_cell Vx.out 1).trans rfl
            have zfx1 : w5.frozen? ⟨sx, 1, none⟩ = false := blk_frozen Vx.out 1
            have zcx2 : w5.cell? ⟨sx, 2, none⟩ = some (.slice B m d) := (blk_cell Vx.out 2).trans rfl
            have zfx2 : w5.frozen? ⟨sx, 2, none⟩ = false := blk_frozen Vx.out 2
            clear hbd hqz k0d k1d
            go_wp2
            refine wp_region_noPanic ?_
            refine wp_region_held_drew (S := (fun wv => Hid (Fr w wv q [.cells #[.int .u32 wa, .int .u32 to, .slice (some ⟨b, off, none⟩) n c] 25, .cells #[.int .u32 0, .int .u32 0, .slice none 0 0] 25]))) (by kernel_rfl) (Lib.hid FR.out.drew) (fun hS => ?_)
            refine wpAnyH_take (i := 0) (oi := ⟨some 46, .fieldAddr 25 (.tmp 5) 2, 0, "ref.go:80", #[], none⟩) (v := ?_) rfl (by kernel_rfl) (by kernel_rfl) (by kernel_rfl) (fun _ _ _ h => h) (Or.inl ⟨by rfl, ?_⟩) hS ?_
            rotate_left
            · intro wv _; go_simp; try with_reducible rfl
            try simp only [Act.put, List.setIfInBounds_toArray, List.set_cons_zero, List.set_cons_succ]
            refine wpAnyH_take (i := 2) (oi := ⟨some 48, .fieldAddr 25 (.tmp 1) 2, 0, "ref.go:80", #[], none⟩) (v := ?_) rfl (by kernel_rfl) (by kernel_rfl) (by kernel_rfl) (fun _ _ _ h => h) (Or.inl ⟨by rfl, ?_⟩) hS ?_
            rotate_left
            · intro wv _; go_simp; try with_reducible rfl
            try simp only [Act.put, List.setIfInBounds_toArray, List.set_cons_zero, List.set_cons_succ]
            refine wpAnyH_take (i := 3) (oi := ⟨some 49, .load 23 (.tmp 48), 23, "ref.go:80", #[⟨2, .data⟩], none⟩) (v := ?_) rfl (by kernel_rfl) (by kernel_rfl) (by kernel_rfl) (fun _ _ _ h => h) (Or.inl ⟨by rfl, ?_⟩) hS ?_
            rotate_left
            · intro wv hS; have hrun := (show wv.cell? ⟨q, 2, none⟩ = some (.slice (some ⟨b, off, none⟩) n c) from hS.out.cell 0 2 rfl rfl rfl); go_simp; try with_reducible rfl
            try simp only [Act.put, List.setIfInBounds_toArray, List.set_cons_zero, List.set_cons_succ]
            refine wpAnyH_take (i := 4) (oi := ⟨some 50, .move (.tmp 7), 3, "ref.go:80", #[], none⟩) (v := ?_) rfl (by kernel_rfl) (by kernel_rfl) (by kernel_rfl) (fun _ _ _ h => h) (Or.inl ⟨by rfl, ?_⟩) hS ?_
            rotate_left
            · intro wv _; go_simp; try with_reducible rfl
            try simp only [Act.put, List.setIfInBounds_toArray, List.set_cons_zero, List.set_cons_succ]
            refine wpAnyH_take (i := 5) (oi := ⟨some 51, .indexAddr 23 (.tmp 49) (.tmp 50), 0, "ref.go:80", #[⟨3, .data⟩, ⟨4, .data⟩], none⟩) (v := ?_) rfl (by kernel_rfl) (by kernel_rfl) (by kernel_rfl) (fun _ _ _ h => h) (Or.inl ⟨by rfl, ?_⟩) hS ?_
            rotate_left
            · intro wv _; go_simp; try with_reducible rfl
            try simp only [Act.put, List.setIfInBounds_toArray, List.set_cons_zero, List.set_cons_succ]
            refine wpAnyH_take (i := 6) (oi := ⟨some 52, .load 53 (.tmp 51), 53, "ref.go:80", #[⟨5, .data⟩], none⟩) (v := .agg (([.int .u32 ti, .int .i64 tb] : List Value)).toArray) rfl (by kernel_rfl) (by kernel_rfl) (by kernel_rfl) (fun _ _ _ h => h) (yieldsIf_load_mid (by rfl) _ _ (by rfl) (b) (off + i * 2) (by rfl) (([.int .u32 ti, .int .i64 tb] : List Value)) _ (fun wv hS => rng2n ((hS.out.out.cell (p := ⟨b, off + i * 2, none⟩) hbq).trans K0.out) ((hS.out.out.cell (p := ⟨b, off + i * 2 + 1, none⟩) hbq).trans K1.out)) Try.underlying53 (by rfl) (by kernel_rfl)) hS ?_
            try simp only [Act.put, List.setIfInBounds_toArray, List.set_cons_zero, List.set_cons_succ]
            refine wpAnyH_ready (rs := [1, 7]) (by kernel_rfl) (by simp) (AllReadyH.cons (o := ⟨some 47, .load 23 (.tmp 46), 23, "ref.go:80", #[⟨0, .data⟩], none⟩) rfl (fun K hK => ?_) (AllReadyH.cons (o := ⟨some 53, .buildSlice 23 1 #[(0, .tmp 52)], 23, "ref.go:80", #[⟨6, .data⟩], none⟩) rfl (fun K hK => ?_) AllReadyH.nil))
            ·
             go_simp
             skip
             go_wp2_with fail
             refine Shut.out hK _ _ hS (fun _ => ?_)
             clear hK K
             try simp only [Act.put, List.setIfInBounds_toArray, List.set_cons_zero, List.set_cons_succ]
             refine wpAnyH_ready (rs := [7]) (by kernel_rfl) (by simp) (AllReadyH.cons (o := ⟨some 53, .buildSlice 23 1 #[(0, .tmp 52)], 23, "ref.go:80", #[⟨6, .data⟩], none⟩) rfl (fun K hK => ?_) AllReadyH.nil)
             go_simp
             have bd : Below w5.heap.size w5 (w5.alloc (.cells #[.int .u32 ti, .int .i64 tb] 53)) := (Below.refl _ _).alloc (Nat.le_refl _) _
             have VL : (w5.alloc (.cells #[.int .u32 ti, .int .i64 tb] 53)).heap[w5.heap.size]? = some (.cells #[.int .u32 ti, .int .i64 tb] 53) := heap_alloc_new _ _
             replace FR := Lib.hid (FR.out.step bd)
             replace Vx := Lib.hid (blk_below Vx.out bd (blk_lt Vx.out))
             replace OW := Lib.hid (own_below OW.out bd)
             clear bd
             generalize w5.alloc (.cells #[.int .u32 ti, .int .i64 tb] 53) = wl at *
             generalize hsl : w5.heap.size = sl at *
             have cu2 : wl.cell? ⟨sx, 2, none⟩ = some (.slice B m d) := (blk_cell Vx.out 2).trans rfl
             have cp2 : wl.frozen? ⟨sx, 2, none⟩ = false := blk_frozen Vx.out 2
             replace hS := Lib.hid FR.out.drew
             refine Shut.out hK _ _ hS (fun _ => ?_)
             clear hK K
             try simp only [Act.put, List.setIfInBounds_toArray, List.set_cons_zero, List.set_cons_succ]
             refine wpAnyH_ready (rs := [8]) (by kernel_rfl) (by simp) (AllReadyH.cons (o := ⟨some 54, .call { callee := .builtin .append, args := #[.tmp 47, .tmp 53], argTypes := #[23, 23] }, 23, "ref.go:80", #[⟨1, .data⟩, ⟨7, .data⟩], none⟩) rfl (fun K hK => ?_) AllReadyH.nil)
             have OWd : wl.drew.ownsRow (q + 2) 53 2 (.slice B m d) m (wtC (butT to (ws.take i))) := ⟨OW.out.1, OW.out.2⟩
             have VLd : wl.drew.heap[sl]? = some (.cells #[.int .u32 ti, .int .i64 tb] 53) := VL
             obtain ⟨v9, w9, hap, hown, hgr, hvk⟩ := eapp_own (P := Try.prog) wl.drew (q + 2) 23 23 53 i5 _ 2 16 Try.underlying23 HI.out HZ0.out HZ1.out HZ2.out rfl (by decide) (.slice B m d) m _ OWd (some ⟨sl, 0, none⟩) 1 1 (wtC [(ti, tb)]) (lit_wt VLd) (by unfold maxLen; omega) (by omega) (by have := FR.out.sz; simp only [List.length_cons, List.length_nil] at this; exact this)
             refine op_app_run7 (by rfl) rfl rfl rfl hap ?_
             have hnk : ∀ k, (Value.slice B m d).ownBlock = some k → q + 2 ≤ k := fun k hk => (OW.out.lt k hk).1
             have FRd := (show Fr w wl.drew q [.cells #[.int .u32 wa, .int .u32 to, .slice (some ⟨b, off, none⟩) n c] 25, .cells #[.int .u32 0, .int .u32 0, .slice none 0 0] 25] from FR.out.drew).grown hgr (fun k hk => by have := hnk k hk; simp only [List.length_cons, List.length_nil]; omega)
             have Vxd := blk_grown (show wl.drew.heap[sx]? = _ from Vx.out) hgr (fun k hk e => hox (by rw [hk, e]))
             obtain ⟨B9, d9, hv9, _⟩ := Es.of_own hown (by intro u hu; rcases List.mem_append.1 hu with hu | hu; exact wtC_one _ u hu; exact wtC_one _ u hu)
             subst hv9
             rw [← wtC_app] at hown
             replace FR := Lib.hid FRd; replace Vx := Lib.hid Vxd; replace OW := Lib.hid hown
             clear hap hown hgr hnk hvk VL FRd Vxd OWd VLd
             have ct2 : w9.cell? ⟨sx, 2, none⟩ = some (.slice B m d) := (blk_cell Vx.out 2).trans rfl
             have cf2 : w9.frozen? ⟨sx, 2, none⟩ = false := blk_frozen Vx.out 2
             replace hS := FR
             refine Shut.out hK _ _ hS (fun _ => ?_)
             clear hK K
             try simp only [Act.put, List.setIfInBounds_toArray, List.set_cons_zero, List.set_cons_succ]
             refine wpAnyH_take (i := 9) (oi := ⟨some 55, .fieldAddr 25 (.tmp 5) 2, 0, "ref.go:80", #[⟨0, .phase⟩, ⟨1, .phase⟩, ⟨2, .phase⟩, ⟨3, .phase⟩, ⟨4, .phase⟩, ⟨5, .phase⟩, ⟨6, .phase⟩, ⟨7, .phase⟩, ⟨8, .phase⟩], none⟩) (v := ?_) rfl (by kernel_rfl) (by kernel_rfl) (by kernel_rfl) (fun _ _ _ h => h) (Or.inl ⟨by rfl, ?_⟩) hS ?_
             rotate_left
             · intro wv _; go_simp; try with_reducible rfl
             try simp only [Act.put, List.setIfInBounds_toArray, List.set_cons_zero, List.set_cons_succ]
             refine wpAnyH_ready (rs := [10]) (by kernel_rfl) (by simp) (AllReadyH.cons (o := ⟨none, .store 23 (.tmp 55) (.tmp 54), 0, "ref.go:80", #[⟨9, .data⟩, ⟨8, .data⟩, ⟨8, .chain⟩, ⟨0, .phase⟩, ⟨1, .phase⟩, ⟨2, .phase⟩, ⟨3, .phase⟩, ⟨4, .phase⟩, ⟨5, .phase⟩, ⟨6, .phase⟩, ⟨7, .phase⟩, ⟨8, .phase⟩], none⟩) rfl (fun K hK => ?_) AllReadyH.nil)
             go_simp
             have hoz := own_ne OW.out Vx.out (by decide)
             have Vx2 := blk_set (j := 2) Vx.out (.slice B9 (m + 1) d9)
             have FR2 := FR.out.other (b := sx) (j := 2) (by simp only [List.length_cons, List.length_nil]; omega) (.slice B9 (m + 1) d9)
             have OW2 := own_other OW.out (k := sx) (o := 2) (u := .slice B9 (m + 1) d9) hoz
             clear FR Vx OW hoz ct2 cf2 hS
             generalize w9.setCell ⟨sx, 2, none⟩ (.slice B9 (m + 1) d9) = wz at *
             have FR := Lib.hid FR2; have Vx := Lib.hid Vx2; have OW := Lib.hid OW2
             clear FR2 Vx2 OW2
             have hS := FR
             refine Shut.out hK _ _ hS (fun _ => ?_)
             clear hK K
             try simp only [Act.put, List.setIfInBounds_toArray, List.set_cons_zero, List.set_cons_succ]
             refine wpAnyH_done (by kernel_rfl) ?_ _
             refine NoPanic.normal ?_
             go_wp2
             go_roundw
             case rel => exact ⟨i + 1, m + 1, d9, B9, by rw [HA1.out], by go_num, by have := HLTI.out; omega, by omega, FR.out, Vx.out, by rw [HA2.out]; exact OW.out⟩
             case measure => have := HLTI.out; simp [intOf]; omega
            ·
             go_simp
             have bd : Below w5.heap.size w5 (w5.alloc (.cells #[.int .u32 ti, .int .i64 tb] 53)) := (Below.refl _ _).alloc (Nat.le_refl _) _
             have VL : (w5.alloc (.cells #[.int .u32 ti, .int .i64 tb] 53)).heap[w5.heap.size]? = some (.cells #[.int .u32 ti, .int .i64 tb] 53) := heap_alloc_new _ _
             replace FR := Lib.hid (FR.out.step bd)
             replace Vx := Lib.hid (blk_below Vx.out bd (blk_lt Vx.out))
             replace OW := Lib.hid (own_below OW.out bd)
             clear bd
             generalize w5.alloc (.cells #[.int .u32 ti, .int .i64 tb] 53) = wl at *
             generalize hsl : w5.heap.size = sl at *
             have cu2 : wl.cell? ⟨sx, 2, none⟩ = some (.slice B m d) := (blk_cell Vx.out 2).trans rfl
             have cp2 : wl.frozen? ⟨sx, 2, none⟩ = false := blk_frozen Vx.out 2
             replace hS := Lib.hid FR.out.drew
             refine Shut.out hK _ _ hS (fun _ => ?_)
             clear hK K
             try simp only [Act.put, List.setIfInBounds_toArray, List.set_cons_zero, List.set_cons_succ]
             refine wpAnyH_ready (rs := [1]) (by kernel_rfl) (by simp) (AllReadyH.cons (o := ⟨some 47, .load 23 (.tmp 46), 23, "ref.go:80", #[⟨0, .data⟩], none⟩) rfl (fun K hK => ?_) AllReadyH.nil)
             go_simp
             skip
             go_wp2_with fail
             refine Shut.out hK _ _ hS (fun _ => ?_)
             clear hK K
             try simp only [Act.put, List.setIfInBounds_toArray, List.set_cons_zero, List.set_cons_succ]
             refine wpAnyH_ready (rs := [8]) (by kernel_rfl) (by simp) (AllReadyH.cons (o := ⟨some 54, .call { callee := .builtin .append, args := #[.tmp 47, .tmp 53], argTypes := #[23, 23] }, 23, "ref.go:80", #[⟨1, .data⟩, ⟨7, .data⟩], none⟩) rfl (fun K hK => ?_) AllReadyH.nil)
             have OWd : wl.drew.ownsRow (q + 2) 53 2 (.slice B m d) m (wtC (butT to (ws.take i))) := ⟨OW.out.1, OW.out.2⟩
             have VLd : wl.drew.heap[sl]? = some (.cells #[.int .u32 ti, .int .i64 tb] 53) := VL
             obtain ⟨v9, w9, hap, hown, hgr, hvk⟩ := eapp_own (P := Try.prog) wl.drew (q + 2) 23 23 53 i5 _ 2 16 Try.underlying23 HI.out HZ0.out HZ1.out HZ2.out rfl (by decide) (.slice B m d) m _ OWd (some ⟨sl, 0, none⟩) 1 1 (wtC [(ti, tb)]) (lit_wt VLd) (by unfold maxLen; omega) (by omega) (by have := FR.out.sz; simp only [List.length_cons, List.length_nil] at this; exact this)
             refine op_app_run7 (by rfl) rfl rfl rfl hap ?_
             have hnk : ∀ k, (Value.slice B m d).ownBlock = some k → q + 2 ≤ k := fun k hk => (OW.out.lt k hk).1
             have FRd := (show Fr w wl.drew q [.cells #[.int .u32 wa, .int .u32 to, .slice (some ⟨b, off, none⟩) n c] 25, .cells #[.int .u32 0, .int .u32 0, .slice none 0 0] 25] from FR.out.drew).grown hgr (fun k hk => by have := hnk k hk; simp only [List.length_cons, List.length_nil]; omega)
             have Vxd := blk_grown (show wl.drew.heap[sx]? = _ from Vx.out) hgr (fun k hk e => hox (by rw [hk, e]))
             obtain ⟨B9, d9, hv9, _⟩ := Es.of_own hown (by intro u hu; rcases List.mem_append.1 hu with hu | hu; exact wtC_one _ u hu; exact wtC_one _ u hu)
             subst hv9
             rw [← wtC_app] at hown
             replace FR := Lib.hid FRd; replace Vx := Lib.hid Vxd; replace OW := Lib.hid hown
             clear hap hown hgr hnk hvk VL FRd Vxd OWd VLd
             have ct2 : w9.cell? ⟨sx, 2, none⟩ = some (.slice B m d) := (blk_cell Vx.out 2).trans rfl
             have cf2 : w9.frozen? ⟨sx, 2, none⟩ = false := blk_frozen Vx.out 2
             replace hS := FR
             refine Shut.out hK _ _ hS (fun _ => ?_)
             clear hK K
             try simp only [Act.put, List.setIfInBounds_toArray, List.set_cons_zero, List.set_cons_succ]
             refine wpAnyH_take (i := 9) (oi := ⟨some 55, .fieldAddr 25 (.tmp 5) 2, 0, "ref.go:80", #[⟨0, .phase⟩, ⟨1, .phase⟩, ⟨2, .phase⟩, ⟨3, .phase⟩, ⟨4, .phase⟩, ⟨5, .phase⟩, ⟨6, .phase⟩, ⟨7, .phase⟩, ⟨8, .phase⟩], none⟩) (v := ?_) rfl (by kernel_rfl) (by kernel_rfl) (by kernel_rfl) (fun _ _ _ h => h) (Or.inl ⟨by rfl, ?_⟩) hS ?_
             rotate_left
             · intro wv _; go_simp; try with_reducible rfl
             try simp only [Act.put, List.setIfInBounds_toArray, List.set_cons_zero, List.set_cons_succ]
             refine wpAnyH_ready (rs := [10]) (by kernel_rfl) (by simp) (AllReadyH.cons (o := ⟨none, .store 23 (.tmp 55) (.tmp 54), 0, "ref.go:80", #[⟨9, .data⟩, ⟨8, .data⟩, ⟨8, .chain⟩, ⟨0, .phase⟩, ⟨1, .phase⟩, ⟨2, .phase⟩, ⟨3, .phase⟩, ⟨4, .phase⟩, ⟨5, .phase⟩, ⟨6, .phase⟩, ⟨7, .phase⟩, ⟨8, .phase⟩], none⟩) rfl (fun K hK => ?_) AllReadyH.nil)
             go_simp
             have hoz := own_ne OW.out Vx.out (by decide)
             have Vx2 := blk_set (j := 2) Vx.out (.slice B9 (m + 1) d9)
             have FR2 := FR.out.other (b := sx) (j := 2) (by simp only [List.length_cons, List.length_nil]; omega) (.slice B9 (m + 1) d9)
             have OW2 := own_other OW.out (k := sx) (o := 2) (u := .slice B9 (m + 1) d9) hoz
             clear FR Vx OW hoz ct2 cf2 hS
             generalize w9.setCell ⟨sx, 2, none⟩ (.slice B9 (m + 1) d9) = wz at *
             have FR := Lib.hid FR2; have Vx := Lib.hid Vx2; have OW := Lib.hid OW2
             clear FR2 Vx2 OW2
             have hS := FR
             refine Shut.out hK _ _ hS (fun _ => ?_)
             clear hK K
             try simp only [Act.put, List.setIfInBounds_toArray, List.set_cons_zero, List.set_cons_succ]
             refine wpAnyH_done (by kernel_rfl) ?_ _
             refine NoPanic.normal ?_
             go_wp2
             go_roundw
             case rel => exact ⟨i + 1, m + 1, d9, B9, by rw [HA1.out], by go_num, by have := HLTI.out; omega, by omega, FR.out, Vx.out, by rw [HA2.out]; exact OW.out⟩
             case measure => have := HLTI.out; simp [intOf]; omega
        · have en : i = n := by omega
          have c1 : decide ((i : Int) < (n : Int)) = false := by simp; omega
          have c1n : decide (i < n) = false := by simp; omega
          have htake : ws.take i = ws := List.take_of_length_le (by rw [HL.out]; omega)
          rw [htake] at hot OW
          have HE2 := Lib.hid (show R = ((wa, nx, butT to ws), ot, 0) by rw [HE.out, hot])
          clear en hlt hi htake hot
          have c00 : wr.cell? ⟨q, 0, none⟩ = some (.int .u32 wa) := FR.out.cell 0 0 rfl rfl rfl
          have f00 : wr.frozen? ⟨q, 0, none⟩ = false := FR.out.frozen 0 0 rfl rfl
          have c01 : wr.cell? ⟨q, 1, none⟩ = some (.int .u32 to) := FR.out.cell 0 1 rfl rfl rfl
          have f01 : wr.frozen? ⟨q, 1, none⟩ = false := FR.out.frozen 0 1 rfl rfl
          have c02 : wr.cell? ⟨q, 2, none⟩ = some (.slice A n c) := FR.out.cell 0 2 rfl rfl rfl
          have f02 : wr.frozen? ⟨q, 2, none⟩ = false := FR.out.frozen 0 2 rfl rfl
          have c10 : wr.cell? ⟨q + 1, 0, none⟩ = some (.int .u32 0) := FR.out.cell 1 0 rfl rfl rfl
          have f10 : wr.frozen? ⟨q + 1, 0, none⟩ = false := FR.out.frozen 1 0 rfl rfl
          have c11 : wr.cell? ⟨q + 1, 1, none⟩ = some (.int .u32 0) := FR.out.cell 1 1 rfl rfl rfl
          have f11 : wr.frozen? ⟨q + 1, 1, none⟩ = false := FR.out.frozen 1 1 rfl rfl
          have c12 : wr.cell? ⟨q + 1, 2, none⟩ = some (.slice none 0 0) := FR.out.cell 1 2 rfl rfl rfl
          have f12 : wr.frozen? ⟨q + 1, 2, none⟩ = false := FR.out.frozen 1 2 rfl rfl
          have cx0 : wr.cell? ⟨sx, 0, none⟩ = some (.int .u32 wa) := (blk_cell Vx.out 0).trans rfl
          have fx0 : wr.frozen? ⟨sx, 0, none⟩ = false := blk_frozen Vx.out 0
          have cx1 : wr.cell? ⟨sx, 1, none⟩ = some (.int .u32 nx) := (blk_cell Vx.out 1).trans rfl
          have fx1 : wr.frozen? ⟨sx, 1, none⟩ = false := blk_frozen Vx.out 1
          have cx2 : wr.cell? ⟨sx, 2, none⟩ = some (.slice B m d) := (blk_cell Vx.out 2).trans rfl
          have fx2 : wr.frozen? ⟨sx, 2, none⟩ = false := blk_frozen Vx.out 2
          go_wp2
          have FZ : Fr w (((wr.setCell ⟨q + 1, 0, none⟩ (.int .u32 wa)).setCell ⟨q + 1, 1, none⟩ (.int .u32 nx)).setCell ⟨q + 1, 2, none⟩ (.slice B m d)) q [.cells #[.int .u32 wa, .int .u32 to, .slice A n c] 25, .cells #[.int .u32 wa, .int .u32 nx, .slice B m d] 25] := (((FR.out.set 1 0 rfl rfl (.int .u32 wa)).set 1 1 rfl rfl (.int .u32 nx)).set 1 2 rfl rfl (.slice B m d))
          refine bodyPost_ret (res_css Try.results19 (by rfl) (FZ.load 1 rfl rfl Try.underlying25 (by kernel_rfl))) rfl ?_
          rw [HE2.out]
          have hrs := own_base (own_apart (own_apart (own_apart (OW.out) (k := q + 1) (o := 0) (u := .int .u32 wa) (by omega)) (k := q + 1) (o := 1) (u := .int .u32 nx) (by omega)) (k := q + 1) (o := 2) (u := .slice B m d) (by omega)) (show w.heap.size ≤ _ from by rw [hq]; omega)
          exact ⟨_, _, _, rfl, wts_own hrs, FZ.out, Or.inl hrs⟩
end Go.Proofs.Ytjpgmkbcjedhfaa
