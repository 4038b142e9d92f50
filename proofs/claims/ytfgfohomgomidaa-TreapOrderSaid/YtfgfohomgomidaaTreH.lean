/- What the document's own Insert, Delete and Hang of layer 9 answer; for slices of up to 16384 nodes. -/
import Derived.Test.YtfgfohomgomidaaTreF
namespace Go.Proofs.Ytfgfohomgomidaa
set_option linter.unusedVariables false
set_option linter.unusedSimpArgs false
open Go.RowKit

/-- a treap, and what was wrong: the nodes are the call's own, or what was handed in. -/
def TGot (w : World) (A : Option Addr) (n c : Nat) (r : Trp × Int) (e : Ending) (w' : World) : Prop :=
  ∃ B m d, e = .returned (.tuple #[.agg #[.slice B m d, .int .i64 r.1.2.1, .int .i64 r.1.2.2], .int .i64 r.2]) ∧ Ns w' B m d r.1.1 ∧ Below w.heap.size w w' ∧ (w'.ownsRow w.heap.size 52 6 (.slice B m d) m (ndC r.1.1) ∨ Value.slice B m d = .slice A n c)
/-- with a place. -/
def IGot (w : World) (A : Option Addr) (n c : Nat) (r : Trp × Int × Int) (e : Ending) (w' : World) : Prop :=
  ∃ B m d, e = .returned (.tuple #[.agg #[.slice B m d, .int .i64 r.1.2.1, .int .i64 r.1.2.2], .int .i64 r.2.1, .int .i64 r.2.2]) ∧ Ns w' B m d r.1.1 ∧ Below w.heap.size w w' ∧ (w'.ownsRow w.heap.size 52 6 (.slice B m d) m (ndC r.1.1) ∨ Value.slice B m d = .slice A n c)
theorem ndC_q : ∀ (ns : List Nd) (i : Nat) (h t : Int), i < ns.length → ndC (ns.set i { ndAt ns i with h := h, t := t }) = ((ndC ns).set (i * 6 + 4) (.int .i64 h)).set (i * 6 + 5) (.int .i64 t)
  | [], i, h, t, hl => by simp at hl
  | y :: ns, 0, h, t, _ => rfl
  | y :: ns, i + 1, h, t, hl => by
    have ih := ndC_q ns i h t (by simpa using hl)
    rw [ndAt_cons, show (i + 1) * 6 + 4 = i * 6 + 4 + 6 by omega, show (i + 1) * 6 + 5 = i * 6 + 5 + 6 by omega]
    simp only [List.set_cons_succ, ndC]
    rw [ih]
theorem queue_neq (a b c d : Int) (W : World) : (binOp .neq 43 (.agg #[.int .i64 a, .int .i64 b]) (.agg #[.int .i64 c, .int .i64 d])).run Try.prog W = .ok (.bool (decide ((a, b) ≠ (c, d)))) W := by
  have hd : decide ((a, b) ≠ (c, d)) = !(decide (a = c) && decide (b = d)) := by
    by_cases h1 : a = c <;> by_cases h2 : b = d <;> simp [h1, h2]
  rw [hd]
  go_simp
  (repeat' split) <;> simp_all
set_option maxRecDepth 100000 in
set_option maxHeartbeats 8000000 in
theorem refInsert9_any (A : Option Addr) (n c : Nat) (ns : List Nd) (rt fr key prio : Int) (w : World) (hx : Ns w A n c ns) (hn : n ≤ 16384) :
    Calls Try.prog 10 #[.agg #[.slice A n c, .int .i64 rt, .int .i64 fr], .int .i64 key, .int .u32 prio] w (IGot w A n c (insT (ns, rt, fr) key prio)) := by
  have hlen := hx.len
  have RX := Lib.hid hx
  have HL := Lib.hid hlen
  have RT := fun (W : World) (h : Ns W A n c ns) => refRight9_any A n c ns rt fr W h hn
  have PL := fun (W : World) (h : Ns W A n c ns) => refPlace9_any A n c ns rt fr key W h hn
  have CP := Lib.hid (fun (W : World) (h : Ns W A n c ns) => refCopy9_any A n c ns rt fr W h hn)
  obtain ⟨R, hR⟩ : ∃ R, insT (ns, rt, fr) key prio = R := ⟨_, rfl⟩
  rw [hR]
  have HR := Lib.hid hR
  clear hx hR hlen
  obtain ⟨v1, hv1⟩ : ∃ W, w.alloc (.cells #[.slice A n c, .int .i64 rt, .int .i64 fr] 24) = W := ⟨_, rfl⟩
  have fr1 : Fr w v1 w.heap.size [.cells #[.slice A n c, .int .i64 rt, .int .i64 fr] 24] := hv1 ▸ Fr.first w _
  have z1 : v1.heap.size = w.heap.size + 1 := by rw [← hv1, Fr.size1]
  obtain ⟨v2, hv2⟩ : ∃ W, v1.alloc (.cells #[.slice none 0 0, .int .i64 0, .int .i64 0] 24) = W := ⟨_, rfl⟩
  have fr2 : Fr w v2 w.heap.size [.cells #[.slice A n c, .int .i64 rt, .int .i64 fr] 24, .cells #[.slice none 0 0, .int .i64 0, .int .i64 0] 24] := hv2 ▸ fr1.more z1 _
  have z2 : v2.heap.size = w.heap.size + 2 := by rw [← hv2, Fr.size1, z1]
  generalize hq : w.heap.size = q at *
  have FR := Lib.hid fr2
  clear fr1 fr2
  cases hr : rightT (ns, rt, fr)
  · rw [hr] at RT
    replace RT := Lib.hid RT
    have HE := Lib.hid (show R = ((ns, rt, fr), 0, 1) by rw [← HR.out]; unfold insT; rw [if_pos (Or.inl hr)])
    clear hr PL
    go_enter Try.func10, Try.ntmps10
    have c00 : v2.cell? ⟨q, 0, none⟩ = some (.slice A n c) := FR.out.cell 0 0 rfl rfl rfl
    have c01 : v2.cell? ⟨q, 1, none⟩ = some (.int .i64 rt) := FR.out.cell 0 1 rfl rfl rfl
    have c02 : v2.cell? ⟨q, 2, none⟩ = some (.int .i64 fr) := FR.out.cell 0 2 rfl rfl rfl
    have c10 : v2.cell? ⟨q + 1, 0, none⟩ = some (.slice none 0 0) := FR.out.cell 1 0 rfl rfl rfl
    have c11 : v2.cell? ⟨q + 1, 1, none⟩ = some (.int .i64 0) := FR.out.cell 1 1 rfl rfl rfl
    have c12 : v2.cell? ⟨q + 1, 2, none⟩ = some (.int .i64 0) := FR.out.cell 1 2 rfl rfl rfl
    go_wp2_with fail
    refine ((RT.out _ (FR.out.es RX.out))).mono ?_
    rintro e w3 ⟨rfl, hb⟩
    clear c00 c01 c02 c10 c11 c12
    replace FR := Lib.hid (FR.out.step hb)
    clear hb
    have c00 : w3.cell? ⟨q, 0, none⟩ = some (.slice A n c) := FR.out.cell 0 0 rfl rfl rfl
    have c01 : w3.cell? ⟨q, 1, none⟩ = some (.int .i64 rt) := FR.out.cell 0 1 rfl rfl rfl
    have c02 : w3.cell? ⟨q, 2, none⟩ = some (.int .i64 fr) := FR.out.cell 0 2 rfl rfl rfl
    have c10 : w3.cell? ⟨q + 1, 0, none⟩ = some (.slice none 0 0) := FR.out.cell 1 0 rfl rfl rfl
    have f10 : w3.frozen? ⟨q + 1, 0, none⟩ = false := FR.out.frozen 1 0 rfl rfl
    have c11 : w3.cell? ⟨q + 1, 1, none⟩ = some (.int .i64 0) := FR.out.cell 1 1 rfl rfl rfl
    have f11 : w3.frozen? ⟨q + 1, 1, none⟩ = false := FR.out.frozen 1 1 rfl rfl
    have c12 : w3.cell? ⟨q + 1, 2, none⟩ = some (.int .i64 0) := FR.out.cell 1 2 rfl rfl rfl
    have f12 : w3.frozen? ⟨q + 1, 2, none⟩ = false := FR.out.frozen 1 2 rfl rfl
    go_wp2
    have FZ : Fr w (((w3.setCell ⟨q + 1, 0, none⟩ (.slice A n c)).setCell ⟨q + 1, 1, none⟩ (.int .i64 rt)).setCell ⟨q + 1, 2, none⟩ (.int .i64 fr)) q [.cells #[.slice A n c, .int .i64 rt, .int .i64 fr] 24, .cells #[.slice A n c, .int .i64 rt, .int .i64 fr] 24] := (((FR.out.set 1 0 rfl rfl (.slice A n c)).set 1 1 rfl rfl (.int .i64 rt)).set 1 2 rfl rfl (.int .i64 fr))
    refine bodyPost_ret (res_css Try.results10 (by rfl) (FZ.load 1 rfl rfl Try.underlying24 (by kernel_rfl))) rfl ?_
    rw [HE.out]
    exact ⟨_, _, _, rfl, FZ.es RX.out, FZ.out, Or.inr rfl⟩
  · rw [hr] at RT
    replace RT := Lib.hid RT
    by_cases hk : key < 0
    · have b1 : decide (key < 0) = true := by simpa using hk
      have HE := Lib.hid (show R = ((ns, rt, fr), 0, 1) by rw [← HR.out]; unfold insT; rw [if_pos (Or.inr hk)])
      clear hr hk PL
      go_enter Try.func10, Try.ntmps10
      have c00 : v2.cell? ⟨q, 0, none⟩ = some (.slice A n c) := FR.out.cell 0 0 rfl rfl rfl
      have c01 : v2.cell? ⟨q, 1, none⟩ = some (.int .i64 rt) := FR.out.cell 0 1 rfl rfl rfl
      have c02 : v2.cell? ⟨q, 2, none⟩ = some (.int .i64 fr) := FR.out.cell 0 2 rfl rfl rfl
      have c10 : v2.cell? ⟨q + 1, 0, none⟩ = some (.slice none 0 0) := FR.out.cell 1 0 rfl rfl rfl
      have c11 : v2.cell? ⟨q + 1, 1, none⟩ = some (.int .i64 0) := FR.out.cell 1 1 rfl rfl rfl
      have c12 : v2.cell? ⟨q + 1, 2, none⟩ = some (.int .i64 0) := FR.out.cell 1 2 rfl rfl rfl
      go_wp2_with fail
      refine ((RT.out _ (FR.out.es RX.out))).mono ?_
      rintro e w3 ⟨rfl, hb⟩
      clear c00 c01 c02 c10 c11 c12
      replace FR := Lib.hid (FR.out.step hb)
      clear hb
      have c00 : w3.cell? ⟨q, 0, none⟩ = some (.slice A n c) := FR.out.cell 0 0 rfl rfl rfl
      have c01 : w3.cell? ⟨q, 1, none⟩ = some (.int .i64 rt) := FR.out.cell 0 1 rfl rfl rfl
      have c02 : w3.cell? ⟨q, 2, none⟩ = some (.int .i64 fr) := FR.out.cell 0 2 rfl rfl rfl
      have c10 : w3.cell? ⟨q + 1, 0, none⟩ = some (.slice none 0 0) := FR.out.cell 1 0 rfl rfl rfl
      have f10 : w3.frozen? ⟨q + 1, 0, none⟩ = false := FR.out.frozen 1 0 rfl rfl
      have c11 : w3.cell? ⟨q + 1, 1, none⟩ = some (.int .i64 0) := FR.out.cell 1 1 rfl rfl rfl
      have f11 : w3.frozen? ⟨q + 1, 1, none⟩ = false := FR.out.frozen 1 1 rfl rfl
      have c12 : w3.cell? ⟨q + 1, 2, none⟩ = some (.int .i64 0) := FR.out.cell 1 2 rfl rfl rfl
      have f12 : w3.frozen? ⟨q + 1, 2, none⟩ = false := FR.out.frozen 1 2 rfl rfl
      go_wp2
      have FZ : Fr w (((w3.setCell ⟨q + 1, 0, none⟩ (.slice A n c)).setCell ⟨q + 1, 1, none⟩ (.int .i64 rt)).setCell ⟨q + 1, 2, none⟩ (.int .i64 fr)) q [.cells #[.slice A n c, .int .i64 rt, .int .i64 fr] 24, .cells #[.slice A n c, .int .i64 rt, .int .i64 fr] 24] := (((FR.out.set 1 0 rfl rfl (.slice A n c)).set 1 1 rfl rfl (.int .i64 rt)).set 1 2 rfl rfl (.int .i64 fr))
      refine bodyPost_ret (res_css Try.results10 (by rfl) (FZ.load 1 rfl rfl Try.underlying24 (by kernel_rfl))) rfl ?_
      rw [HE.out]
      exact ⟨_, _, _, rfl, FZ.es RX.out, FZ.out, Or.inr rfl⟩
    · have b1 : decide (key < 0) = false := by simpa using hk
      have hE : R = if 0 ≤ placeT ns key then ((ns, rt, fr), 0, 8) else if fr = -1 then ((ns, rt, fr), 0, 6) else (laidP (putIn (ns, rt, fr) key prio), fr, 0) := by rw [← HR.out]; unfold insT; exact if_neg (by rw [hr]; simp; omega)
      obtain ⟨fl, l, hok⟩ := TOk.of hr
      have hfree : fr ≠ -1 → 0 ≤ fr ∧ fr < (ns.length : Int) := fun h => by
        have hc := hok.chain
        cases fl with
        | nil => exact absurd hc h
        | cons x fl => obtain ⟨e, a, b, _⟩ := hc; simp only at e b; omega
      clear hr hk hok
      obtain ⟨pl, hpl⟩ : ∃ pl, placeT ns key = pl := ⟨_, rfl⟩
      rw [hpl] at PL hE
      replace PL : Hid (∀ W, Ns W A n c ns → Calls Try.prog 30 #[.agg #[.slice A n c, .int .i64 rt, .int .i64 fr], .int .i64 key] W (Num9 W pl)) := Lib.hid PL
      clear hpl
      by_cases hp : 0 ≤ pl
      · have b2 : decide (0 ≤ pl) = true := by simpa using hp
        have HE := Lib.hid (show R = ((ns, rt, fr), 0, 8) by rw [hE, if_pos hp])
        clear hE hp hfree
        go_enter Try.func10, Try.ntmps10
        have c00 : v2.cell? ⟨q, 0, none⟩ = some (.slice A n c) := FR.out.cell 0 0 rfl rfl rfl
        have c01 : v2.cell? ⟨q, 1, none⟩ = some (.int .i64 rt) := FR.out.cell 0 1 rfl rfl rfl
        have c02 : v2.cell? ⟨q, 2, none⟩ = some (.int .i64 fr) := FR.out.cell 0 2 rfl rfl rfl
        have c10 : v2.cell? ⟨q + 1, 0, none⟩ = some (.slice none 0 0) := FR.out.cell 1 0 rfl rfl rfl
        have c11 : v2.cell? ⟨q + 1, 1, none⟩ = some (.int .i64 0) := FR.out.cell 1 1 rfl rfl rfl
        have c12 : v2.cell? ⟨q + 1, 2, none⟩ = some (.int .i64 0) := FR.out.cell 1 2 rfl rfl rfl
        go_wp2_with fail
        refine ((RT.out _ (FR.out.es RX.out))).mono ?_
        rintro e w3 ⟨rfl, hb⟩
        clear c00 c01 c02 c10 c11 c12
        replace FR := Lib.hid (FR.out.step hb)
        clear hb
        have c00 : w3.cell? ⟨q, 0, none⟩ = some (.slice A n c) := FR.out.cell 0 0 rfl rfl rfl
        have c01 : w3.cell? ⟨q, 1, none⟩ = some (.int .i64 rt) := FR.out.cell 0 1 rfl rfl rfl
        have c02 : w3.cell? ⟨q, 2, none⟩ = some (.int .i64 fr) := FR.out.cell 0 2 rfl rfl rfl
        have c10 : w3.cell? ⟨q + 1, 0, none⟩ = some (.slice none 0 0) := FR.out.cell 1 0 rfl rfl rfl
        have c11 : w3.cell? ⟨q + 1, 1, none⟩ = some (.int .i64 0) := FR.out.cell 1 1 rfl rfl rfl
        have c12 : w3.cell? ⟨q + 1, 2, none⟩ = some (.int .i64 0) := FR.out.cell 1 2 rfl rfl rfl
        go_wp2_with fail
        refine ((PL.out _ (FR.out.es RX.out))).mono ?_
        rintro e w4 ⟨rfl, hb⟩
        clear c00 c01 c02 c10 c11 c12
        replace FR := Lib.hid (FR.out.step hb)
        clear hb
        have c00 : w4.cell? ⟨q, 0, none⟩ = some (.slice A n c) := FR.out.cell 0 0 rfl rfl rfl
        have c01 : w4.cell? ⟨q, 1, none⟩ = some (.int .i64 rt) := FR.out.cell 0 1 rfl rfl rfl
        have c02 : w4.cell? ⟨q, 2, none⟩ = some (.int .i64 fr) := FR.out.cell 0 2 rfl rfl rfl
        have c10 : w4.cell? ⟨q + 1, 0, none⟩ = some (.slice none 0 0) := FR.out.cell 1 0 rfl rfl rfl
        have f10 : w4.frozen? ⟨q + 1, 0, none⟩ = false := FR.out.frozen 1 0 rfl rfl
        have c11 : w4.cell? ⟨q + 1, 1, none⟩ = some (.int .i64 0) := FR.out.cell 1 1 rfl rfl rfl
        have f11 : w4.frozen? ⟨q + 1, 1, none⟩ = false := FR.out.frozen 1 1 rfl rfl
        have c12 : w4.cell? ⟨q + 1, 2, none⟩ = some (.int .i64 0) := FR.out.cell 1 2 rfl rfl rfl
        have f12 : w4.frozen? ⟨q + 1, 2, none⟩ = false := FR.out.frozen 1 2 rfl rfl
        go_wp2
        have FZ : Fr w (((w4.setCell ⟨q + 1, 0, none⟩ (.slice A n c)).setCell ⟨q + 1, 1, none⟩ (.int .i64 rt)).setCell ⟨q + 1, 2, none⟩ (.int .i64 fr)) q [.cells #[.slice A n c, .int .i64 rt, .int .i64 fr] 24, .cells #[.slice A n c, .int .i64 rt, .int .i64 fr] 24] := (((FR.out.set 1 0 rfl rfl (.slice A n c)).set 1 1 rfl rfl (.int .i64 rt)).set 1 2 rfl rfl (.int .i64 fr))
        refine bodyPost_ret (res_css Try.results10 (by rfl) (FZ.load 1 rfl rfl Try.underlying24 (by kernel_rfl))) rfl ?_
        rw [HE.out]
        exact ⟨_, _, _, rfl, FZ.es RX.out, FZ.out, Or.inr rfl⟩
      · have b2 : decide (0 ≤ pl) = false := by simpa using hp
        rw [if_neg hp] at hE
        by_cases hf : fr = -1
        · have b3 : (fr == -1) = true := by simp [hf]
          have HE := Lib.hid (show R = ((ns, rt, fr), 0, 6) by rw [hE, if_pos hf])
          clear hE hp hf hfree
          go_enter Try.func10, Try.ntmps10
          have c00 : v2.cell? ⟨q, 0, none⟩ = some (.slice A n c) := FR.out.cell 0 0 rfl rfl rfl
          have c01 : v2.cell? ⟨q, 1, none⟩ = some (.int .i64 rt) := FR.out.cell 0 1 rfl rfl rfl
          have c02 : v2.cell? ⟨q, 2, none⟩ = some (.int .i64 fr) := FR.out.cell 0 2 rfl rfl rfl
          have c10 : v2.cell? ⟨q + 1, 0, none⟩ = some (.slice none 0 0) := FR.out.cell 1 0 rfl rfl rfl
          have c11 : v2.cell? ⟨q + 1, 1, none⟩ = some (.int .i64 0) := FR.out.cell 1 1 rfl rfl rfl
          have c12 : v2.cell? ⟨q + 1, 2, none⟩ = some (.int .i64 0) := FR.out.cell 1 2 rfl rfl rfl
          go_wp2_with fail
          refine ((RT.out _ (FR.out.es RX.out))).mono ?_
          rintro e w3 ⟨rfl, hb⟩
          clear c00 c01 c02 c10 c11 c12
          replace FR := Lib.hid (FR.out.step hb)
          clear hb
          have c00 : w3.cell? ⟨q, 0, none⟩ = some (.slice A n c) := FR.out.cell 0 0 rfl rfl rfl
          have c01 : w3.cell? ⟨q, 1, none⟩ = some (.int .i64 rt) := FR.out.cell 0 1 rfl rfl rfl
          have c02 : w3.cell? ⟨q, 2, none⟩ = some (.int .i64 fr) := FR.out.cell 0 2 rfl rfl rfl
          have c10 : w3.cell? ⟨q + 1, 0, none⟩ = some (.slice none 0 0) := FR.out.cell 1 0 rfl rfl rfl
          have c11 : w3.cell? ⟨q + 1, 1, none⟩ = some (.int .i64 0) := FR.out.cell 1 1 rfl rfl rfl
          have c12 : w3.cell? ⟨q + 1, 2, none⟩ = some (.int .i64 0) := FR.out.cell 1 2 rfl rfl rfl
          go_wp2_with fail
          refine ((PL.out _ (FR.out.es RX.out))).mono ?_
          rintro e w4 ⟨rfl, hb⟩
          clear c00 c01 c02 c10 c11 c12
          replace FR := Lib.hid (FR.out.step hb)
          clear hb
          have c00 : w4.cell? ⟨q, 0, none⟩ = some (.slice A n c) := FR.out.cell 0 0 rfl rfl rfl
          have c01 : w4.cell? ⟨q, 1, none⟩ = some (.int .i64 rt) := FR.out.cell 0 1 rfl rfl rfl
          have c02 : w4.cell? ⟨q, 2, none⟩ = some (.int .i64 fr) := FR.out.cell 0 2 rfl rfl rfl
          have c10 : w4.cell? ⟨q + 1, 0, none⟩ = some (.slice none 0 0) := FR.out.cell 1 0 rfl rfl rfl
          have f10 : w4.frozen? ⟨q + 1, 0, none⟩ = false := FR.out.frozen 1 0 rfl rfl
          have c11 : w4.cell? ⟨q + 1, 1, none⟩ = some (.int .i64 0) := FR.out.cell 1 1 rfl rfl rfl
          have f11 : w4.frozen? ⟨q + 1, 1, none⟩ = false := FR.out.frozen 1 1 rfl rfl
          have c12 : w4.cell? ⟨q + 1, 2, none⟩ = some (.int .i64 0) := FR.out.cell 1 2 rfl rfl rfl
          have f12 : w4.frozen? ⟨q + 1, 2, none⟩ = false := FR.out.frozen 1 2 rfl rfl
          go_wp2
          have FZ : Fr w (((w4.setCell ⟨q + 1, 0, none⟩ (.slice A n c)).setCell ⟨q + 1, 1, none⟩ (.int .i64 rt)).setCell ⟨q + 1, 2, none⟩ (.int .i64 fr)) q [.cells #[.slice A n c, .int .i64 rt, .int .i64 fr] 24, .cells #[.slice A n c, .int .i64 rt, .int .i64 fr] 24] := (((FR.out.set 1 0 rfl rfl (.slice A n c)).set 1 1 rfl rfl (.int .i64 rt)).set 1 2 rfl rfl (.int .i64 fr))
          refine bodyPost_ret (res_css Try.results10 (by rfl) (FZ.load 1 rfl rfl Try.underlying24 (by kernel_rfl))) rfl ?_
          rw [HE.out]
          exact ⟨_, _, _, rfl, FZ.es RX.out, FZ.out, Or.inr rfl⟩
        · have b3 : (fr == -1) = false := by simp [hf]
          have hfb := hfree hf
          rw [HL.out] at hfb
          obtain ⟨i, rfl⟩ : ∃ i : Nat, fr = i := ⟨fr.toNat, by omega⟩
          have i0 : (0 : Int) ≤ (i : Int) := hfb.1
          have i1 : (i : Int) < (n : Int) := hfb.2
          have LP := fun (B : Option Addr) (d : Nat) (W : World) (h : Ns W B n d (ns.set i (newN key prio))) => refLaid9_any B n d (ns.set i (newN key prio)) rt (ndAt ns (i : Int)).l W h hn
          have hE2 : R = (laidP (ns.set i (newN key prio), rt, (ndAt ns (i : Int)).l), (i : Int), 0) := by rw [hE, if_neg hf]; rfl
          obtain ⟨n1, r1, f1, hLP⟩ : ∃ n1 r1 f1, laidP (ns.set i (newN key prio), rt, (ndAt ns (i : Int)).l) = (n1, r1, f1) := ⟨_, _, _, rfl⟩
          rw [hLP] at LP hE2
          replace LP := Lib.hid LP
          have HE := Lib.hid hE2
          clear hE hE2 hLP hp hf hfree hfb
          obtain ⟨b, off, rfl, hbq, _, _, k2, _, _, _⟩ := Ns.look (ns := ns) RX.out i (by omega)
          have K2 := Lib.hid k2
          clear k2
          go_enter Try.func10, Try.ntmps10
          have c00 : v2.cell? ⟨q, 0, none⟩ = some (.slice (some ⟨b, off, none⟩) n c) := FR.out.cell 0 0 rfl rfl rfl
          have c01 : v2.cell? ⟨q, 1, none⟩ = some (.int .i64 rt) := FR.out.cell 0 1 rfl rfl rfl
          have c02 : v2.cell? ⟨q, 2, none⟩ = some (.int .i64 (i : Int)) := FR.out.cell 0 2 rfl rfl rfl
          have c10 : v2.cell? ⟨q + 1, 0, none⟩ = some (.slice none 0 0) := FR.out.cell 1 0 rfl rfl rfl
          have c11 : v2.cell? ⟨q + 1, 1, none⟩ = some (.int .i64 0) := FR.out.cell 1 1 rfl rfl rfl
          have c12 : v2.cell? ⟨q + 1, 2, none⟩ = some (.int .i64 0) := FR.out.cell 1 2 rfl rfl rfl
          go_wp2_with fail
          refine ((RT.out _ (FR.out.es RX.out))).mono ?_
          rintro e w3 ⟨rfl, hb⟩
          clear c00 c01 c02 c10 c11 c12
          replace FR := Lib.hid (FR.out.step hb)
          clear hb
          have c00 : w3.cell? ⟨q, 0, none⟩ = some (.slice (some ⟨b, off, none⟩) n c) := FR.out.cell 0 0 rfl rfl rfl
          have c01 : w3.cell? ⟨q, 1, none⟩ = some (.int .i64 rt) := FR.out.cell 0 1 rfl rfl rfl
          have c02 : w3.cell? ⟨q, 2, none⟩ = some (.int .i64 (i : Int)) := FR.out.cell 0 2 rfl rfl rfl
          have c10 : w3.cell? ⟨q + 1, 0, none⟩ = some (.slice none 0 0) := FR.out.cell 1 0 rfl rfl rfl
          have c11 : w3.cell? ⟨q + 1, 1, none⟩ = some (.int .i64 0) := FR.out.cell 1 1 rfl rfl rfl
          have c12 : w3.cell? ⟨q + 1, 2, none⟩ = some (.int .i64 0) := FR.out.cell 1 2 rfl rfl rfl
          go_wp2_with fail
          refine ((PL.out _ (FR.out.es RX.out))).mono ?_
          rintro e w4 ⟨rfl, hb⟩
          clear c00 c01 c02 c10 c11 c12
          replace FR := Lib.hid (FR.out.step hb)
          clear hb
          have FR0 := FR.out.sz
          simp only [List.length_cons, List.length_nil] at FR0
          have c00 : w4.cell? ⟨q, 0, none⟩ = some (.slice (some ⟨b, off, none⟩) n c) := FR.out.cell 0 0 rfl rfl rfl
          have c01 : w4.cell? ⟨q, 1, none⟩ = some (.int .i64 rt) := FR.out.cell 0 1 rfl rfl rfl
          have c02 : w4.cell? ⟨q, 2, none⟩ = some (.int .i64 (i : Int)) := FR.out.cell 0 2 rfl rfl rfl
          have c10 : w4.cell? ⟨q + 1, 0, none⟩ = some (.slice none 0 0) := FR.out.cell 1 0 rfl rfl rfl
          have c11 : w4.cell? ⟨q + 1, 1, none⟩ = some (.int .i64 0) := FR.out.cell 1 1 rfl rfl rfl
          have c12 : w4.cell? ⟨q + 1, 2, none⟩ = some (.int .i64 0) := FR.out.cell 1 2 rfl rfl rfl
          go_wp2_with fail
          refine ((CP.out _ (FR.out.es RX.out))).mono ?_
          rintro e w5 ⟨B, d, rfl, hown, hb⟩
          clear c00 c01 c02 c10 c11 c12
          replace FR := Lib.hid (FR.out.step hb)
          clear hb
          have OW := Lib.hid (own_base hown FR0)
          obtain ⟨gg, rfl⟩ := own_some9 OW.out (by omega)
          clear hown FR0 hv1 hv2 z1 z2
          have gex := FR.out.sz
          simp only [List.length_cons, List.length_nil] at gex
          obtain ⟨w6, hw6⟩ : ∃ W, w5.alloc (.cells #[.slice (some ⟨gg, 0, none⟩) n d, .int .i64 rt, .int .i64 (i : Int)] 24) = W := ⟨_, rfl⟩
          have hb : Below w5.heap.size w5 w6 := hw6 ▸ (Below.refl _ _).alloc (Nat.le_refl _) _
          have hv : w6.heap[w5.heap.size]? = some (.cells #[.slice (some ⟨gg, 0, none⟩) n d, .int .i64 rt, .int .i64 (i : Int)] 24) := hw6 ▸ heap_alloc_new _ _
          replace FR := Lib.hid (FR.out.step hb)
          replace OW := Lib.hid (own_below OW.out hb)
          have Vx := Lib.hid hv
          generalize hsx : w5.heap.size = sx at *
          clear hb hv
          have k2 := (FR.out.out.cell (p := ⟨b, off + i * 6 + 2, none⟩) hbq).trans K2.out
          obtain ⟨nx, hnx⟩ : ∃ nx, (ndAt ns (i : Int)).l = nx := ⟨_, rfl⟩
          rw [hnx] at k2 LP
          obtain ⟨e0, e1, e2, e3, e4, e5⟩ := ndC_at ns i (by have := HL.out; omega)
          have g0 := (OW.out.cellAt (i * 6) (by omega)).trans e0
          have ff0 := OW.out.frozenAt (i * 6)
          have g1 := (OW.out.cellAt (i * 6 + 1) (by omega)).trans e1
          have ff1 := OW.out.frozenAt (i * 6 + 1)
          have g2 := (OW.out.cellAt (i * 6 + 2) (by omega)).trans e2
          have ff2 := OW.out.frozenAt (i * 6 + 2)
          have g3 := (OW.out.cellAt (i * 6 + 3) (by omega)).trans e3
          have ff3 := OW.out.frozenAt (i * 6 + 3)
          have g4 := (OW.out.cellAt (i * 6 + 4) (by omega)).trans e4
          have ff4 := OW.out.frozenAt (i * 6 + 4)
          have g5 := (OW.out.cellAt (i * 6 + 5) (by omega)).trans e5
          have ff5 := OW.out.frozenAt (i * 6 + 5)
          clear e0 e1 e2 e3 e4 e5
          have oc00 : w6.cell? ⟨q, 0, none⟩ = some (.slice (some ⟨b, off, none⟩) n c) := FR.out.cell 0 0 rfl rfl rfl
          have of00 : w6.frozen? ⟨q, 0, none⟩ = false := FR.out.frozen 0 0 rfl rfl
          have oc01 : w6.cell? ⟨q, 1, none⟩ = some (.int .i64 rt) := FR.out.cell 0 1 rfl rfl rfl
          have of01 : w6.frozen? ⟨q, 1, none⟩ = false := FR.out.frozen 0 1 rfl rfl
          have oc02 : w6.cell? ⟨q, 2, none⟩ = some (.int .i64 (i : Int)) := FR.out.cell 0 2 rfl rfl rfl
          have of02 : w6.frozen? ⟨q, 2, none⟩ = false := FR.out.frozen 0 2 rfl rfl
          have ocx0 : w6.cell? ⟨sx, 0, none⟩ = some (.slice (some ⟨gg, 0, none⟩) n d) := (blk_cell Vx.out 0).trans rfl
          have ofx0 : w6.frozen? ⟨sx, 0, none⟩ = false := blk_frozen Vx.out 0
          have ocx1 : w6.cell? ⟨sx, 1, none⟩ = some (.int .i64 rt) := (blk_cell Vx.out 1).trans rfl
          have ofx1 : w6.frozen? ⟨sx, 1, none⟩ = false := blk_frozen Vx.out 1
          have ocx2 : w6.cell? ⟨sx, 2, none⟩ = some (.int .i64 (i : Int)) := (blk_cell Vx.out 2).trans rfl
          have ofx2 : w6.frozen? ⟨sx, 2, none⟩ = false := blk_frozen Vx.out 2
          have hszw7 := FR.out.sz
          simp only [List.length_cons, List.length_nil] at hszw7
          have hox := own_ne OW.out Vx.out (by decide)
          have hgg := (OW.out.lt gg (by simp [Value.ownBlock])).1
          have hxg : sx ≠ gg := fun e => hox (by rw [e]; rfl)
          obtain ⟨w7, hw7⟩ : ∃ W, (((((((w6.setCell ⟨sx, 2, none⟩ (.int .i64 nx)).setCell ⟨gg, i * 6, none⟩ (.int .i64 key)).setCell ⟨gg, i * 6 + 1, none⟩ (.int .u32 prio)).setCell ⟨gg, i * 6 + 2, none⟩ (.int .i64 (-1))).setCell ⟨gg, i * 6 + 3, none⟩ (.int .i64 (-1))).setCell ⟨gg, i * 6 + 4, none⟩ (.int .i64 (-1))).setCell ⟨gg, i * 6 + 5, none⟩ (.int .i64 (-1))) = W := ⟨_, rfl⟩
          have OW2 := (((((((((((((own_other OW.out (k := sx) (o := 2) (u := .int .i64 nx) hox)).stored (i * 6) (.int .i64 key)).1).stored (i * 6 + 1) (.int .u32 prio)).1).stored (i * 6 + 2) (.int .i64 (-1))).1).stored (i * 6 + 3) (.int .i64 (-1))).1).stored (i * 6 + 4) (.int .i64 (-1))).1).stored (i * 6 + 5) (.int .i64 (-1))).1
          replace FR := Lib.hid (show Fr w w7 q [.cells #[.slice (some ⟨b, off, none⟩) n c, .int .i64 rt, .int .i64 (i : Int)] 24, .cells #[.slice none 0 0, .int .i64 0, .int .i64 0] 24] from hw7 ▸ (((((((FR.out.other (b := sx) (j := 2) (by simp only [List.length_cons, List.length_nil]; omega) (.int .i64 nx)).other (b := gg) (j := i * 6) (by simp only [List.length_cons, List.length_nil]; omega) (.int .i64 key)).other (b := gg) (j := i * 6 + 1) (by simp only [List.length_cons, List.length_nil]; omega) (.int .u32 prio)).other (b := gg) (j := i * 6 + 2) (by simp only [List.length_cons, List.length_nil]; omega) (.int .i64 (-1))).other (b := gg) (j := i * 6 + 3) (by simp only [List.length_cons, List.length_nil]; omega) (.int .i64 (-1))).other (b := gg) (j := i * 6 + 4) (by simp only [List.length_cons, List.length_nil]; omega) (.int .i64 (-1))).other (b := gg) (j := i * 6 + 5) (by simp only [List.length_cons, List.length_nil]; omega) (.int .i64 (-1))))
          replace Vx := Lib.hid (show w7.heap[sx]? = some (.cells #[.slice (some ⟨gg, 0, none⟩) n d, .int .i64 rt, .int .i64 nx] 24) from hw7 ▸ ((Below.heap_setCell _ ⟨gg, i * 6 + 5, none⟩ (.int .i64 (-1)) sx hxg).trans ((Below.heap_setCell _ ⟨gg, i * 6 + 4, none⟩ (.int .i64 (-1)) sx hxg).trans ((Below.heap_setCell _ ⟨gg, i * 6 + 3, none⟩ (.int .i64 (-1)) sx hxg).trans ((Below.heap_setCell _ ⟨gg, i * 6 + 2, none⟩ (.int .i64 (-1)) sx hxg).trans ((Below.heap_setCell _ ⟨gg, i * 6 + 1, none⟩ (.int .u32 prio) sx hxg).trans ((Below.heap_setCell _ ⟨gg, i * 6, none⟩ (.int .i64 key) sx hxg).trans (blk_set (j := 2) Vx.out (.int .i64 nx)))))))))
          rw [hw7] at OW2
          replace OW := Lib.hid OW2
          clear OW2
          have OWn := Lib.hid (show World.ownsRow _ _ _ _ _ _ (ndC (ns.set i (newN key prio))) from by rw [ndC_set ns i (newN key prio) (by have := HL.out; omega)]; exact OW.out)
          replace OW := OWn
          clear OWn
          have FR0 := FR.out.sz
          simp only [List.length_cons, List.length_nil] at FR0
          have b7 := hxg; have b8 := hxg.symm; have b9 : gg ≠ q := (by omega); have b10 : gg ≠ q + 1 := (by omega); have b11 : sx ≠ q := (by omega)
          have cx0 : w7.cell? ⟨sx, 0, none⟩ = some (.slice (some ⟨gg, 0, none⟩) n d) := (blk_cell Vx.out 0).trans rfl
          have cx1 : w7.cell? ⟨sx, 1, none⟩ = some (.int .i64 rt) := (blk_cell Vx.out 1).trans rfl
          have cx2 : w7.cell? ⟨sx, 2, none⟩ = some (.int .i64 nx) := (blk_cell Vx.out 2).trans rfl
          go_wp2_with fail
          refine ((LP.out _ _ _ (ns_own OW.out))).mono ?_
          rintro e w8 ⟨B2, d2, rfl, hown, hb⟩
          clear cx0 cx1 cx2
          replace FR := Lib.hid (FR.out.step hb)
          replace OW := Lib.hid (own_below OW.out hb)
          replace Vx := Lib.hid (blk_below Vx.out hb (blk_lt Vx.out))
          clear hb
          replace OW := Lib.hid (own_base hown FR0)
          clear hown FR0 k2 g0 g1 g2 g3 g4 g5 ff0 ff1 ff2 ff3 ff4 ff5
          have c10 : w8.cell? ⟨q + 1, 0, none⟩ = some (.slice none 0 0) := FR.out.cell 1 0 rfl rfl rfl
          have f10 : w8.frozen? ⟨q + 1, 0, none⟩ = false := FR.out.frozen 1 0 rfl rfl
          have c11 : w8.cell? ⟨q + 1, 1, none⟩ = some (.int .i64 0) := FR.out.cell 1 1 rfl rfl rfl
          have f11 : w8.frozen? ⟨q + 1, 1, none⟩ = false := FR.out.frozen 1 1 rfl rfl
          have c12 : w8.cell? ⟨q + 1, 2, none⟩ = some (.int .i64 0) := FR.out.cell 1 2 rfl rfl rfl
          have f12 : w8.frozen? ⟨q + 1, 2, none⟩ = false := FR.out.frozen 1 2 rfl rfl
          have cx0 : w8.cell? ⟨sx, 0, none⟩ = some (.slice (some ⟨gg, 0, none⟩) n d) := (blk_cell Vx.out 0).trans rfl
          have fx0 : w8.frozen? ⟨sx, 0, none⟩ = false := blk_frozen Vx.out 0
          have cx1 : w8.cell? ⟨sx, 1, none⟩ = some (.int .i64 rt) := (blk_cell Vx.out 1).trans rfl
          have fx1 : w8.frozen? ⟨sx, 1, none⟩ = false := blk_frozen Vx.out 1
          have cx2 : w8.cell? ⟨sx, 2, none⟩ = some (.int .i64 nx) := (blk_cell Vx.out 2).trans rfl
          have fx2 : w8.frozen? ⟨sx, 2, none⟩ = false := blk_frozen Vx.out 2
          go_wp2
          have FZ : Fr w (((w8.setCell ⟨q + 1, 0, none⟩ (.slice B2 n d2)).setCell ⟨q + 1, 1, none⟩ (.int .i64 r1)).setCell ⟨q + 1, 2, none⟩ (.int .i64 f1)) q [.cells #[.slice (some ⟨b, off, none⟩) n c, .int .i64 rt, .int .i64 (i : Int)] 24, .cells #[.slice B2 n d2, .int .i64 r1, .int .i64 f1] 24] := (((FR.out.set 1 0 rfl rfl (.slice B2 n d2)).set 1 1 rfl rfl (.int .i64 r1)).set 1 2 rfl rfl (.int .i64 f1))
          refine bodyPost_ret (res_css Try.results10 (by rfl) (FZ.load 1 rfl rfl Try.underlying24 (by kernel_rfl))) rfl ?_
          rw [HE.out]
          have hrs := own_base (own_apart (own_apart (own_apart (OW.out) (k := q + 1) (o := 0) (u := .slice B2 n d2) (by omega)) (k := q + 1) (o := 1) (u := .int .i64 r1) (by omega)) (k := q + 1) (o := 2) (u := .int .i64 f1) (by omega)) (show w.heap.size ≤ _ from by omega)
          exact ⟨_, _, _, rfl, ns_own hrs, FZ.out, Or.inl hrs⟩
end Go.Proofs.Ytfgfohomgomidaa
