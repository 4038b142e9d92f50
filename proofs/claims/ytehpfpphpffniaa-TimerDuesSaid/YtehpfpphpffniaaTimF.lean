/- What the document's own without and Drop of layer 12 answer; for lists of up to 16384. -/
import Derived.Test.YtehpfpphpffniaaTimD
import Derived.Test.YtehpfpphpffniaaTimE
namespace Go.Proofs.Ytehpfpphpffniaa
set_option linter.unusedVariables false
set_option linter.unusedSimpArgs false
open Go.RowKit
theorem szTms (W : World) : (sizeOf (Try.prog.elem 22)).run Try.prog W = .ok 2 W := by kernel_rfl
theorem unTms : Try.prog.underlying 22 = some (.slice (Try.prog.elem 22)) := by kernel_rfl
theorem tmC_split (h : List Tm) (m : Nat) : tmC h = tmC (h.take m) ++ tmC (h.drop m) := by rw [← tmC_app, List.take_append_drop]
/-- the first timers, and the last. -/
theorem tms_take {P : Program} {w : World} {A : Option Addr} {n c : Nat} {h : List Tm} (hx : Tms w A n c h) (t : TypeId) (ht : P.underlying t = some (.slice (P.elem t)))
    (hsz : ∀ W : World, (sizeOf (P.elem t)).run P W = .ok 2 W) (g : Int) (m : Nat) (hg : g = (m : Nat)) (hm : m ≤ n) :
    ∃ A2 c2, (∀ W : World, (Instr.slice t (.slice A n c) none (some (.int .i64 g)) none).run P W = .ok (.slice A2 m c2) W) ∧ Tms w A2 m c2 (h.take m) := by
  have hcap := Es.cap hx
  have hlen := hx.len
  refine ⟨if c = 0 then A else A.map (·.add (0 * 2)), c - 0, fun W => ?_, ?_⟩
  · rw [run_slice_h W t A n c ht .i64 g (by omega) (by omega), hsz]
    have e2 : g.toNat - 0 = m := by omega
    simp only [Result.andThen, sliced, e2]
  · refine ⟨?_, by omega, tmC_one _, fun hm0 => ?_⟩
    · rw [tmC_len, List.length_take]; omega
    · obtain ⟨b, off, rfl, hb, hc⟩ := Es.mem hx (by omega)
      rw [if_neg (by omega)]
      refine ⟨b, off, by simp [add_plain], hb, fun j u hj => hc j u ?_⟩
      rw [tmC_split h m, List.getElem?_append_left (List.getElem?_eq_some_iff.1 hj).1]
      exact hj
theorem tms_pre {w : World} {A : Option Addr} {n c : Nat} {h : List Tm} (hx : Tms w A n c h) (m : Nat) (hm : m ≤ n) : Tms w A m c (h.take m) := by
  have hlen := hx.len
  have hcap := Es.cap hx
  refine ⟨by rw [tmC_len, List.length_take]; omega, by omega, tmC_one _, fun hm0 => ?_⟩
  obtain ⟨b, off, rfl, hb, hc⟩ := Es.mem hx (by omega)
  refine ⟨b, off, rfl, hb, fun j u hj => hc j u ?_⟩
  rw [tmC_split h m, List.getElem?_append_left (List.getElem?_eq_some_iff.1 hj).1]
  exact hj
theorem tms_drop {P : Program} {w : World} {A : Option Addr} {n c : Nat} {h : List Tm} (hx : Tms w A n c h) (t : TypeId) (ht : P.underlying t = some (.slice (P.elem t)))
    (hsz : ∀ W : World, (sizeOf (P.elem t)).run P W = .ok 2 W) (l : Int) (k : Nat) (hl : l = (k : Nat)) (hk : k ≤ n) :
    ∃ A2 c2, (∀ W : World, (Instr.slice t (.slice A n c) (some (.int .i64 l)) none none).run P W = .ok (.slice A2 (n - k) c2) W) ∧ Tms w A2 (n - k) c2 (h.drop k) := by
  have hcap := Es.cap hx
  have hlen := hx.len
  refine ⟨if c = k then A else A.map (·.add (k * 2)), c - k, fun W => ?_, ?_⟩
  · rw [run_slice_l W t A n c ht .i64 l (by omega) (by omega), hsz]
    have e1 : l.toNat = k := by omega
    simp only [Result.andThen, sliced, e1]
  · refine ⟨?_, by omega, tmC_one _, fun hm0 => ?_⟩
    · rw [tmC_len, List.length_drop]; omega
    · obtain ⟨b, off, rfl, hb, hc⟩ := Es.mem hx (by omega)
      rw [if_neg (by omega)]
      refine ⟨b, off + k * 2, by simp [add_plain], hb, fun j u hj => ?_⟩
      rw [Nat.add_assoc]
      refine hc (k * 2 + j) u ?_
      have htl : (tmC (h.take k)).length = k * 2 := by rw [tmC_len, List.length_take]; congr 1; omega
      rw [tmC_split h k, List.getElem?_append_right (by omega), show k * 2 + j - (tmC (h.take k)).length = j by omega]
      exact hj
/-- what comes back of a call on one's own row: a row of one's own, again. -/
theorem TB.again {w0 w w' : World} {g n d : Nat} {h l : List Tm} (H : TB w0 w g n d h) {B : Option Addr} {m e : Nat} (ho : w'.ownsRow w.heap.size 24 2 (.slice B m e) m (tmC l)) (hb : Below w.heap.size w w') (hl : l.length = n) (hn : 0 < n) :
    ∃ g2, B = some ⟨g2, 0, none⟩ ∧ m = n ∧ TB w0 w' g2 n e l := by
  obtain ⟨h1, h2⟩ := own_n12 ho
  obtain rfl : m = n := by omega
  obtain ⟨g2, rfl⟩ := own_some12 ho hn
  exact ⟨g2, rfl, rfl, own_base ho H.bel.size, H.bel.trans (hb.mono H.bel.size)⟩
theorem upT_len : ∀ (f : Nat) (h : List Tm) (i : Nat), (upT f h i).length = h.length
  | 0, _, _ => rfl
  | f + 1, h, i => by
    unfold upT
    split
    · rw [upT_len f, swapT_len]
    · rfl
theorem downT_len : ∀ (f : Nat) (h : List Tm) (i : Nat), (downT f h i).length = h.length
  | 0, _, _ => rfl
  | f + 1, h, i => by
    unfold downT
    split
    · split
      · rw [downT_len f, swapT_len]
      · rfl
    · rfl
/-- timers, and what was wrong: a row of one's own, or what was handed in. -/
def HGot (w : World) (A : Option Addr) (n c : Nat) (r : List Tm × Int) (e : Ending) (w' : World) : Prop :=
  ∃ B m d, e = .returned (.tuple #[.slice B m d, .int .i64 r.2]) ∧ Tms w' B m d r.1 ∧ Below w.heap.size w w' ∧ (w'.ownsRow w.heap.size 24 2 (.slice B m d) m (tmC r.1) ∨ Value.slice B m d = .slice A n c)
set_option maxRecDepth 100000 in
set_option maxHeartbeats 4000000 in
theorem refWithout_any (A : Option Addr) (n c i : Nat) (h : List Tm) (w : World) (hx : Tms w A n c h) (hn : n ≤ 16384) (hi : i < n) :
    Calls Try.prog 32 #[.slice A n c, .int .i64 (i : Int)] w (OwnT w (wioT h i)) := by
  have hlen : h.length = n := hx.len
  obtain ⟨l, hl⟩ : ∃ l, n - 1 = l := ⟨_, rfl⟩
  obtain ⟨b, off, rfl, hb0, k0, k1⟩ := hx.look l (by omega)
  have hx2 := tms_pre hx l (by omega)
  have hcp := refCopy12_any (some ⟨b, off, none⟩) l c (h.take l) w hx2 (by omega)
  have HX2 := Lib.hid hx2
  have hwl : wioT h i = if i = l then h.take l else upT (i + 1) (downT n ((h.take l).set i (tmAt h l)) i) i := by unfold wioT; rw [hlen, hl]
  obtain ⟨R, hR⟩ : ∃ R, wioT h i = R := ⟨_, rfl⟩
  rw [hR] at hwl; rw [hR]
  have hln : (h.take l).length = l := hx2.len
  have hll : l < n := by omega
  have hcap : n ≤ c := Es.cap hx
  have lc : (l : Int) ≤ (c : Int) := by omega
  have lcn : l ≤ c := by omega
  have lz : (0 : Int) ≤ (l : Int) := by omega
  clear hcap
  obtain ⟨⟨lw, lk⟩, hlt⟩ : ∃ x, tmAt h l = x := ⟨_, rfl⟩
  rw [hlt] at k0 k1 hwl
  simp only at k0 k1
  have HB0 := Lib.hid hb0; have K0 := Lib.hid k0; have K1 := Lib.hid k1
  clear hR hx2 hlt hb0 k0 k1 hx
  have n0 : (n : Int) - 1 = (l : Int) := by omega
  have n1 : (0 : Int) < (n : Int) := by omega
  have hlN := Lib.hid hl
  clear hl hlen
  by_cases h1 : i = l
  · rw [if_pos h1] at hwl
    subst h1
    have HW := Lib.hid hwl
    have c1 : ((i : Int) == (i : Int)) = true := by simp
    clear hwl hln
    go_enter Try.func32, Try.ntmps32
    go_wp2_with fail
    refine hcp.mono ?_
    rintro e w2 ⟨B, m, d, rfl, hown, hb⟩
    have OW := Lib.hid hown; have HB := Lib.hid hb
    clear hown hb hcp
    go_wp2
    go_ret
    rw [HW.out]
    exact ⟨B, m, d, rfl, OW.out, HB.out⟩
  · rw [if_neg h1] at hwl
    have HW := Lib.hid hwl
    have c1 : ((i : Int) == (l : Int)) = false := by simp; omega
    have hil : i < l := by omega
    have i0 : (0 : Int) ≤ (i : Int) := by omega
    have i1 : (i : Int) < (l : Int) := by omega
    have l0 : (0 : Int) ≤ (l : Int) := by omega
    have l1 : (l : Int) < (n : Int) := by omega
    have HIL := Lib.hid hil
    have HLN := Lib.hid hln
    clear hwl h1 hln
    go_enter Try.func32, Try.ntmps32
    go_wp2_with fail
    refine hcp.mono ?_
    rintro e w2 ⟨B, m, d, rfl, hown, hb⟩
    obtain ⟨hn1, hn2⟩ := own_n12 hown
    rw [HLN.out] at hn2; subst hn2
    obtain ⟨g, rfl⟩ := own_some12 hown (by omega)
    have HT := Lib.hid (TB.mk hown hb)
    have s0 := (hb.cell (p := ⟨b, off + m * 2, none⟩) HB0.out).trans K0.out
    have s1 := (hb.cell (p := ⟨b, off + m * 2 + 1, none⟩) HB0.out).trans K1.out
    clear hown hb hcp hn1
    obtain ⟨a0, a1⟩ := HT.out.at i HIL.out
    have ff0 := HT.out.own.frozenAt (i * 2)
    have ff1 := HT.out.own.frozenAt (i * 2 + 1)
    have T2 := Lib.hid (HT.out.set i HIL.out lw lk)
    go_wp2_with fail
    refine (refDown_any (some ⟨g, 0, none⟩) m d n i _ _ (tms_own T2.out.own) (by omega) HIL.out (by omega)).mono ?_
    rintro e w3 ⟨B3, n3, d3, rfl, hown3, hb3⟩
    obtain ⟨g3, rfl, rfl, T3⟩ := T2.out.again hown3 hb3 (by rw [downT_len, List.length_set]; exact HLN.out) (by omega)
    replace T3 := Lib.hid T3
    clear hown3 hb3 T2 ff0 ff1 a0 a1 s0 s1 HT
    go_wp2_with fail
    refine (refUp_any (some ⟨g3, 0, none⟩) n3 d3 (i + 1) i _ _ (tms_own T3.out.own) (by omega) HIL.out (by omega)).mono ?_
    rintro e w4 ⟨B4, n4, d4, rfl, hown4, hb4⟩
    obtain ⟨g4, rfl, rfl, T4⟩ := T3.out.again hown4 hb4 (by rw [upT_len, downT_len, List.length_set]; exact HLN.out) (by omega)
    replace T4 := Lib.hid T4
    clear hown4 hb4 T3
    go_wp2
    go_ret
    rw [HW.out]
    exact T4.out.out
set_option maxRecDepth 100000 in
set_option maxHeartbeats 4000000 in
theorem refDrop12_any (A : Option Addr) (n c : Nat) (h : List Tm) (k : Int) (w : World) (hx : Tms w A n c h) (hn : n ≤ 16384) :
    Calls Try.prog 14 #[.slice A n c, .int .i64 k] w (HGot w A n c (dropH h k)) := by
  have hlen : h.length = n := hx.len
  have RX := Lib.hid hx
  have RT := fun (W : World) (hw : Tms W A n c h) => refRight12_any A n c h W hw hn
  have PL := fun (W : World) (hw : Tms W A n c h) => refPlace_any A n c h k W hw hn
  have WO := Lib.hid (fun (i : Nat) (W : World) (hw : Tms W A n c h) (hi : i < n) => refWithout_any A n c i h W hw hn hi)
  obtain ⟨R, hR⟩ : ∃ R, dropH h k = R := ⟨_, rfl⟩
  rw [hR]
  clear hx
  cases hr : rightH h
  · rw [hr] at RT
    replace RT := Lib.hid RT
    have HE := Lib.hid (show R = (h, 1) by rw [← hR]; unfold dropH; rw [if_pos hr])
    clear hr hR PL hlen
    go_enter Try.func14, Try.ntmps14
    go_wp2_with fail
    refine (RT.out w RX.out).mono ?_
    rintro e w1 ⟨rfl, hb⟩
    have HB := Lib.hid hb
    clear hb RT
    go_wp2
    go_ret2
    rw [HE.out]
    exact ⟨A, n, c, rfl, Es.below RX.out HB.out, HB.out, Or.inr rfl⟩
  · rw [hr] at RT
    replace RT := Lib.hid RT
    obtain ⟨p, hp⟩ : ∃ p, placeH h k = p := ⟨_, rfl⟩
    rw [hp] at PL
    replace PL := Lib.hid PL
    by_cases h1 : p < 0
    · have c1 : decide (p < 0) = true := by simpa using h1
      have HE := Lib.hid (show R = (h, 7) by rw [← hR]; unfold dropH; rw [if_neg (by rw [hr]; simp), if_pos (by rw [hp]; exact h1)])
      clear hr hR hlen h1 hp
      go_enter Try.func14, Try.ntmps14
      go_wp2_with fail
      refine (RT.out w RX.out).mono ?_
      rintro e w1 ⟨rfl, hb⟩
      have HB := Lib.hid hb
      clear hb RT
      go_wp2_with fail
      refine (PL.out _ (Es.below RX.out HB.out)).mono ?_
      rintro e w2 ⟨rfl, rfl⟩
      go_wp2
      go_ret2
      rw [HE.out]
      exact ⟨A, n, c, rfl, Es.below RX.out HB.out, HB.out, Or.inr rfl⟩
    · have c1 : decide (p < 0) = false := by simpa using h1
      obtain ⟨hpl, _⟩ := place_some (h := h) (task := k) (by rw [hp]; omega)
      rw [hp, hlen] at hpl
      obtain ⟨i, rfl⟩ : ∃ i : Nat, p = i := ⟨p.toNat, by omega⟩
      rw [Int.toNat_natCast] at hpl
      have HE := Lib.hid (show R = (wioT h i, 0) by rw [← hR]; unfold dropH; rw [if_neg (by rw [hr]; simp), if_neg (by rw [hp]; exact h1), hp, Int.toNat_natCast])
      have HPL := Lib.hid hpl
      clear hr hR hlen h1 hp hpl
      go_enter Try.func14, Try.ntmps14
      go_wp2_with fail
      refine (RT.out w RX.out).mono ?_
      rintro e w1 ⟨rfl, hb⟩
      have HB := Lib.hid hb
      clear hb RT
      go_wp2_with fail
      refine (PL.out _ (Es.below RX.out HB.out)).mono ?_
      rintro e w2 ⟨rfl, rfl⟩
      go_wp2_with fail
      refine (PL.out _ (Es.below RX.out HB.out)).mono ?_
      rintro e w3 ⟨rfl, rfl⟩
      go_wp2_with fail
      refine (WO.out i _ (Es.below RX.out HB.out) HPL.out).mono ?_
      rintro e w4 ⟨B, m, d, rfl, hown, hb⟩
      have OW := Lib.hid hown
      have HB4 := Lib.hid (HB.out.trans (hb.mono HB.out.size))
      have HSZ := Lib.hid HB.out.size
      clear hown hb HB
      go_wp2
      go_ret2
      rw [HE.out]
      exact ⟨B, m, d, rfl, tms_own OW.out, HB4.out, Or.inl (own_base OW.out HSZ.out)⟩
end Go.Proofs.Ytehpfpphpffniaa
