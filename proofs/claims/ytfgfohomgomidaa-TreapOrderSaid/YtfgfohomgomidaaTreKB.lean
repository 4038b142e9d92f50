/- What the landed treap's own walks of the free list and to a key of layer 9 answer; for slices of up to 16384 nodes. -/
import Derived.Test.YtfgfohomgomidaaTreKA
namespace Go.Proofs.Ytfgfohomgomidaa
set_option linter.unusedVariables false
set_option linter.unusedSimpArgs false
open Go.RowKit
/-- how many are free. -/
def FreeCnt (w : World) (r : Option Nat) (e : Ending) (w' : World) : Prop := e = .returned (.tuple #[.int .i64 (((r.getD 0 : Nat) : Nat) : Int), .bool r.isSome]) ∧ Below w.heap.size w w'
set_option maxRecDepth 100000 in
set_option maxHeartbeats 4000000 in
theorem tpFree_any (A : Option Addr) (n c : Nat) (ns : List Nd) (rt fr : Int) (w : World) (hx : Ns w A n c ns) (hn : n ≤ 16384) :
    Calls Try.prog 48 #[.agg #[.slice A n c, .int .i64 rt, .int .i64 fr]] w (FreeCnt w (walkC ns (n + 1) fr 0)) := by
  have hlen := hx.len
  have RX := Lib.hid hx
  have HL := Lib.hid hlen
  obtain ⟨R, hR⟩ : ∃ R, walkC ns (n + 1) fr 0 = R := ⟨_, rfl⟩
  rw [hR]
  have HW := Lib.hid (show R = walkC ns (n + 1 - 0) fr 0 from hR.symm)
  clear hx hR hlen
  obtain ⟨v1, hv1⟩ : ∃ W, w.alloc (.cells #[.slice A n c, .int .i64 rt, .int .i64 fr] 54) = W := ⟨_, rfl⟩
  have fr1 : Fr w v1 w.heap.size [.cells #[.slice A n c, .int .i64 rt, .int .i64 fr] 54] := hv1 ▸ Fr.first w _
  have z1 : v1.heap.size = w.heap.size + 1 := by rw [← hv1, Fr.size1]
  generalize hq : w.heap.size = q at *
  have FR := Lib.hid fr1
  clear fr1
  have c00 : v1.cell? ⟨q, 0, none⟩ = some (.slice A n c) := FR.out.cell 0 0 rfl rfl rfl
  have c01 : v1.cell? ⟨q, 1, none⟩ = some (.int .i64 rt) := FR.out.cell 0 1 rfl rfl rfl
  have c02 : v1.cell? ⟨q, 2, none⟩ = some (.int .i64 fr) := FR.out.cell 0 2 rfl rfl rfl
  go_enter Try.func48, Try.ntmps48
  go_wp2
  clear c00 c01 c02
  clear hv1 z1
  go_loopw [4, 5] (fun nv av wr => ∃ (ct : Nat) (at_ : Int), nv = .int .i64 (ct : Int) ∧ av = .int .i64 at_ ∧ ct ≤ n ∧ Hid (Fr w wr q [.cells #[.slice A n c, .int .i64 rt, .int .i64 fr] 54]) ∧ Hid (R = walkC ns (n + 1 - ct) at_ ct)) (fun nv _ _ => n - (intOf nv).toNat)
  case atStart => exact ⟨0, fr, rfl, rfl, by omega, FR.out, HW.out⟩
  case round =>
    clear FR HW
    obtain ⟨ct, at_, rfl, rfl, hct, FR, HW⟩ := hrel
    by_cases h1 : at_ = -1
    · have b0 : (at_ != -1) = false := by simp [h1]
      have HE := Lib.hid (show R = some ct by rw [HW.out]; exact walkC_end (by omega) h1)
      clear h1 HW
      go_wp2
      go_ret2
      rw [HE.out]
      exact ⟨rfl, FR.out.out⟩
    · have b0 : (at_ != -1) = true := by simp [h1]
      have hbad := fun h => walkC_bad (ns := ns) (f := n + 1 - ct) (c := ct) h1 h
      rw [← HW.out, HL.out] at hbad
      have PL := Lib.hid (fun (W : World) => tpPlace_any A n c rt fr at_ W)
      cases hp : placeIn n at_
      · rw [hp] at PL
        have HE := Lib.hid (show R = none from hbad (by
          rw [Bool.eq_false_iff, ne_eq, placeIn_iff] at hp
          omega))
        clear hp hbad h1 HW
        have c00 : wr.cell? ⟨q, 0, none⟩ = some (.slice A n c) := FR.out.cell 0 0 rfl rfl rfl
        have c01 : wr.cell? ⟨q, 1, none⟩ = some (.int .i64 rt) := FR.out.cell 0 1 rfl rfl rfl
        have c02 : wr.cell? ⟨q, 2, none⟩ = some (.int .i64 fr) := FR.out.cell 0 2 rfl rfl rfl
        go_wp2_with fail
        refine (PL.out _).mono ?_
        rintro e w2 ⟨rfl, hb⟩
        clear c00 c01 c02
        replace FR := Lib.hid (FR.out.step hb)
        clear hb
        go_wp2
        go_ret2
        rw [HE.out]
        exact ⟨rfl, FR.out.out⟩
      · rw [hp] at PL
        obtain ⟨i0, i1⟩ := placeIn_iff.1 hp
        obtain ⟨i, rfl⟩ : ∃ i : Nat, at_ = i := ⟨at_.toNat, by omega⟩
        have HS := Lib.hid (fun h => walkC_step (ns := ns) (f := n + 1 - ct) (c := ct) (by omega) h1 h)
        clear hp h1
        have c00 : wr.cell? ⟨q, 0, none⟩ = some (.slice A n c) := FR.out.cell 0 0 rfl rfl rfl
        have c01 : wr.cell? ⟨q, 1, none⟩ = some (.int .i64 rt) := FR.out.cell 0 1 rfl rfl rfl
        have c02 : wr.cell? ⟨q, 2, none⟩ = some (.int .i64 fr) := FR.out.cell 0 2 rfl rfl rfl
        go_wp2_with fail
        refine (PL.out _).mono ?_
        rintro e w2 ⟨rfl, hb⟩
        clear c00 c01 c02
        replace FR := Lib.hid (FR.out.step hb)
        clear hb
        obtain ⟨b, off, rfl, hb0, k0, k1, k2, k3, k4, k5⟩ := Ns.look (ns := ns) (FR.out.es RX.out) i (by omega)
        have IE := Lib.hid (fun (W : World) => tpIsEmpty_any (ndAt ns (i : Int)) W)
        replace HS := HS.out
        rw [← HW.out, HL.out] at HS
        cases he : decide (ndAt ns (i : Int) = empN (ndAt ns (i : Int)).l)
        · rw [he] at IE
          have HE := Lib.hid (show R = none from hbad (Or.inr (Or.inr (Or.inl (of_decide_eq_false he)))))
          clear he hbad HS HW
          generalize ndAt ns (i : Int) = r at *
          have c00 : w2.cell? ⟨q, 0, none⟩ = some (.slice (some ⟨b, off, none⟩) n c) := FR.out.cell 0 0 rfl rfl rfl
          have c01 : w2.cell? ⟨q, 1, none⟩ = some (.int .i64 rt) := FR.out.cell 0 1 rfl rfl rfl
          have c02 : w2.cell? ⟨q, 2, none⟩ = some (.int .i64 fr) := FR.out.cell 0 2 rfl rfl rfl
          go_wp2_with fail
          refine (IE.out _).mono ?_
          rintro e w3 ⟨rfl, hb⟩
          clear c00 c01 c02
          replace FR := Lib.hid (FR.out.step hb)
          clear hb
          go_wp2
          go_ret2
          rw [HE.out]
          exact ⟨rfl, FR.out.out⟩
        · rw [he] at IE
          have he := of_decide_eq_true he
          by_cases h2 : ct = n
          · have b2 : ((ct : Int) == (n : Int)) = true := by simp; omega
            have b2n : (ct == n) = true := by simp; omega
            have HE := Lib.hid (show R = none from hbad (Or.inr (Or.inr (Or.inr h2))))
            clear he hbad HS HW h2
            generalize ndAt ns (i : Int) = r at *
            have c00 : w2.cell? ⟨q, 0, none⟩ = some (.slice (some ⟨b, off, none⟩) n c) := FR.out.cell 0 0 rfl rfl rfl
            have c01 : w2.cell? ⟨q, 1, none⟩ = some (.int .i64 rt) := FR.out.cell 0 1 rfl rfl rfl
            have c02 : w2.cell? ⟨q, 2, none⟩ = some (.int .i64 fr) := FR.out.cell 0 2 rfl rfl rfl
            go_wp2_with fail
            refine (IE.out _).mono ?_
            rintro e w3 ⟨rfl, hb⟩
            clear c00 c01 c02
            replace FR := Lib.hid (FR.out.step hb)
            clear hb
            have c00 : w3.cell? ⟨q, 0, none⟩ = some (.slice (some ⟨b, off, none⟩) n c) := FR.out.cell 0 0 rfl rfl rfl
            have c01 : w3.cell? ⟨q, 1, none⟩ = some (.int .i64 rt) := FR.out.cell 0 1 rfl rfl rfl
            have c02 : w3.cell? ⟨q, 2, none⟩ = some (.int .i64 fr) := FR.out.cell 0 2 rfl rfl rfl
            go_wp2
            go_ret2
            rw [HE.out]
            exact ⟨rfl, FR.out.out⟩
          · have b2 : ((ct : Int) == (n : Int)) = false := by simp; omega
            have b2n : (ct == n) = false := by simp; omega
            have HW2 := Lib.hid (show R = walkC ns (n + 1 - (ct + 1)) (ndAt ns (i : Int)).l (ct + 1) by rw [HS (by simp only [not_or, Int.not_lt, Int.not_le, ne_eq, Decidable.not_not]; exact ⟨i0, i1, he, h2⟩)]; rfl)
            have hw1 : IntKind.i64.wrap ((ct : Int) + 1) = ((ct + 1 : Nat) : Int) := by rw [IntKind.wrap_i64]; omega
            clear he hbad HS HW
            generalize ndAt ns (i : Int) = r at *
            have kk2 := k2
            have hk2 := k2
            have c00 : w2.cell? ⟨q, 0, none⟩ = some (.slice (some ⟨b, off, none⟩) n c) := FR.out.cell 0 0 rfl rfl rfl
            have c01 : w2.cell? ⟨q, 1, none⟩ = some (.int .i64 rt) := FR.out.cell 0 1 rfl rfl rfl
            have c02 : w2.cell? ⟨q, 2, none⟩ = some (.int .i64 fr) := FR.out.cell 0 2 rfl rfl rfl
            go_wp2_with fail
            refine (IE.out _).mono ?_
            rintro e w3 ⟨rfl, hb⟩
            clear c00 c01 c02
            replace FR := Lib.hid (FR.out.step hb)
            replace k2 := (hb.cell (p := ⟨b, off + i * 6 + 2, none⟩) (show b < w2.heap.size from hb0)).trans k2
            clear hb kk2 hk2
            have c00 : w3.cell? ⟨q, 0, none⟩ = some (.slice (some ⟨b, off, none⟩) n c) := FR.out.cell 0 0 rfl rfl rfl
            have c01 : w3.cell? ⟨q, 1, none⟩ = some (.int .i64 rt) := FR.out.cell 0 1 rfl rfl rfl
            have c02 : w3.cell? ⟨q, 2, none⟩ = some (.int .i64 fr) := FR.out.cell 0 2 rfl rfl rfl
            go_wp2
            go_roundw
            case rel => exact ⟨ct + 1, r.l, by go_num, rfl, by omega, FR, HW2⟩
            case measure => simp [intOf]; omega
set_option maxRecDepth 100000 in
set_option maxHeartbeats 4000000 in
theorem tpFindW_any (A : Option Addr) (n c : Nat) (ns : List Nd) (rt fr key : Int) (w : World) (hx : Ns w A n c ns) (hn : n ≤ 16384) (fl l : List Int) (hok : TOk (ns, rt, fr) fl l) :
    Calls Try.prog 27 #[.agg #[.slice A n c, .int .i64 rt, .int .i64 fr], .int .i64 key] w (FindPost9 w (findT (ns, rt, fr) key)) := by
  have hlen := hx.len
  have RX := Lib.hid hx
  have HL := Lib.hid hlen
  obtain ⟨R, hR⟩ : ∃ R, findT (ns, rt, fr) key = R := ⟨_, rfl⟩
  rw [hR]
  unfold findT at hR
  rw [if_pos hok.right] at hR
  have hll := hok.len
  simp only [hlen] at hll
  have HTR := Lib.hid hok.tree
  have HRF := Lib.hid (show R = findN ns key (n + 1) rt 0 by rw [← hR]; simp only; rw [hlen])
  clear hx hR hlen hok
  obtain ⟨v1, hv1⟩ : ∃ W, w.alloc (.cells #[.slice A n c, .int .i64 rt, .int .i64 fr] 54) = W := ⟨_, rfl⟩
  have fr1 : Fr w v1 w.heap.size [.cells #[.slice A n c, .int .i64 rt, .int .i64 fr] 54] := hv1 ▸ Fr.first w _
  have z1 : v1.heap.size = w.heap.size + 1 := by rw [← hv1, Fr.size1]
  generalize hq : w.heap.size = q at *
  have FR := Lib.hid fr1
  clear fr1
  have c00 : v1.cell? ⟨q, 0, none⟩ = some (.slice A n c) := FR.out.cell 0 0 rfl rfl rfl
  have c01 : v1.cell? ⟨q, 1, none⟩ = some (.int .i64 rt) := FR.out.cell 0 1 rfl rfl rfl
  have c02 : v1.cell? ⟨q, 2, none⟩ = some (.int .i64 fr) := FR.out.cell 0 2 rfl rfl rfl
  go_enter Try.func27, Try.ntmps27
  go_wp2
  clear c00 c01 c02
  clear hv1 z1
  go_loopw [5, 7] (fun lv av wr => ∃ (looks f : Nat) (at_ : Int) (s : List Int), lv = .int .i64 (looks : Int) ∧ av = .int .i64 at_ ∧ looks + s.length ≤ n ∧ s.length < f ∧ Hid (Tr ns at_ s) ∧ Hid (R = findN ns key f at_ looks) ∧ Hid (Fr w wr q [.cells #[.slice A n c, .int .i64 rt, .int .i64 fr] 54])) (fun lv _ _ => n - (intOf lv).toNat)
  case atStart => exact ⟨0, n + 1, rt, l, rfl, rfl, by omega, by omega, HTR.out, HRF.out, FR.out⟩
  case round =>
    clear FR HTR HRF hll
    obtain ⟨looks, f, at_, s, rfl, rfl, hls, hsf, HT, HRF, FR⟩ := hrel
    by_cases h1 : at_ = -1
    · have b0 : (at_ != -1) = false := by simp [h1]
      have HE := Lib.hid (show R = (0, (looks : Int), false) by rw [HRF.out, h1]; exact findN_end (by omega))
      clear h1 HT HRF
      go_wp2
      go_ret3
      rw [HE.out]
      exact ⟨rfl, FR.out.out⟩
    · have b0 : (at_ != -1) = true := by simp [h1]
      obtain ⟨sa_, sb_, hs, g0, g1, ta, tb, _, _⟩ := HT.out.cases h1
      have hsl : s.length = sa_.length + sb_.length + 1 := by rw [hs]; simp; omega
      rw [HL.out] at g1
      obtain ⟨i, rfl⟩ : ∃ i : Nat, at_ = i := ⟨at_.toNat, by omega⟩
      have i0 : (0 : Int) ≤ (i : Int) := g0
      have i1 : (i : Int) < (n : Int) := g1
      have HTA := Lib.hid ta; have HTB := Lib.hid tb
      obtain ⟨b, off, rfl, hb0, k0, k1, k2, k3, k4, k5⟩ := Ns.look (ns := ns) (FR.out.es RX.out) i (by omega)
      have hw1 : IntKind.i64.wrap ((looks : Int) + 1) = ((looks + 1 : Nat) : Int) := by rw [IntKind.wrap_i64]; omega
      clear hb0 hs ta tb g0 g1 HT
      by_cases hk : (ndAt ns (i : Int)).k = key
      · have HE := Lib.hid (show R = ((i : Int), (looks : Int) + 1, true) by rw [HRF.out]; exact findN_hit (by omega) h1 hk)
        have b1 : ((ndAt ns (i : Int)).k == key) = true := by simp [hk]
        clear hk h1 HRF HTA HTB
        generalize ndAt ns (i : Int) = r at *
        have c00 : wr.cell? ⟨q, 0, none⟩ = some (.slice (some ⟨b, off, none⟩) n c) := FR.out.cell 0 0 rfl rfl rfl
        have c01 : wr.cell? ⟨q, 1, none⟩ = some (.int .i64 rt) := FR.out.cell 0 1 rfl rfl rfl
        have c02 : wr.cell? ⟨q, 2, none⟩ = some (.int .i64 fr) := FR.out.cell 0 2 rfl rfl rfl
        go_wp2
        go_ret3
        rw [HE.out]
        exact ⟨rfl, FR.out.out⟩
      · have b1 : ((ndAt ns (i : Int)).k == key) = false := by simp [hk]
        have hst := findN_step (ns := ns) (key := key) (looks := (looks : Int)) (at_ := (i : Int)) (f := f) (g := f - 1) (by omega) h1 hk
        rw [← HRF.out] at hst
        have TW := Lib.hid (fun (W : World) => tpTowards_any (ndAt ns (i : Int)) key W)
        obtain ⟨nx, hnx⟩ : ∃ nx, (if key < (ndAt ns (i : Int)).k then (ndAt ns (i : Int)).l else (ndAt ns (i : Int)).r) = nx := ⟨_, rfl⟩
        obtain ⟨s2, HT2, hl2⟩ : ∃ s2, Hid (Tr ns nx s2) ∧ s2.length < s.length := by
          rw [← hnx]
          split
          · exact ⟨sa_, HTA, by omega⟩
          · exact ⟨sb_, HTB, by omega⟩
        rw [hnx] at TW hst
        have HR2 := Lib.hid (show R = findN ns key (f - 1) nx ((looks + 1 : Nat) : Int) from hst)
        clear hst hk h1 hnx HRF HTA HTB
        generalize ndAt ns (i : Int) = r at *
        have c00 : wr.cell? ⟨q, 0, none⟩ = some (.slice (some ⟨b, off, none⟩) n c) := FR.out.cell 0 0 rfl rfl rfl
        have c01 : wr.cell? ⟨q, 1, none⟩ = some (.int .i64 rt) := FR.out.cell 0 1 rfl rfl rfl
        have c02 : wr.cell? ⟨q, 2, none⟩ = some (.int .i64 fr) := FR.out.cell 0 2 rfl rfl rfl
        go_wp2_with fail
        refine (TW.out _).mono ?_
        rintro e w2 ⟨rfl, hb⟩
        clear c00 c01 c02
        replace FR := Lib.hid (FR.out.step hb)
        clear hb
        go_wp2
        go_roundw
        case rel => exact ⟨looks + 1, f - 1, nx, s2, by go_num, rfl, by omega, by omega, HT2, HR2, FR⟩
        case measure => simp [intOf]; omega
end Go.Proofs.Ytfgfohomgomidaa
