/- What the landed treap's own Right, Keys, Find, and the copies that it makes, of layer 9 answer; for slices of up to 16384 nodes. -/
import Derived.Test.YtfgfohomgomidaaTreKC
namespace Go.Proofs.Ytfgfohomgomidaa
set_option linter.unusedVariables false
set_option linter.unusedSimpArgs false
open Go.RowKit
theorem FreeCnt.as {w : World} {r : Option Nat} {e : Ending} {w' : World} {v : Nat} {bb : Bool} (h : FreeCnt w r e w') (h1 : r.getD 0 = v) (h2 : r.isSome = bb) : e = .returned (.tuple #[.int .i64 (v : Int), .bool bb]) ∧ Below w.heap.size w w' := by
  subst h1; subst h2; exact h
def RisePost (w : World) (p : Trp) (e : Ending) (w' : World) : Prop :=
  ∃ r C m d bb, RiseOk p r ∧ r.isSome = bb ∧ e = .returned (.tuple #[.slice C m d, .bool bb]) ∧ w'.ownsRow w.heap.size 3 1 (.slice C m d) m (intC (r.getD [])) ∧ Below w.heap.size w w'
set_option maxRecDepth 100000 in
set_option maxHeartbeats 4000000 in
theorem tpRising_any (A : Option Addr) (n c : Nat) (ns : List Nd) (rt fr : Int) (w : World) (hx : Ns w A n c ns) (hn : n ≤ 16384) :
    Calls Try.prog 37 #[.agg #[.slice A n c, .int .i64 rt, .int .i64 fr]] w (RisePost w (ns, rt, fr)) := by
  have hlen := hx.len
  have HL := Lib.hid hlen
  have RX := Lib.hid hx
  clear hx
  obtain ⟨v1, hv1⟩ : ∃ W, w.alloc (.cells #[.slice A n c, .int .i64 rt, .int .i64 fr] 54) = W := ⟨_, rfl⟩
  have fr1 : Fr w v1 w.heap.size [.cells #[.slice A n c, .int .i64 rt, .int .i64 fr] 54] := hv1 ▸ Fr.first w _
  have z1 : v1.heap.size = w.heap.size + 1 := by rw [← hv1, Fr.size1]
  generalize hq : w.heap.size = q at *
  have FR := Lib.hid fr1
  clear fr1
  by_cases h0 : 64 < n
  · have b0 : decide ((64 : Int) < (n : Int)) = true := by simp; omega
    have b0n : decide (64 < n) = true := by simp; omega
    have HE := Lib.hid (show RiseOk (ns, rt, fr) none from rise_big (by show 64 < ns.length; omega))
    clear h0
    have c00 : v1.cell? ⟨q, 0, none⟩ = some (.slice A n c) := FR.out.cell 0 0 rfl rfl rfl
    have c01 : v1.cell? ⟨q, 1, none⟩ = some (.int .i64 rt) := FR.out.cell 0 1 rfl rfl rfl
    have c02 : v1.cell? ⟨q, 2, none⟩ = some (.int .i64 fr) := FR.out.cell 0 2 rfl rfl rfl
    go_enter Try.func37, Try.ntmps37
    go_wp2
    go_ret2
    exact ⟨none, none, 0, 0, false, HE.out, rfl, rfl, World.ownsRow_nil _ _ _ _, FR.out.out⟩
  · have b0 : decide ((64 : Int) < (n : Int)) = false := by simp; omega
    have b0n : decide (64 < n) = false := by simp; omega
    have BG := fun (W : World) => tpBegin_any A n c rt fr rt W
    cases hbg : beginIn n rt
    · rw [hbg] at BG
      replace BG := Lib.hid BG
      have HE := Lib.hid (show RiseOk (ns, rt, fr) none from rise_root (by show beginIn ns.length rt = false; rw [hlen]; exact hbg))
      clear h0 hbg
      go_enter Try.func37, Try.ntmps37
      have c00 : v1.cell? ⟨q, 0, none⟩ = some (.slice A n c) := FR.out.cell 0 0 rfl rfl rfl
      have c01 : v1.cell? ⟨q, 1, none⟩ = some (.int .i64 rt) := FR.out.cell 0 1 rfl rfl rfl
      have c02 : v1.cell? ⟨q, 2, none⟩ = some (.int .i64 fr) := FR.out.cell 0 2 rfl rfl rfl
      go_wp2_with fail
      refine (BG.out _).mono ?_
      rintro e w2 ⟨rfl, hb⟩
      clear c00 c01 c02
      replace FR := Lib.hid (FR.out.step hb)
      clear hb
      go_wp2
      go_ret2
      exact ⟨none, none, 0, 0, false, HE.out, rfl, rfl, World.ownsRow_nil _ _ _ _, FR.out.out⟩
    · rw [hbg] at BG
      replace BG := Lib.hid BG
      have HRT := Lib.hid (show rt = -1 ∨ (0 ≤ rt ∧ rt < (n : Int) ∧ rankN ns (ndAt ns rt) < n + 1) from by
        rcases beginIn_iff.1 hbg with h | h
        · exact Or.inl h
        · have := rank_le ns (ndAt ns rt); exact Or.inr ⟨h.1, h.2, by omega⟩)
      have FC := Lib.hid (fun (W : World) (h : Ns W A n c ns) => tpFree_any A n c ns rt fr W h hn)
      obtain ⟨R, hR⟩ : ∃ R, walkC ns (n + 1) fr 0 = R := ⟨_, rfl⟩
      rw [hR] at FC
      obtain ⟨v, hv⟩ : ∃ v : Nat, R.getD 0 = v := ⟨_, rfl⟩
      obtain ⟨bf, hbf⟩ : ∃ bf, R.isSome = bf := ⟨_, rfl⟩
      have HV := Lib.hid hv; have HBF := Lib.hid hbf
      have n64 : n ≤ 64 := by omega
      clear h0 hbg hv hbf
      go_enter Try.func37, Try.ntmps37
      have c00 : v1.cell? ⟨q, 0, none⟩ = some (.slice A n c) := FR.out.cell 0 0 rfl rfl rfl
      have c01 : v1.cell? ⟨q, 1, none⟩ = some (.int .i64 rt) := FR.out.cell 0 1 rfl rfl rfl
      have c02 : v1.cell? ⟨q, 2, none⟩ = some (.int .i64 fr) := FR.out.cell 0 2 rfl rfl rfl
      go_wp2_with fail
      refine (BG.out _).mono ?_
      rintro e w2 ⟨rfl, hb⟩
      clear c00 c01 c02
      replace FR := Lib.hid (FR.out.step hb)
      clear hb
      have c00 : w2.cell? ⟨q, 0, none⟩ = some (.slice A n c) := FR.out.cell 0 0 rfl rfl rfl
      have c01 : w2.cell? ⟨q, 1, none⟩ = some (.int .i64 rt) := FR.out.cell 0 1 rfl rfl rfl
      have c02 : w2.cell? ⟨q, 2, none⟩ = some (.int .i64 fr) := FR.out.cell 0 2 rfl rfl rfl
      go_wp2_with fail
      refine ((FC.out _ (FR.out.es RX.out)).mono fun e w2 h => h.as HV.out HBF.out).mono ?_
      rintro e w3 ⟨rfl, hb⟩
      clear c00 c01 c02
      replace FR := Lib.hid (FR.out.step hb)
      clear hb
      cases bf
      · have HE := Lib.hid (show RiseOk (ns, rt, fr) none from rise_free (by show walkC ns (ns.length + 1) fr 0 = none; rw [hlen, hR]; exact none_of HBF.out))
        clear hR
        go_wp2
        go_ret2
        exact ⟨none, none, 0, 0, false, HE.out, rfl, rfl, World.ownsRow_nil _ _ _ _, FR.out.out⟩
      · have hRv : walkC ns (n + 1) fr 0 = some v := by
          obtain ⟨x, hx⟩ := some_of HBF.out
          rw [hR, hx]; have := HV.out; rw [hx] at this; simpa using this
        have hvn : v ≤ n := by
          obtain ⟨l, hc, hm⟩ := walkC_fch hRv
          have := places_len (fch_nodup hc) (fch_in hc); omega
        have HRV := Lib.hid hRv
        clear hRv hR
        have BH := Lib.hid (tpBehind_any A n c ns rt fr w3 (FR.out.es RX.out) hn (n + 1) none 0 0 [] rt w3 (Below.refl _ _) (World.ownsRow_nil _ _ _ _) (RP.nil ns) HRT.out)
        have c00 : w3.cell? ⟨q, 0, none⟩ = some (.slice A n c) := FR.out.cell 0 0 rfl rfl rfl
        have c01 : w3.cell? ⟨q, 1, none⟩ = some (.int .i64 rt) := FR.out.cell 0 1 rfl rfl rfl
        have c02 : w3.cell? ⟨q, 2, none⟩ = some (.int .i64 fr) := FR.out.cell 0 2 rfl rfl rfl
        go_wp2_with fail
        refine BH.out.mono ?_
        rintro e w8 ⟨r1, C1, m1, d1, bb, hbeh, hbb, rfl, hown, hkp⟩
        clear c00 c01 c02
        have hb := hkp.bel
        have FR0 := FR.out.sz
        simp only [List.length_cons, List.length_nil] at FR0
        replace FR := Lib.hid (FR.out.step hb)
        have OW := Lib.hid (own_base hown (show q ≤ _ from by omega))
        clear hown hkp hb BH FR0
        cases bb
        · have HE := Lib.hid (show RiseOk (ns, rt, fr) none from rise_beh (none_of hbb ▸ hbeh))
          clear hbeh hbb
          go_wp2
          go_ret2
          exact ⟨none, none, 0, 0, false, HE.out, rfl, rfl, World.ownsRow_nil _ _ _ _, FR.out.out⟩
        · obtain ⟨o1, rfl⟩ := some_of hbb
          replace OW := Lib.hid (show w8.ownsRow q 3 1 (.slice C1 m1 d1) m1 (intC o1) from OW.out)
          have hm1 : o1.length = m1 := by have h := OW.out.1; rw [intC_len] at h; omega
          have hol : m1 ≤ n := by have h1 := (beh_rp hbeh).len; omega
          obtain ⟨sm, hsm⟩ : ∃ sm : Int, sm = (m1 : Int) + (v : Int) := ⟨_, rfl⟩
          have hw1 : IntKind.i64.wrap ((m1 : Int) + (v : Int)) = sm := by rw [IntKind.wrap_i64]; omega
          by_cases h3 : m1 + v = n
          · have b3 : (sm != (n : Int)) = false := by simp; omega
            have HE := Lib.hid (show RiseOk (ns, rt, fr) (some o1) from rise_all (show ns.length ≤ 64 by omega) (show walkC ns (ns.length + 1) fr 0 = some v by rw [hlen]; exact HRV.out) hbeh (show o1.length + v = ns.length by omega))
            clear hbeh hbb hm1 hsm h3
            have c00 : w8.cell? ⟨q, 0, none⟩ = some (.slice A n c) := FR.out.cell 0 0 rfl rfl rfl
            have c01 : w8.cell? ⟨q, 1, none⟩ = some (.int .i64 rt) := FR.out.cell 0 1 rfl rfl rfl
            have c02 : w8.cell? ⟨q, 2, none⟩ = some (.int .i64 fr) := FR.out.cell 0 2 rfl rfl rfl
            go_wp2
            go_ret2
            exact ⟨some o1, C1, m1, d1, true, HE.out, rfl, rfl, own_base OW.out (by rw [hq]; omega), FR.out.out⟩
          · have b3 : (sm != (n : Int)) = true := by simp; omega
            have HE := Lib.hid (show RiseOk (ns, rt, fr) none from rise_sum (show walkC ns (ns.length + 1) fr 0 = some v by rw [hlen]; exact HRV.out) hbeh (show o1.length + v ≠ ns.length by omega))
            clear hbeh hbb hm1 hsm h3
            have c00 : w8.cell? ⟨q, 0, none⟩ = some (.slice A n c) := FR.out.cell 0 0 rfl rfl rfl
            have c01 : w8.cell? ⟨q, 1, none⟩ = some (.int .i64 rt) := FR.out.cell 0 1 rfl rfl rfl
            have c02 : w8.cell? ⟨q, 2, none⟩ = some (.int .i64 fr) := FR.out.cell 0 2 rfl rfl rfl
            go_wp2
            go_ret2
            exact ⟨none, none, 0, 0, false, HE.out, rfl, rfl, World.ownsRow_nil _ _ _ _, FR.out.out⟩
set_option maxRecDepth 100000 in
set_option maxHeartbeats 4000000 in
theorem tpRight_any (A : Option Addr) (n c : Nat) (ns : List Nd) (rt fr : Int) (w : World) (hx : Ns w A n c ns) (hn : n ≤ 16384) :
    Calls Try.prog 16 #[.agg #[.slice A n c, .int .i64 rt, .int .i64 fr]] w (Yes9 w (rightT (ns, rt, fr))) := by
  have RX := Lib.hid hx
  clear hx
  obtain ⟨v1, hv1⟩ : ∃ W, w.alloc (.cells #[.slice A n c, .int .i64 rt, .int .i64 fr] 24) = W := ⟨_, rfl⟩
  have fr1 : Fr w v1 w.heap.size [.cells #[.slice A n c, .int .i64 rt, .int .i64 fr] 24] := hv1 ▸ Fr.first w _
  have z1 : v1.heap.size = w.heap.size + 1 := by rw [← hv1, Fr.size1]
  generalize hq : w.heap.size = q at *
  have FR := Lib.hid fr1
  clear fr1
  have RS := Lib.hid (tpRising_any A n c ns rt fr v1 (FR.out.es RX.out) hn)
  obtain ⟨rr, hrr⟩ : ∃ rr, rightT (ns, rt, fr) = rr := ⟨_, rfl⟩
  rw [hrr]
  go_enter Try.func16, Try.ntmps16
  have c00 : v1.cell? ⟨q, 0, none⟩ = some (.slice A n c) := FR.out.cell 0 0 rfl rfl rfl
  have c01 : v1.cell? ⟨q, 1, none⟩ = some (.int .i64 rt) := FR.out.cell 0 1 rfl rfl rfl
  have c02 : v1.cell? ⟨q, 2, none⟩ = some (.int .i64 fr) := FR.out.cell 0 2 rfl rfl rfl
  go_wp2_with fail
  refine (RS.out).mono ?_
  rintro e w2 ⟨r, C, m, d, bb, hr, hbb, rfl, hown, hb⟩
  clear c00 c01 c02
  replace FR := Lib.hid (FR.out.step hb)
  clear hb
  obtain rfl : rr = bb := by rw [← hrr, hr.right, hbb]
  clear RS
  go_wp2
  go_ret
  exact ⟨rfl, FR.out.out⟩
set_option maxRecDepth 100000 in
set_option maxHeartbeats 8000000 in
theorem tpKeys_any (A : Option Addr) (n c : Nat) (ns : List Nd) (rt fr : Int) (w : World) (hx : Ns w A n c ns) (hn : n ≤ 16384) :
    Calls Try.prog 19 #[.agg #[.slice A n c, .int .i64 rt, .int .i64 fr]] w (OwnI w (keysT (ns, rt, fr))) := by
  obtain ⟨i5, hi5, hz0, hz1, hz2⟩ := info_of infoInt
  have HI := Lib.hid hi5; have HZ0 := Lib.hid hz0; have HZ1 := Lib.hid hz1; have HZ2 := Lib.hid hz2
  clear hi5 hz0 hz1 hz2
  have hlen := hx.len
  have RX := Lib.hid hx
  clear hx
  obtain ⟨v1, hv1⟩ : ∃ W, w.alloc (.cells #[.slice A n c, .int .i64 rt, .int .i64 fr] 24) = W := ⟨_, rfl⟩
  have fr1 : Fr w v1 w.heap.size [.cells #[.slice A n c, .int .i64 rt, .int .i64 fr] 24] := hv1 ▸ Fr.first w _
  have z1 : v1.heap.size = w.heap.size + 1 := by rw [← hv1, Fr.size1]
  generalize hq : w.heap.size = q at *
  have FR := Lib.hid fr1
  clear fr1
  have RS := Lib.hid (tpRising_any A n c ns rt fr v1 (FR.out.es RX.out) hn)
  have FR0 := FR.out.sz
  simp only [List.length_cons, List.length_nil] at FR0
  go_enter Try.func19, Try.ntmps19
  have c00 : v1.cell? ⟨q, 0, none⟩ = some (.slice A n c) := FR.out.cell 0 0 rfl rfl rfl
  have c01 : v1.cell? ⟨q, 1, none⟩ = some (.int .i64 rt) := FR.out.cell 0 1 rfl rfl rfl
  have c02 : v1.cell? ⟨q, 2, none⟩ = some (.int .i64 fr) := FR.out.cell 0 2 rfl rfl rfl
  go_wp2_with fail
  refine (RS.out).mono ?_
  rintro e w2 ⟨r, C, m, d, bb, hr, hbb, rfl, hown, hb⟩
  clear c00 c01 c02
  replace FR := Lib.hid (FR.out.step hb)
  clear hb
  obtain ⟨l, hl⟩ : ∃ l, r.getD [] = l := ⟨_, rfl⟩
  rw [hl] at hown
  have HK := Lib.hid (show keysT (ns, rt, fr) = l.map (keyT ns) by rw [hr.keys, hl])
  have HPL := Lib.hid (show (∀ x ∈ l, 0 ≤ x ∧ x < (n : Int)) ∧ l.length ≤ n from by
    cases r with
    | none => simp at hl; subst hl; simp
    | some o => obtain ⟨fl, hok⟩ := hr; simp at hl; subst hl; have h1 := hok.inN; have h2 := hok.len; simp only [hlen] at h1 h2; exact ⟨h1, h2⟩)
  obtain ⟨_, _, he, his⟩ := Es.of_own hown (intC_one _)
  injection he with he1 he2 he3; subst he1; subst he3
  have HIS := Lib.hid (show Is _ C m d l from his)
  have HM := Lib.hid (show l.length = m from Is.len his)
  have hmn : m ≤ n := by have := HPL.out.2; have := HM.out; omega
  clear hr hbb hl hown his RS FR0
  have c00 : w2.cell? ⟨q, 0, none⟩ = some (.slice A n c) := FR.out.cell 0 0 rfl rfl rfl
  have c01 : w2.cell? ⟨q, 1, none⟩ = some (.int .i64 rt) := FR.out.cell 0 1 rfl rfl rfl
  have c02 : w2.cell? ⟨q, 2, none⟩ = some (.int .i64 fr) := FR.out.cell 0 2 rfl rfl rfl
  go_wp2
  clear c00 c01 c02
  clear hv1 z1
  go_loopw [5, 16] (fun ov iv wr => ∃ (i : Nat), iv = .int .i64 (i : Int) ∧ i ≤ m ∧ lenV ov = i ∧ Hid (wr.ownsRow w2.heap.size 3 1 ov i (intC ((l.map (keyT ns)).take i))) ∧ Hid (Below w2.heap.size w2 wr)) (fun _ iv _ => m - (intOf iv).toNat)
  case atStart => exact ⟨0, rfl, by omega, rfl, World.ownsRow_nil _ _ _ _, Below.refl _ _⟩
  case round =>
    obtain ⟨i, rfl, hi, hlv, OW, hbl⟩ := hrel
    have FR3 := FR
    replace FR := Lib.hid (FR.out.step hbl.out)
    obtain ⟨C2, d2, rfl, hit⟩ := Es.of_own OW.out (intC_one _)
    clear hit hlv
    by_cases hlt : i < m
    · have b1 : decide ((i : Int) < (m : Int)) = true := by simpa using hlt
      obtain ⟨lb, loff, x, rfl, hlb, hlc, hdr⟩ := (show Is w2 _ m d l from HIS.out).look i hlt
      replace hlc := (hbl.out.cell (p := ⟨lb, loff + i, none⟩) hlb).trans hlc
      have hx := HPL.out.1 x (mem_at hdr)
      obtain ⟨k, rfl⟩ : ∃ k : Nat, x = k := ⟨x.toNat, by omega⟩
      have rxr : Ns w2 A n c ns := FR3.out.es RX.out
      have hqz : q < w2.heap.size := by have := FR3.out.sz; simp only [List.length_cons, List.length_nil] at this; omega
      clear FR3
      have c00 : wr.cell? ⟨q, 0, none⟩ = some (.slice A n c) := FR.out.cell 0 0 rfl rfl rfl
      have c01 : wr.cell? ⟨q, 1, none⟩ = some (.int .i64 rt) := FR.out.cell 0 1 rfl rfl rfl
      have c02 : wr.cell? ⟨q, 2, none⟩ = some (.int .i64 fr) := FR.out.cell 0 2 rfl rfl rfl
      obtain ⟨b, off, rfl, hb0, k0, k1, k2, k3, k4, k5⟩ := Ns.look (ns := ns) rxr k (by omega)
      have hi0 : (0 : Int) ≤ (i : Int) := by omega
      have hi1 : (i : Int) < (m : Int) := by omega
      have hk0 : (0 : Int) ≤ (k : Int) := by omega
      have hk1 : (k : Int) < (n : Int) := by omega
      have lez := hbl.out.size
      replace k0 := (hbl.out.cell (p := ⟨b, off + k * 6, none⟩) hb0).trans k0
      obtain ⟨A4, c4, w9, hap4, hown4, hbel4⟩ := eapp_lit (P := Try.prog) (ty := 38) (w0 := wr) (base := w2.heap.size) (W := wr) Try.underlying38 HI.out HZ0.out HZ1.out HZ2.out rfl (by decide) OW.out (intC_one _) (intC [(ndAt ns (k : Int)).k]) (intC_one _) (m := 1) rfl (by unfold maxLen; omega) (by omega) (Below.refl _ wr) (show _ ≤ wr.heap.size from lez)
      rw [← intC_app, show [(ndAt ns (k : Int)).k] = [keyT ns (k : Int)] from rfl, ← drop_map9 (f := keyT ns) hdr] at hown4
      have HO4 := Lib.hid hown4; have HB4 := Lib.hid (hbl.out.trans hbel4)
      clear hown4 hbel4 OW hbl rxr hdr hx k1 k2 k3 k4 k5
      generalize ndAt ns (k : Int) = r at *
      replace hap4 : (Builtin.append_ #[38, 38] 38 #[_, .slice (some ⟨wr.heap.size, 0, none⟩) 1 1]).run Try.prog (wr.alloc (.cells #[.int .i64 r.k] 3)) = _ := hap4
      go_wp2_with (at_builtin; refine eapp_run (by rfl) rfl rfl rfl hap4 ?_)
      go_roundw
      case rel => exact ⟨i + 1, by go_num, by omega, rfl, HO4.out, HB4.out⟩
      case measure => simp [intOf]; omega
    · obtain rfl : i = m := by omega
      have b1 : decide ((i : Int) < (i : Int)) = false := by simp
      have HF := Lib.hid (show wr.ownsRow _ 3 1 (.slice C2 i d2) i (intC (keysT (ns, rt, fr))) by have h := OW.out; rw [List.take_of_length_le (by rw [List.length_map]; exact Nat.le_of_eq HM.out)] at h; rw [HK.out]; exact h)
      have HQ3 := Lib.hid (FR3.out.sz)
      clear OW hlt
      go_wp2
      go_ret
      exact ⟨_, _, _, rfl, own_base HF.out (by have := HQ3.out; rw [hq]; omega), FR.out.out⟩
set_option maxRecDepth 100000 in
set_option maxHeartbeats 4000000 in
theorem tpFindK_any (A : Option Addr) (n c : Nat) (ns : List Nd) (rt fr key : Int) (w : World) (hx : Ns w A n c ns) (hn : n ≤ 16384) :
    Calls Try.prog 13 #[.agg #[.slice A n c, .int .i64 rt, .int .i64 fr], .int .i64 key] w (FindPost9 w (findT (ns, rt, fr) key)) := by
  have RX := Lib.hid hx
  have RT := fun (W : World) (h : Ns W A n c ns) => tpRight_any A n c ns rt fr W h hn
  obtain ⟨R, hR⟩ : ∃ R, findT (ns, rt, fr) key = R := ⟨_, rfl⟩
  rw [hR]
  clear hx
  obtain ⟨v1, hv1⟩ : ∃ W, w.alloc (.cells #[.slice A n c, .int .i64 rt, .int .i64 fr] 24) = W := ⟨_, rfl⟩
  have fr1 : Fr w v1 w.heap.size [.cells #[.slice A n c, .int .i64 rt, .int .i64 fr] 24] := hv1 ▸ Fr.first w _
  have z1 : v1.heap.size = w.heap.size + 1 := by rw [← hv1, Fr.size1]
  generalize hq : w.heap.size = q at *
  have FR := Lib.hid fr1
  clear fr1
  cases hr : rightT (ns, rt, fr)
  · rw [hr] at RT
    replace RT := Lib.hid RT
    have HE := Lib.hid (show R = (0, 0, false) from by rw [← hR]; unfold findT; rw [if_neg (by rw [hr]; simp)])
    clear hr hR
    go_enter Try.func13, Try.ntmps13
    have c00 : v1.cell? ⟨q, 0, none⟩ = some (.slice A n c) := FR.out.cell 0 0 rfl rfl rfl
    have c01 : v1.cell? ⟨q, 1, none⟩ = some (.int .i64 rt) := FR.out.cell 0 1 rfl rfl rfl
    have c02 : v1.cell? ⟨q, 2, none⟩ = some (.int .i64 fr) := FR.out.cell 0 2 rfl rfl rfl
    go_wp2_with fail
    refine ((RT.out _ (FR.out.es RX.out))).mono ?_
    rintro e w2 ⟨rfl, hb⟩
    clear c00 c01 c02
    replace FR := Lib.hid (FR.out.step hb)
    clear hb
    go_wp2
    go_ret3
    rw [HE.out]
    exact ⟨rfl, FR.out.out⟩
  · rw [hr] at RT
    replace RT := Lib.hid RT
    obtain ⟨fl, l, hok⟩ := TOk.of hr
    have FW := fun (W : World) (h : Ns W A n c ns) => tpFindW_any A n c ns rt fr key W h hn fl l hok
    rw [hR] at FW
    replace FW := Lib.hid FW
    clear hr hR hok
    go_enter Try.func13, Try.ntmps13
    have c00 : v1.cell? ⟨q, 0, none⟩ = some (.slice A n c) := FR.out.cell 0 0 rfl rfl rfl
    have c01 : v1.cell? ⟨q, 1, none⟩ = some (.int .i64 rt) := FR.out.cell 0 1 rfl rfl rfl
    have c02 : v1.cell? ⟨q, 2, none⟩ = some (.int .i64 fr) := FR.out.cell 0 2 rfl rfl rfl
    go_wp2_with fail
    refine ((RT.out _ (FR.out.es RX.out))).mono ?_
    rintro e w2 ⟨rfl, hb⟩
    clear c00 c01 c02
    replace FR := Lib.hid (FR.out.step hb)
    clear hb
    have c00 : w2.cell? ⟨q, 0, none⟩ = some (.slice A n c) := FR.out.cell 0 0 rfl rfl rfl
    have c01 : w2.cell? ⟨q, 1, none⟩ = some (.int .i64 rt) := FR.out.cell 0 1 rfl rfl rfl
    have c02 : w2.cell? ⟨q, 2, none⟩ = some (.int .i64 fr) := FR.out.cell 0 2 rfl rfl rfl
    go_wp2_with fail
    refine ((FW.out _ (FR.out.es RX.out))).mono ?_
    rintro e w3 ⟨rfl, hb⟩
    clear c00 c01 c02
    replace FR := Lib.hid (FR.out.step hb)
    clear hb
    go_wp2
    go_ret3
    exact ⟨rfl, FR.out.out⟩
/-- a key's place, and what was wrong. -/
def placeE (p : Trp) (key : Int) : Int × Int := if rightT p = false then (0, 1) else if placeT p.1 key < 0 then (0, 7) else (placeT p.1 key, 0)
def PlacePost9 (w : World) (r : Int × Int) (e : Ending) (w' : World) : Prop := e = .returned (.tuple #[.int .i64 r.1, .int .i64 r.2]) ∧ Below w.heap.size w w'
set_option maxRecDepth 100000 in
set_option maxHeartbeats 4000000 in
theorem tpPlaceE_any (A : Option Addr) (n c : Nat) (ns : List Nd) (rt fr key : Int) (w : World) (hx : Ns w A n c ns) (hn : n ≤ 16384) :
    Calls Try.prog 32 #[.agg #[.slice A n c, .int .i64 rt, .int .i64 fr], .int .i64 key] w (PlacePost9 w (placeE (ns, rt, fr) key)) := by
  have RX := Lib.hid hx
  have RT := fun (W : World) (h : Ns W A n c ns) => tpRight_any A n c ns rt fr W h hn
  obtain ⟨R, hR⟩ : ∃ R, placeE (ns, rt, fr) key = R := ⟨_, rfl⟩
  rw [hR]
  clear hx
  obtain ⟨v1, hv1⟩ : ∃ W, w.alloc (.cells #[.slice A n c, .int .i64 rt, .int .i64 fr] 54) = W := ⟨_, rfl⟩
  have fr1 : Fr w v1 w.heap.size [.cells #[.slice A n c, .int .i64 rt, .int .i64 fr] 54] := hv1 ▸ Fr.first w _
  have z1 : v1.heap.size = w.heap.size + 1 := by rw [← hv1, Fr.size1]
  generalize hq : w.heap.size = q at *
  have FR := Lib.hid fr1
  clear fr1
  cases hr : rightT (ns, rt, fr)
  · rw [hr] at RT
    replace RT := Lib.hid RT
    have HE := Lib.hid (show R = (0, 1) from by rw [← hR]; unfold placeE; rw [if_pos hr])
    clear hr hR
    go_enter Try.func32, Try.ntmps32
    have c00 : v1.cell? ⟨q, 0, none⟩ = some (.slice A n c) := FR.out.cell 0 0 rfl rfl rfl
    have c01 : v1.cell? ⟨q, 1, none⟩ = some (.int .i64 rt) := FR.out.cell 0 1 rfl rfl rfl
    have c02 : v1.cell? ⟨q, 2, none⟩ = some (.int .i64 fr) := FR.out.cell 0 2 rfl rfl rfl
    go_wp2_with fail
    refine ((RT.out _ (FR.out.es RX.out))).mono ?_
    rintro e w2 ⟨rfl, hb⟩
    clear c00 c01 c02
    replace FR := Lib.hid (FR.out.step hb)
    clear hb
    go_wp2
    go_ret2
    rw [HE.out]
    exact ⟨rfl, FR.out.out⟩
  · rw [hr] at RT
    replace RT := Lib.hid RT
    obtain ⟨fl, l, hok⟩ := TOk.of hr
    have FW := fun (W : World) (h : Ns W A n c ns) => tpFindW_any A n c ns rt fr key W h hn fl l hok
    have hE : R = if placeT ns key < 0 then (0, 7) else (placeT ns key, 0) := by rw [← hR]; unfold placeE; exact if_neg (by rw [hr]; simp)
    obtain ⟨x, ct, bb, hf, hE2⟩ : ∃ x ct bb, findT (ns, rt, fr) key = (x, ct, bb) ∧ R = if bb = true then (x, 0) else (0, 7) := by
      rcases hok.find key with ⟨x, hx, hk, ct, _, _, he⟩ | ⟨hn, ct, _, he⟩
      · have hp := hok.place_some hx hk; have hp : placeT ns key = x := hp; have hb := hok.inN x hx
        exact ⟨x, ct, true, he, by rw [hE, hp, if_neg (by omega)]; rfl⟩
      · have hp : placeT ns key = -1 := hok.place_none hn
        exact ⟨0, ct, false, he, by rw [hE, hp]; rfl⟩
    rw [hf] at FW
    replace FW := Lib.hid FW
    have HE := Lib.hid hE2
    clear hr hR hok hE hE2 hf
    go_enter Try.func32, Try.ntmps32
    have c00 : v1.cell? ⟨q, 0, none⟩ = some (.slice A n c) := FR.out.cell 0 0 rfl rfl rfl
    have c01 : v1.cell? ⟨q, 1, none⟩ = some (.int .i64 rt) := FR.out.cell 0 1 rfl rfl rfl
    have c02 : v1.cell? ⟨q, 2, none⟩ = some (.int .i64 fr) := FR.out.cell 0 2 rfl rfl rfl
    go_wp2_with fail
    refine ((RT.out _ (FR.out.es RX.out))).mono ?_
    rintro e w2 ⟨rfl, hb⟩
    clear c00 c01 c02
    replace FR := Lib.hid (FR.out.step hb)
    clear hb
    have c00 : w2.cell? ⟨q, 0, none⟩ = some (.slice A n c) := FR.out.cell 0 0 rfl rfl rfl
    have c01 : w2.cell? ⟨q, 1, none⟩ = some (.int .i64 rt) := FR.out.cell 0 1 rfl rfl rfl
    have c02 : w2.cell? ⟨q, 2, none⟩ = some (.int .i64 fr) := FR.out.cell 0 2 rfl rfl rfl
    go_wp2_with fail
    refine ((FW.out _ (FR.out.es RX.out))).mono ?_
    rintro e w3 ⟨rfl, hb⟩
    clear c00 c01 c02
    replace FR := Lib.hid (FR.out.step hb)
    clear hb
    cases bb
    · go_wp2
      go_ret2
      rw [HE.out]
      exact ⟨rfl, FR.out.out⟩
    · go_wp2
      go_ret2
      rw [HE.out]
      exact ⟨rfl, FR.out.out⟩
/-- nodes of the call's own. -/
def RowPost9 (w : World) (n : Nat) (ns : List Nd) (e : Ending) (w' : World) : Prop :=
  ∃ B d, e = .returned (.slice B n d) ∧ w'.ownsRow w.heap.size 52 6 (.slice B n d) n (ndC ns) ∧ Below w.heap.size w w'
set_option maxHeartbeats 1000000 in
theorem clone9_any (A : Option Addr) (n c : Nat) (ns : List Nd) (w : World) (hx : Ns w A n c ns) (hn : n ≤ 16384) :
    Calls Try.prog 40 #[.slice A n c] w (RowPost9 w n ns) := by
  cases A with
  | none =>
    have h0 : n = 0 := by
      rcases Nat.eq_zero_or_pos n with h0 | h0
      · exact h0
      · obtain ⟨b, off, e, _⟩ := Es.mem hx h0; cases e
    subst h0
    obtain rfl : ns = [] := List.eq_nil_of_length_eq_zero hx.len
    have hq : ∀ W : World, (binOp .eql 22 (.slice none 0 c) (.slice none 0 0)).run Try.prog W = .ok (.bool true) W := fun _ => by kernel_rfl
    go_enter Try.func40, Try.ntmps40
    go_wp2
    go_ret
    exact ⟨none, 0, rfl, World.ownsRow_nil _ _ _ _, Below.refl _ _⟩
  | some ad =>
    obtain ⟨i5, hi5, hz0, hz1, hz2⟩ := info_of infoNode
    have hown0 : (w.alloc (.cells #[] 52)).ownsRow w.heap.size 52 6 (.slice (some ⟨w.heap.size, 0, none⟩) 0 0) 0 [] := World.ownsRow_lit w #[] 0 (Nat.le_refl _) (by unfold maxLen; omega) (by simp)
    obtain ⟨v, w3, hap, hown, hgr, hvk⟩ := eapp_own (P := Try.prog) (w.alloc (.cells #[] 52)) w.heap.size 22 22 52 i5 _ 6 48 Try.underlying22 hi5 hz0 hz1 hz2 rfl (by decide) _ 0 _ hown0 (some ad) n c _ (Es.alloc hx _) (by unfold maxLen; omega) (by omega) (by simp)
    rw [Nat.zero_add, List.nil_append] at hown
    have hb3 : Below w.heap.size w w3 := ((Below.refl _ _).alloc (Nat.le_refl _) _).grown hgr (by simp) (by simp [Value.ownBlock])
    obtain ⟨B, d, rfl, _⟩ := (show ∃ B d, v = .slice B n d ∧ True from by obtain ⟨B, d, h, _⟩ := Es.of_own hown (ndC_one _); exact ⟨B, d, h, trivial⟩)
    have HO := Lib.hid hown; have HB3 := Lib.hid hb3
    have hq : ∀ W : World, (binOp .eql 22 (.slice (some ad) n c) (.slice none 0 0)).run Try.prog W = .ok (.bool false) W := fun _ => by kernel_rfl
    clear hown hgr hown0 hb3 hi5 hz0 hz1 hz2 hx hvk
    go_enter Try.func40, Try.ntmps40
    go_wp2_with (at_builtin; refine eapp_run (by rfl) rfl rfl rfl hap ?_)
    go_ret
    exact ⟨_, _, rfl, HO.out, HB3.out⟩
set_option maxRecDepth 100000 in
set_option maxHeartbeats 4000000 in
theorem tpCopied_any (A : Option Addr) (n c : Nat) (ns : List Nd) (rt fr : Int) (w : World) (hx : Ns w A n c ns) (hn : n ≤ 16384) :
    Calls Try.prog 26 #[.agg #[.slice A n c, .int .i64 rt, .int .i64 fr]] w (CopyPost9 w n ns rt fr) := by
  have RX := Lib.hid hx
  have CL := Lib.hid (fun (W : World) (h : Ns W A n c ns) => clone9_any A n c ns W h hn)
  clear hx
  obtain ⟨v1, hv1⟩ : ∃ W, w.alloc (.cells #[.slice A n c, .int .i64 rt, .int .i64 fr] 24) = W := ⟨_, rfl⟩
  have fr1 : Fr w v1 w.heap.size [.cells #[.slice A n c, .int .i64 rt, .int .i64 fr] 24] := hv1 ▸ Fr.first w _
  have z1 : v1.heap.size = w.heap.size + 1 := by rw [← hv1, Fr.size1]
  obtain ⟨v2, hv2⟩ : ∃ W, v1.alloc (.cells #[.slice none 0 0, .int .i64 0, .int .i64 0] 54) = W := ⟨_, rfl⟩
  have fr2 : Fr w v2 w.heap.size [.cells #[.slice A n c, .int .i64 rt, .int .i64 fr] 24, .cells #[.slice none 0 0, .int .i64 0, .int .i64 0] 54] := hv2 ▸ fr1.more z1 _
  have z2 : v2.heap.size = w.heap.size + 2 := by rw [← hv2, Fr.size1, z1]
  generalize hq : w.heap.size = q at *
  have FR := Lib.hid fr2
  clear fr1 fr2
  have CL2 := Lib.hid (CL.out _ (FR.out.es RX.out))
  go_enter Try.func26, Try.ntmps26
  have c00 : v2.cell? ⟨q, 0, none⟩ = some (.slice A n c) := FR.out.cell 0 0 rfl rfl rfl
  have c01 : v2.cell? ⟨q, 1, none⟩ = some (.int .i64 rt) := FR.out.cell 0 1 rfl rfl rfl
  have c02 : v2.cell? ⟨q, 2, none⟩ = some (.int .i64 fr) := FR.out.cell 0 2 rfl rfl rfl
  have c10 : v2.cell? ⟨q + 1, 0, none⟩ = some (.slice none 0 0) := FR.out.cell 1 0 rfl rfl rfl
  have c11 : v2.cell? ⟨q + 1, 1, none⟩ = some (.int .i64 0) := FR.out.cell 1 1 rfl rfl rfl
  have c12 : v2.cell? ⟨q + 1, 2, none⟩ = some (.int .i64 0) := FR.out.cell 1 2 rfl rfl rfl
  go_wp2_with fail
  refine CL2.out.mono ?_
  rintro e w3 ⟨B, d, rfl, hown, hb⟩
  clear c00 c01 c02 c10 c11 c12
  have hsz := FR.out.sz
  simp only [List.length_cons, List.length_nil] at hsz
  replace FR := Lib.hid (FR.out.step hb)
  replace hown := own_base hown hsz
  have OW := Lib.hid hown
  clear hb hown
  have c00 : w3.cell? ⟨q, 0, none⟩ = some (.slice A n c) := FR.out.cell 0 0 rfl rfl rfl
  have f00 : w3.frozen? ⟨q, 0, none⟩ = false := FR.out.frozen 0 0 rfl rfl
  have c01 : w3.cell? ⟨q, 1, none⟩ = some (.int .i64 rt) := FR.out.cell 0 1 rfl rfl rfl
  have f01 : w3.frozen? ⟨q, 1, none⟩ = false := FR.out.frozen 0 1 rfl rfl
  have c02 : w3.cell? ⟨q, 2, none⟩ = some (.int .i64 fr) := FR.out.cell 0 2 rfl rfl rfl
  have f02 : w3.frozen? ⟨q, 2, none⟩ = false := FR.out.frozen 0 2 rfl rfl
  have c10 : w3.cell? ⟨q + 1, 0, none⟩ = some (.slice none 0 0) := FR.out.cell 1 0 rfl rfl rfl
  have f10 : w3.frozen? ⟨q + 1, 0, none⟩ = false := FR.out.frozen 1 0 rfl rfl
  have c11 : w3.cell? ⟨q + 1, 1, none⟩ = some (.int .i64 0) := FR.out.cell 1 1 rfl rfl rfl
  have f11 : w3.frozen? ⟨q + 1, 1, none⟩ = false := FR.out.frozen 1 1 rfl rfl
  have c12 : w3.cell? ⟨q + 1, 2, none⟩ = some (.int .i64 0) := FR.out.cell 1 2 rfl rfl rfl
  have f12 : w3.frozen? ⟨q + 1, 2, none⟩ = false := FR.out.frozen 1 2 rfl rfl
  go_wp2
  have FZ : Fr w ((((w3.setCell ⟨q, 0, none⟩ (.slice B n d)).setCell ⟨q + 1, 0, none⟩ (.slice B n d)).setCell ⟨q + 1, 1, none⟩ (.int .i64 rt)).setCell ⟨q + 1, 2, none⟩ (.int .i64 fr)) q [.cells #[.slice B n d, .int .i64 rt, .int .i64 fr] 24, .cells #[.slice B n d, .int .i64 rt, .int .i64 fr] 54] := ((((FR.out.set 0 0 rfl rfl (.slice B n d)).set 1 0 rfl rfl (.slice B n d)).set 1 1 rfl rfl (.int .i64 rt)).set 1 2 rfl rfl (.int .i64 fr))
  refine bodyPost_ret (res_c Try.results26 (by rfl) (FZ.load 1 rfl rfl Try.underlying54 (by kernel_rfl))) rfl ?_
  exact ⟨B, d, rfl, own_base (own_apart (own_apart (own_apart (own_apart (OW.out) (k := q) (o := 0) (u := .slice B n d) (by omega)) (k := q + 1) (o := 0) (u := .slice B n d) (by omega)) (k := q + 1) (o := 1) (u := .int .i64 rt) (by omega)) (k := q + 1) (o := 2) (u := .int .i64 fr) (by omega)) (by rw [hq]; omega), FZ.out⟩
end Go.Proofs.Ytfgfohomgomidaa
