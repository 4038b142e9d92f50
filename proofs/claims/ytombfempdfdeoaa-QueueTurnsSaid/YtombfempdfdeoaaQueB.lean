/- What the document's own places, Right, Places, Tasks of layer 8 answer; for slices of up to 16384 records. -/
import Derived.Test.YtombfempdfdeoaaQueA
import Derived.Test.YtombfempdfdeoaaFr
namespace Go.Proofs.Ytombfempdfdeoaa
set_option linter.unusedVariables false
set_option linter.unusedSimpArgs false
open Go.RowKit
/-- a row's places, and whether it may be. -/
def PlPost (w : World) (r : List Int × Bool) (e : Ending) (w' : World) : Prop :=
  ∃ B m d, e = .returned (.tuple #[.slice B m d, .bool r.2]) ∧ w'.ownsRow w.heap.size 3 1 (.slice B m d) m (intC r.1) ∧ Below w.heap.size w w'
theorem qPl_wrong {p : Aren} {q : Qu} (h : rightS p = false) : qPl p q = ([], false) := by unfold qPl; rw [if_pos h]
theorem qPl_none {p : Aren} {q : Qu} (h : rightS p = true) (hw : qWalk p (p.1.length + 1) q.1 [] = none) : qPl p q = ([], false) := by unfold qPl; rw [if_neg (by simp [h]), hw]
theorem qPl_some {p : Aren} {q : Qu} {l : List Int} (h : rightS p = true) (hw : qWalk p (p.1.length + 1) q.1 [] = some l) : qPl p q = (l, lastD l == q.2) := by unfold qPl; rw [if_neg (by simp [h]), hw]
set_option maxRecDepth 100000 in
set_option maxHeartbeats 4000000 in
theorem refPlaces0_any (A : Option Addr) (n c : Nat) (rs : List Rec3) (fr hd tl : Int) (w : World) (hx : Rs w A n c rs) (hn : n ≤ 16384) :
    Calls Try.prog 32 #[.agg #[.slice A n c, .int .i64 fr], .agg #[.int .i64 hd, .int .i64 tl]] w (PlPost w (qPl (rs, fr) (hd, tl))) := by
  obtain ⟨i5, hi5, hz0, hz1, hz2⟩ := info_of infoInt
  have HI := Lib.hid hi5; have HZ0 := Lib.hid hz0; have HZ1 := Lib.hid hz1; have HZ2 := Lib.hid hz2
  clear hi5 hz0 hz1 hz2
  have hlen := hx.len
  have RX := Lib.hid hx
  have HL2 := Lib.hid hlen
  have RT := Lib.hid (fun (W : World) (h : Rs W A n c rs) => refRight_any A n c rs fr W h hn)
  have LV := Lib.hid (fun (W : World) (h : Rs W A n c rs) (k : Int) => refLive_any A n c rs fr k W h hn)
  have hwk : qWalk (rs, fr) ((rs, fr) : Aren).1.length.succ hd [] = qWalk (rs, fr) (n + 1 - 0) hd [] := by simp only [hlen]; rfl
  have HWK := Lib.hid hwk
  obtain ⟨R, hR⟩ : ∃ R, qPl (rs, fr) (hd, tl) = R := ⟨_, rfl⟩
  have HR := Lib.hid hR
  rw [hR]
  clear hx hlen hwk hR
  obtain ⟨v1, hv1⟩ : ∃ W, w.alloc (.cells #[.slice A n c, .int .i64 fr] 24) = W := ⟨_, rfl⟩
  have fr1 : Fr w v1 w.heap.size [.cells #[.slice A n c, .int .i64 fr] 24] := hv1 ▸ Fr.first w _
  have z1 : v1.heap.size = w.heap.size + 1 := by rw [← hv1, Fr.size1]
  obtain ⟨v2, hv2⟩ : ∃ W, v1.alloc (.cells #[.int .i64 hd, .int .i64 tl] 26) = W := ⟨_, rfl⟩
  have fr2 : Fr w v2 w.heap.size [.cells #[.slice A n c, .int .i64 fr] 24, .cells #[.int .i64 hd, .int .i64 tl] 26] := hv2 ▸ fr1.more z1 _
  have z2 : v2.heap.size = w.heap.size + 2 := by rw [← hv2, Fr.size1, z1]
  generalize hq : w.heap.size = q at *
  have FR := Lib.hid fr2
  clear fr1 fr2
  cases hr : rightS (rs, fr)
  · have HE := Lib.hid (show R = ([], false) by rw [← HR.out, qPl_wrong hr])
    have RT2 := RT.out _ (FR.out.es RX.out)
    rw [hr] at RT2
    replace RT2 := Lib.hid RT2
    clear hr
    go_enter Try.func32, Try.ntmps32
    have c00 : v2.cell? ⟨q, 0, none⟩ = some (.slice A n c) := FR.out.cell 0 0 rfl rfl rfl
    have c01 : v2.cell? ⟨q, 1, none⟩ = some (.int .i64 fr) := FR.out.cell 0 1 rfl rfl rfl
    have c10 : v2.cell? ⟨q + 1, 0, none⟩ = some (.int .i64 hd) := FR.out.cell 1 0 rfl rfl rfl
    have c11 : v2.cell? ⟨q + 1, 1, none⟩ = some (.int .i64 tl) := FR.out.cell 1 1 rfl rfl rfl
    go_wp2_with fail
    refine (RT2.out).mono ?_
    rintro e w3 ⟨rfl, hb⟩
    clear c00 c01 c10 c11
    replace FR := Lib.hid (FR.out.step hb)
    clear hb
    go_wp2
    go_ret2
    rw [HE.out]
    exact ⟨_, _, _, rfl, World.ownsRow_nil _ _ _ _, FR.out.out⟩
  · have RT2 := RT.out _ (FR.out.es RX.out)
    rw [hr] at RT2
    replace RT2 := Lib.hid RT2
    have RI := Lib.hid hr
    clear hr
    go_enter Try.func32, Try.ntmps32
    have c00 : v2.cell? ⟨q, 0, none⟩ = some (.slice A n c) := FR.out.cell 0 0 rfl rfl rfl
    have c01 : v2.cell? ⟨q, 1, none⟩ = some (.int .i64 fr) := FR.out.cell 0 1 rfl rfl rfl
    have c10 : v2.cell? ⟨q + 1, 0, none⟩ = some (.int .i64 hd) := FR.out.cell 1 0 rfl rfl rfl
    have c11 : v2.cell? ⟨q + 1, 1, none⟩ = some (.int .i64 tl) := FR.out.cell 1 1 rfl rfl rfl
    go_wp2_with fail
    refine (RT2.out).mono ?_
    rintro e w3 ⟨rfl, hb⟩
    clear c00 c01 c10 c11
    replace FR := Lib.hid (FR.out.step hb)
    clear hb
    have c00 : w3.cell? ⟨q, 0, none⟩ = some (.slice A n c) := FR.out.cell 0 0 rfl rfl rfl
    have f00 : w3.frozen? ⟨q, 0, none⟩ = false := FR.out.frozen 0 0 rfl rfl
    have c01 : w3.cell? ⟨q, 1, none⟩ = some (.int .i64 fr) := FR.out.cell 0 1 rfl rfl rfl
    have f01 : w3.frozen? ⟨q, 1, none⟩ = false := FR.out.frozen 0 1 rfl rfl
    have c10 : w3.cell? ⟨q + 1, 0, none⟩ = some (.int .i64 hd) := FR.out.cell 1 0 rfl rfl rfl
    have f10 : w3.frozen? ⟨q + 1, 0, none⟩ = false := FR.out.frozen 1 0 rfl rfl
    have c11 : w3.cell? ⟨q + 1, 1, none⟩ = some (.int .i64 tl) := FR.out.cell 1 1 rfl rfl rfl
    have f11 : w3.frozen? ⟨q + 1, 1, none⟩ = false := FR.out.frozen 1 1 rfl rfl
    go_wp2
    clear c00 f00 c01 f01 c10 f10 c11 f11
    clear hv1 hv2 z1 z2
    go_loopw [6, 7, 8] (fun ov av lv wr => ∃ (out : List Int) (at_ : Int), av = .int .i64 at_ ∧ lv = .int .i64 (lastD out) ∧ lenV ov = out.length ∧ Hid (wr.ownsRow (q + 2) 3 1 ov out.length (intC out)) ∧ Hid (Fr w wr q [.cells #[.slice A n c, .int .i64 fr] 24, .cells #[.int .i64 hd, .int .i64 tl] 26]) ∧ Hid (Places n out) ∧ Hid (qWalk (rs, fr) (n + 1) hd [] = qWalk (rs, fr) (n + 1 - out.length) at_ out)) (fun ov _ _ _ => n - lenV ov)
    case atStart => exact ⟨[], hd, rfl, rfl, rfl, World.ownsRow_nil _ _ _ _, FR.out, Places.nil _, rfl⟩
    case round =>
      clear FR
      obtain ⟨out, at_, rfl, rfl, hlv, OW, FR, hpl, hwk⟩ := hrel
      have hol := hpl.out.len
      obtain ⟨B, d, rfl, his⟩ := Es.of_own OW.out (intC_one _)
      have HIS := Lib.hid (show Is wr B out.length d out from his)
      clear his hlv
      by_cases h1 : at_ = -1
      · have b0 : (at_ != -1) = false := by simp [h1]
        have HE := Lib.hid (show R = (out, lastD out == tl) by rw [← HR.out, qPl_some RI.out (l := out) (HWK.out.trans (hwk.out.trans (qWalk_end (by omega) h1)))])
        clear h1 hwk hpl
        have c10 : wr.cell? ⟨q + 1, 0, none⟩ = some (.int .i64 hd) := FR.out.cell 1 0 rfl rfl rfl
        have f10 : wr.frozen? ⟨q + 1, 0, none⟩ = false := FR.out.frozen 1 0 rfl rfl
        have c11 : wr.cell? ⟨q + 1, 1, none⟩ = some (.int .i64 tl) := FR.out.cell 1 1 rfl rfl rfl
        have f11 : wr.frozen? ⟨q + 1, 1, none⟩ = false := FR.out.frozen 1 1 rfl rfl
        go_wp2
        go_quiet (fail)
        go_wp2
        go_ret2
        rw [HE.out]
        exact ⟨_, _, _, rfl, own_base OW.out (by rw [hq]; omega), bel_drewN FR.out.out _⟩
      · have b0 : (at_ != -1) = true := by simp [h1]
        have LV2 := LV.out wr (FR.out.es RX.out) at_
        have HH := fun W (h : Is W B out.length d out) => refHas_any B out.length d out at_ W h (by omega)
        by_cases hbad : badQ (rs, fr) out at_
        · have HE := Lib.hid (show R = ([], false) by rw [← HR.out, qPl_none RI.out (HWK.out.trans (hwk.out.trans (qWalk_bad h1 hbad)))])
          clear hwk hpl OW h1
          unfold badQ at hbad
          cases hl : liveS (rs, fr) at_
          · rw [hl] at LV2
            replace LV2 := Lib.hid LV2
            clear hl hbad HH
            have c00 : wr.cell? ⟨q, 0, none⟩ = some (.slice A n c) := FR.out.cell 0 0 rfl rfl rfl
            have c01 : wr.cell? ⟨q, 1, none⟩ = some (.int .i64 fr) := FR.out.cell 0 1 rfl rfl rfl
            go_wp2_with fail
            refine (LV2.out).mono ?_
            rintro e w4 ⟨rfl, hb⟩
            clear c00 c01
            replace FR := Lib.hid (FR.out.step hb)
            clear hb
            go_wp2
            go_ret2
            rw [HE.out]
            exact ⟨_, _, _, rfl, World.ownsRow_nil _ _ _ _, FR.out.out⟩
          · rw [hl] at LV2
            replace LV2 := Lib.hid LV2
            have hm : at_ ∈ out := by rcases hbad with h | h; (rw [hl] at h; cases h); exact h
            rw [decide_eq_true hm] at HH
            replace HH := Lib.hid HH
            clear hl hbad hm
            have c00 : wr.cell? ⟨q, 0, none⟩ = some (.slice A n c) := FR.out.cell 0 0 rfl rfl rfl
            have c01 : wr.cell? ⟨q, 1, none⟩ = some (.int .i64 fr) := FR.out.cell 0 1 rfl rfl rfl
            go_wp2_with fail
            refine (LV2.out).mono ?_
            rintro e w4 ⟨rfl, hb⟩
            clear c00 c01
            replace FR := Lib.hid (FR.out.step hb)
            replace HIS := Lib.hid (Es.below HIS.out hb)
            clear hb
            have H2 := Lib.hid (HH.out _ HIS.out)
            have c00 : w4.cell? ⟨q, 0, none⟩ = some (.slice A n c) := FR.out.cell 0 0 rfl rfl rfl
            have c01 : w4.cell? ⟨q, 1, none⟩ = some (.int .i64 fr) := FR.out.cell 0 1 rfl rfl rfl
            go_wp2_with fail
            refine (H2.out).mono ?_
            rintro e w5 ⟨rfl, rfl⟩
            clear c00 c01
            go_wp2
            go_ret2
            rw [HE.out]
            exact ⟨_, _, _, rfl, World.ownsRow_nil _ _ _ _, FR.out.out⟩
        · obtain ⟨gl, g0, g1, g2⟩ := not_badQ hbad
          simp only [HL2.out] at g1
          have hstep := qWalk_step (p := (rs, fr)) (f := n + 1 - out.length) (at_ := at_) (out := out) (by omega) h1 hbad
          rw [gl] at LV2
          replace LV2 := Lib.hid LV2
          rw [decide_eq_false g2] at HH
          replace HH := Lib.hid HH
          obtain ⟨i, rfl⟩ : ∃ i : Nat, at_ = i := ⟨at_.toNat, by omega⟩
          have hpl2 := hpl.out.app g0 g1 g2
          have HP2 := Lib.hid hpl2
          have HLN := Lib.hid hpl2.len
          have HW2 := Lib.hid (show qWalk (rs, fr) (n + 1) hd [] = qWalk (rs, fr) (n + 1 - (out.length + 1)) (recAt rs i).2.2 (out ++ [(i : Int)]) by rw [hwk.out, hstep]; rfl)
          have hi0 : (0 : Int) ≤ (i : Int) := g0
          have hi1 : (i : Int) < (n : Int) := g1
          clear hpl2 hstep g0 g1 g2 hbad h1 hwk hpl gl
          have c00 : wr.cell? ⟨q, 0, none⟩ = some (.slice A n c) := FR.out.cell 0 0 rfl rfl rfl
          have c01 : wr.cell? ⟨q, 1, none⟩ = some (.int .i64 fr) := FR.out.cell 0 1 rfl rfl rfl
          go_wp2_with fail
          refine (LV2.out).mono ?_
          rintro e w4 ⟨rfl, hb⟩
          clear c00 c01
          replace FR := Lib.hid (FR.out.step hb)
          replace HIS := Lib.hid (Es.below HIS.out hb)
          replace OW := Lib.hid (own_below OW.out hb)
          clear hb
          have H2 := Lib.hid (HH.out _ HIS.out)
          have c00 : w4.cell? ⟨q, 0, none⟩ = some (.slice A n c) := FR.out.cell 0 0 rfl rfl rfl
          have c01 : w4.cell? ⟨q, 1, none⟩ = some (.int .i64 fr) := FR.out.cell 0 1 rfl rfl rfl
          go_wp2_with fail
          refine (H2.out).mono ?_
          rintro e w5 ⟨rfl, rfl⟩
          clear c00 c01
          have hsz := FR.out.sz
          simp only [List.length_cons, List.length_nil] at hsz
          obtain ⟨A4, c4, w9, hap4, hown4, hbel4⟩ := eapp_lit (P := Try.prog) (ty := 37) (w0 := w4) Try.underlying37 HI.out HZ0.out HZ1.out HZ2.out rfl (by decide) OW.out (intC_one _) (intC [(i : Int)]) (intC_one _) (m := 1) rfl (by unfold maxLen; omega) (by omega) (Below.refl _ _) (by omega)
          rw [← intC_app] at hown4
          have fr4 : Fr w w9 q [.cells #[.slice A n c, .int .i64 fr] 24, .cells #[.int .i64 hd, .int .i64 tl] 26] := ⟨fun k o hk => (hbel4.block (q + k) (by have : k < 2 := (List.getElem?_eq_some_iff.1 hk).1; omega)).trans (FR.out.blk k o hk), FR.out.bel.trans (hbel4.mono (by omega)), by have := hbel4.size; simp only [List.length_cons, List.length_nil]; omega, FR.out.q0⟩
          have rx4 : Rs w9 A n c rs := fr4.es RX.out
          replace hap4 : (Builtin.append_ #[37, 37] 37 #[_, .slice (some ⟨w4.heap.size, 0, none⟩) 1 1]).run Try.prog (w4.alloc (.cells #[.int .i64 (i : Int)] 3)) = _ := hap4
          have HO4 := Lib.hid hown4; have FR4 := Lib.hid fr4
          obtain ⟨b, off, rfl, hb0, k0, k1, k2⟩ := rx4.look i (by omega)
          have d00 : w9.cell? ⟨q, 0, none⟩ = some (.slice (some ⟨b, off, none⟩) n c) := FR4.out.cell 0 0 rfl rfl rfl
          clear hown4 hbel4 fr4 rx4 k0 k1 hb0 OW
          generalize recAt rs i = r at *
          go_wp2_with (at_builtin; refine eapp_run (by rfl) rfl rfl rfl hap4 ?_)
          go_roundw
          case rel => exact ⟨out ++ [(i : Int)], r.2.2, rfl, by rw [lastD_app], by simp [lenV], by rw [List.length_append]; exact HO4.out, FR4.out, HP2.out, by rw [List.length_append]; exact HW2.out⟩
          case measure =>
            have := HLN.out
            simp [lenV] at this ⊢; omega
theorem refQRight_any (A : Option Addr) (n c : Nat) (rs : List Rec3) (fr hd tl : Int) (w : World) (hx : Rs w A n c rs) (hn : n ≤ 16384) :
    Calls Try.prog 15 #[.agg #[.slice A n c, .int .i64 fr], .agg #[.int .i64 hd, .int .i64 tl]] w (fun e w' => e = .returned (.bool (qRight (rs, fr) (hd, tl))) ∧ Below w.heap.size w w') := by
  have P0 := Lib.hid (fun (W : World) (h : Rs W A n c rs) => refPlaces0_any A n c rs fr hd tl W h hn)
  have RX := Lib.hid hx
  clear hx
  obtain ⟨l, b, hR⟩ : ∃ l b, qPl (rs, fr) (hd, tl) = (l, b) := ⟨_, _, rfl⟩
  have hE : qRight (rs, fr) (hd, tl) = b := by unfold qRight; rw [hR]
  rw [hE]
  clear hE
  obtain ⟨v1, hv1⟩ : ∃ W, w.alloc (.cells #[.slice A n c, .int .i64 fr] 24) = W := ⟨_, rfl⟩
  have fr1 : Fr w v1 w.heap.size [.cells #[.slice A n c, .int .i64 fr] 24] := hv1 ▸ Fr.first w _
  have z1 : v1.heap.size = w.heap.size + 1 := by rw [← hv1, Fr.size1]
  obtain ⟨v2, hv2⟩ : ∃ W, v1.alloc (.cells #[.int .i64 hd, .int .i64 tl] 26) = W := ⟨_, rfl⟩
  have fr2 : Fr w v2 w.heap.size [.cells #[.slice A n c, .int .i64 fr] 24, .cells #[.int .i64 hd, .int .i64 tl] 26] := hv2 ▸ fr1.more z1 _
  have z2 : v2.heap.size = w.heap.size + 2 := by rw [← hv2, Fr.size1, z1]
  generalize hq : w.heap.size = q at *
  have FR := Lib.hid fr2
  clear fr1 fr2
  have P1 := P0.out _ (FR.out.es RX.out)
  rw [hR] at P1
  replace P1 := Lib.hid P1
  clear hR
  go_enter Try.func15, Try.ntmps15
  have c00 : v2.cell? ⟨q, 0, none⟩ = some (.slice A n c) := FR.out.cell 0 0 rfl rfl rfl
  have c01 : v2.cell? ⟨q, 1, none⟩ = some (.int .i64 fr) := FR.out.cell 0 1 rfl rfl rfl
  have c10 : v2.cell? ⟨q + 1, 0, none⟩ = some (.int .i64 hd) := FR.out.cell 1 0 rfl rfl rfl
  have c11 : v2.cell? ⟨q + 1, 1, none⟩ = some (.int .i64 tl) := FR.out.cell 1 1 rfl rfl rfl
  go_wp2_with fail
  refine (P1.out).mono ?_
  rintro e w3 ⟨B, m, d, rfl, his, hb⟩
  clear c00 c01 c10 c11
  replace FR := Lib.hid (FR.out.step hb)
  clear hb
  clear his
  go_wp2
  go_ret
  exact ⟨rfl, FR.out.bel⟩
/-- numbers of the call's own. -/
def OwnInts (w : World) (xs : List Int) (e : Ending) (w' : World) : Prop := ∃ A n c, e = .returned (.slice A n c) ∧ w'.ownsRow w.heap.size 3 1 (.slice A n c) n (intC xs) ∧ Below w.heap.size w w'
theorem refQPlaces_own (A : Option Addr) (n c : Nat) (rs : List Rec3) (fr hd tl : Int) (w : World) (hx : Rs w A n c rs) (hn : n ≤ 16384) :
    Calls Try.prog 20 #[.agg #[.slice A n c, .int .i64 fr], .agg #[.int .i64 hd, .int .i64 tl]] w (OwnInts w (qPlaces (rs, fr) (hd, tl))) := by
  have P0 := Lib.hid (fun (W : World) (h : Rs W A n c rs) => refPlaces0_any A n c rs fr hd tl W h hn)
  have RX := Lib.hid hx
  clear hx
  obtain ⟨l, b, hR⟩ : ∃ l b, qPl (rs, fr) (hd, tl) = (l, b) := ⟨_, _, rfl⟩
  cases b
  · have hE : qPlaces (rs, fr) (hd, tl) = [] := by unfold qPlaces qRight; rw [hR]; rfl
    rw [hE]
    clear hE
    obtain ⟨v1, hv1⟩ : ∃ W, w.alloc (.cells #[.slice A n c, .int .i64 fr] 24) = W := ⟨_, rfl⟩
    have fr1 : Fr w v1 w.heap.size [.cells #[.slice A n c, .int .i64 fr] 24] := hv1 ▸ Fr.first w _
    have z1 : v1.heap.size = w.heap.size + 1 := by rw [← hv1, Fr.size1]
    obtain ⟨v2, hv2⟩ : ∃ W, v1.alloc (.cells #[.int .i64 hd, .int .i64 tl] 26) = W := ⟨_, rfl⟩
    have fr2 : Fr w v2 w.heap.size [.cells #[.slice A n c, .int .i64 fr] 24, .cells #[.int .i64 hd, .int .i64 tl] 26] := hv2 ▸ fr1.more z1 _
    have z2 : v2.heap.size = w.heap.size + 2 := by rw [← hv2, Fr.size1, z1]
    generalize hq : w.heap.size = q at *
    have FR := Lib.hid fr2
    clear fr1 fr2
    have P1 := P0.out _ (FR.out.es RX.out)
    rw [hR] at P1
    replace P1 := Lib.hid P1
    clear hR
    go_enter Try.func20, Try.ntmps20
    have c00 : v2.cell? ⟨q, 0, none⟩ = some (.slice A n c) := FR.out.cell 0 0 rfl rfl rfl
    have c01 : v2.cell? ⟨q, 1, none⟩ = some (.int .i64 fr) := FR.out.cell 0 1 rfl rfl rfl
    have c10 : v2.cell? ⟨q + 1, 0, none⟩ = some (.int .i64 hd) := FR.out.cell 1 0 rfl rfl rfl
    have c11 : v2.cell? ⟨q + 1, 1, none⟩ = some (.int .i64 tl) := FR.out.cell 1 1 rfl rfl rfl
    go_wp2_with fail
    refine (P1.out).mono ?_
    rintro e w3 ⟨B, m, d, rfl, his, hb⟩
    clear c00 c01 c10 c11
    replace FR := Lib.hid (FR.out.step hb)
    clear hb
    have HI := Lib.hid his
    clear his
    go_wp2
    go_ret
    exact ⟨_, _, _, rfl, World.ownsRow_nil _ _ _ _, FR.out.out⟩
  · have hE : qPlaces (rs, fr) (hd, tl) = l := by unfold qPlaces qRight; rw [hR]; rfl
    rw [hE]
    clear hE
    obtain ⟨v1, hv1⟩ : ∃ W, w.alloc (.cells #[.slice A n c, .int .i64 fr] 24) = W := ⟨_, rfl⟩
    have fr1 : Fr w v1 w.heap.size [.cells #[.slice A n c, .int .i64 fr] 24] := hv1 ▸ Fr.first w _
    have z1 : v1.heap.size = w.heap.size + 1 := by rw [← hv1, Fr.size1]
    obtain ⟨v2, hv2⟩ : ∃ W, v1.alloc (.cells #[.int .i64 hd, .int .i64 tl] 26) = W := ⟨_, rfl⟩
    have fr2 : Fr w v2 w.heap.size [.cells #[.slice A n c, .int .i64 fr] 24, .cells #[.int .i64 hd, .int .i64 tl] 26] := hv2 ▸ fr1.more z1 _
    have z2 : v2.heap.size = w.heap.size + 2 := by rw [← hv2, Fr.size1, z1]
    generalize hq : w.heap.size = q at *
    have FR := Lib.hid fr2
    clear fr1 fr2
    have P1 := P0.out _ (FR.out.es RX.out)
    rw [hR] at P1
    replace P1 := Lib.hid P1
    clear hR
    go_enter Try.func20, Try.ntmps20
    have c00 : v2.cell? ⟨q, 0, none⟩ = some (.slice A n c) := FR.out.cell 0 0 rfl rfl rfl
    have c01 : v2.cell? ⟨q, 1, none⟩ = some (.int .i64 fr) := FR.out.cell 0 1 rfl rfl rfl
    have c10 : v2.cell? ⟨q + 1, 0, none⟩ = some (.int .i64 hd) := FR.out.cell 1 0 rfl rfl rfl
    have c11 : v2.cell? ⟨q + 1, 1, none⟩ = some (.int .i64 tl) := FR.out.cell 1 1 rfl rfl rfl
    go_wp2_with fail
    refine (P1.out).mono ?_
    rintro e w3 ⟨B, m, d, rfl, his, hb⟩
    clear c00 c01 c10 c11
    replace FR := Lib.hid (FR.out.step hb)
    clear hb
    have HI := Lib.hid his
    clear his
    go_wp2
    go_ret
    exact ⟨_, _, _, rfl, own_base HI.out (by have := FR.out.q0; omega), FR.out.out⟩
theorem refQPlaces_any (A : Option Addr) (n c : Nat) (rs : List Rec3) (fr hd tl : Int) (w : World) (hx : Rs w A n c rs) (hn : n ≤ 16384) :
    Calls Try.prog 20 #[.agg #[.slice A n c, .int .i64 fr], .agg #[.int .i64 hd, .int .i64 tl]] w (IntsPost w (qPlaces (rs, fr) (hd, tl))) := by
  refine (refQPlaces_own A n c rs fr hd tl w hx hn).mono ?_
  rintro e w' ⟨B, m, d, rfl, h2, h3⟩
  obtain ⟨_, _, he, hi⟩ := Es.of_own h2 (intC_one _)
  injection he with he1 he2 he3; subst he1; subst he3
  exact ⟨_, _, _, rfl, hi, h3⟩
theorem drop_map {l : List Int} {i : Nat} {x : Int} {f : Int → Int} (h : l.drop i = x :: l.drop (i + 1)) : (l.map f).take (i + 1) = (l.map f).take i ++ [f x] := by
  have := take_step h
  rw [← List.map_take, this, List.map_append, List.map_take]; rfl
set_option maxHeartbeats 4000000 in
theorem refQTasks_own (A : Option Addr) (n c : Nat) (rs : List Rec3) (fr hd tl : Int) (w : World) (hx : Rs w A n c rs) (hn : n ≤ 16384) :
    Calls Try.prog 18 #[.agg #[.slice A n c, .int .i64 fr], .agg #[.int .i64 hd, .int .i64 tl]] w (OwnInts w (qTasks (rs, fr) (hd, tl))) := by
  obtain ⟨i5, hi5, hz0, hz1, hz2⟩ := info_of infoInt
  have HI := Lib.hid hi5; have HZ0 := Lib.hid hz0; have HZ1 := Lib.hid hz1; have HZ2 := Lib.hid hz2
  clear hi5 hz0 hz1 hz2
  have HL2 := Lib.hid hx.len
  have P0 := Lib.hid (fun (W : World) (h : Rs W A n c rs) => refQPlaces_any A n c rs fr hd tl W h hn)
  have RX := Lib.hid hx
  have HPL := Lib.hid (qPlaces_places (rs, fr) (hd, tl))
  clear hx
  obtain ⟨l, hl⟩ : ∃ l, qPlaces (rs, fr) (hd, tl) = l := ⟨_, rfl⟩
  have hE : qTasks (rs, fr) (hd, tl) = l.map fun i => (recAt rs i).2.1 := by unfold qTasks; rw [hl]
  rw [hE]
  clear hE
  obtain ⟨v1, hv1⟩ : ∃ W, w.alloc (.cells #[.slice A n c, .int .i64 fr] 24) = W := ⟨_, rfl⟩
  have fr1 : Fr w v1 w.heap.size [.cells #[.slice A n c, .int .i64 fr] 24] := hv1 ▸ Fr.first w _
  have z1 : v1.heap.size = w.heap.size + 1 := by rw [← hv1, Fr.size1]
  obtain ⟨v2, hv2⟩ : ∃ W, v1.alloc (.cells #[.int .i64 hd, .int .i64 tl] 26) = W := ⟨_, rfl⟩
  have fr2 : Fr w v2 w.heap.size [.cells #[.slice A n c, .int .i64 fr] 24, .cells #[.int .i64 hd, .int .i64 tl] 26] := hv2 ▸ fr1.more z1 _
  have z2 : v2.heap.size = w.heap.size + 2 := by rw [← hv2, Fr.size1, z1]
  generalize hq : w.heap.size = q at *
  have FR := Lib.hid fr2
  clear fr1 fr2
  have P1 := P0.out _ (FR.out.es RX.out)
  rw [hl] at P1 HPL
  replace P1 := Lib.hid P1
  clear hl
  go_enter Try.func18, Try.ntmps18
  have c00 : v2.cell? ⟨q, 0, none⟩ = some (.slice A n c) := FR.out.cell 0 0 rfl rfl rfl
  have c01 : v2.cell? ⟨q, 1, none⟩ = some (.int .i64 fr) := FR.out.cell 0 1 rfl rfl rfl
  have c10 : v2.cell? ⟨q + 1, 0, none⟩ = some (.int .i64 hd) := FR.out.cell 1 0 rfl rfl rfl
  have c11 : v2.cell? ⟨q + 1, 1, none⟩ = some (.int .i64 tl) := FR.out.cell 1 1 rfl rfl rfl
  go_wp2_with fail
  refine (P1.out).mono ?_
  rintro e w3 ⟨B, m, d, rfl, his, hb⟩
  clear c00 c01 c10 c11
  replace FR := Lib.hid (FR.out.step hb)
  have hml : l.length = m := Is.len his
  have HM := Lib.hid hml
  have HIS := Lib.hid his
  have hm16 : m ≤ 16384 := by have := HPL.out.len; simp only [HL2.out] at this; omega
  clear his hml hb hv1 hv2 z1 z2
  go_wp2
  go_loopw [5, 7] (fun ov iv wr => ∃ (i : Nat), iv = .int .i64 (i : Int) ∧ i ≤ m ∧ lenV ov = i ∧ Hid (wr.ownsRow w3.heap.size 3 1 ov i (intC ((l.map fun i => (recAt rs i).2.1).take i))) ∧ Hid (Below w3.heap.size w3 wr)) (fun _ iv _ => m - (intOf iv).toNat)
  case atStart => exact ⟨0, rfl, by omega, rfl, World.ownsRow_nil _ _ _ _, Below.refl _ _⟩
  case round =>
    obtain ⟨i, rfl, hi, hlv, OW, hbl⟩ := hrel
    have FR3 := FR
    replace FR := Lib.hid (FR.out.step hbl.out)
    obtain ⟨C, d2, rfl, hit⟩ := Es.of_own OW.out (intC_one _)
    have HIT := Lib.hid hit
    clear hit hlv
    by_cases hlt : i < m
    · have b1 : decide ((i : Int) < (m : Int)) = true := by simpa using hlt
      obtain ⟨lb, loff, x, rfl, hlb, hlc, hdr⟩ := (show Is _ _ m d l from HIS.out).look i hlt
      replace hlc := (hbl.out.cell (p := ⟨lb, loff + i, none⟩) hlb).trans hlc
      have hx := HPL.out.2 x (mem_at hdr)
      simp only [HL2.out] at hx
      obtain ⟨k, rfl⟩ : ∃ k : Nat, x = k := ⟨x.toNat, by omega⟩
      have rxr : Rs w3 A n c rs := FR3.out.es RX.out
      have hqz : q < w3.heap.size := by have := FR3.out.sz; simp only [List.length_cons, List.length_nil] at this; omega
      clear FR3
      have c00 : wr.cell? ⟨q, 0, none⟩ = some (.slice A n c) := FR.out.cell 0 0 rfl rfl rfl
      have c01 : wr.cell? ⟨q, 1, none⟩ = some (.int .i64 fr) := FR.out.cell 0 1 rfl rfl rfl
      obtain ⟨b, off, rfl, hb0, k0, k1, k2⟩ := rxr.look k (by omega)
      have hi0 : (0 : Int) ≤ (i : Int) := by omega
      have hi1 : (i : Int) < (m : Int) := by omega
      have hk0 : (0 : Int) ≤ (k : Int) := by omega
      have hk1 : (k : Int) < (n : Int) := by omega
      have lez := hbl.out.size
      replace k1 := (hbl.out.cell (p := ⟨b, off + k * 3 + 1, none⟩) hb0).trans k1
      obtain ⟨A4, c4, w9, hap4, hown4, hbel4⟩ := eapp_lit (P := Try.prog) (ty := 37) (w0 := wr) (base := w3.heap.size) (W := wr.drew) Try.underlying37 HI.out HZ0.out HZ1.out HZ2.out rfl (by decide) (own_below OW.out (Below.refl _ _).drew) (intC_one _) (intC [(recAt rs k).2.1]) (intC_one _) (m := 1) rfl (by unfold maxLen; omega) (by omega) (Below.refl _ wr).drew (show _ ≤ wr.heap.size from lez)
      rw [← intC_app, ← drop_map (f := fun i => (recAt rs i).2.1) hdr] at hown4
      have HO4 := Lib.hid hown4; have HBR := Lib.hid hbel4; have HB4 := Lib.hid (hbl.out.trans hbel4)
      clear hown4 hbel4 OW hbl rxr hdr hx k0 k2
      generalize recAt rs k = r at *
      go_wp2
      refine wp_region_noPanic ?_
      refine wp_region_held_drew (S := (fun wv => Below w3.heap.size wr wv)) (by kernel_rfl) ((Below.refl _ wr).drew) (fun hS => ?_)
      refine wpAnyH_take (i := 0) (oi := ⟨some 17, .move (.tmp 5), 37, "ref.go:46", #[], none⟩) (v := ?_) rfl (by kernel_rfl) (by kernel_rfl) (by kernel_rfl) (fun _ _ _ h => h) (Or.inl ⟨by rfl, ?_⟩) hS ?_
      rotate_left
      · intro wv _; go_simp; try with_reducible rfl
      try simp only [Act.put, List.setIfInBounds_toArray, List.set_cons_zero, List.set_cons_succ]
      refine wpAnyH_take (i := 1) (oi := ⟨some 18, .fieldAddr 24 (.tmp 2) 0, 0, "ref.go:46", #[], none⟩) (v := ?_) rfl (by kernel_rfl) (by kernel_rfl) (by kernel_rfl) (fun _ _ _ h => h) (Or.inl ⟨by rfl, ?_⟩) hS ?_
      rotate_left
      · intro wv _; go_simp; try with_reducible rfl
      try simp only [Act.put, List.setIfInBounds_toArray, List.set_cons_zero, List.set_cons_succ]
      refine wpAnyH_take (i := 2) (oi := ⟨some 19, .load 22 (.tmp 18), 22, "ref.go:46", #[⟨1, .data⟩], none⟩) (v := ?_) rfl (by kernel_rfl) (by kernel_rfl) (by kernel_rfl) (fun _ _ _ h => h) (Or.inl ⟨by rfl, ?_⟩) hS ?_
      rotate_left
      · intro wv hS; have hrun := (hS.cell (p := ⟨q, 0, none⟩) hqz).trans c00; go_simp; try with_reducible rfl
      try simp only [Act.put, List.setIfInBounds_toArray, List.set_cons_zero, List.set_cons_succ]
      refine wpAnyH_take (i := 3) (oi := ⟨some 20, .move (.tmp 6), 37, "ref.go:46", #[], none⟩) (v := ?_) rfl (by kernel_rfl) (by kernel_rfl) (by kernel_rfl) (fun _ _ _ h => h) (Or.inl ⟨by rfl, ?_⟩) hS ?_
      rotate_left
      · intro wv _; go_simp; try with_reducible rfl
      try simp only [Act.put, List.setIfInBounds_toArray, List.set_cons_zero, List.set_cons_succ]
      refine wpAnyH_take (i := 4) (oi := ⟨some 21, .move (.tmp 7), 3, "ref.go:46", #[], none⟩) (v := ?_) rfl (by kernel_rfl) (by kernel_rfl) (by kernel_rfl) (fun _ _ _ h => h) (Or.inl ⟨by rfl, ?_⟩) hS ?_
      rotate_left
      · intro wv _; go_simp; try with_reducible rfl
      try simp only [Act.put, List.setIfInBounds_toArray, List.set_cons_zero, List.set_cons_succ]
      refine wpAnyH_take (i := 5) (oi := ⟨some 22, .indexAddr 37 (.tmp 20) (.tmp 21), 0, "ref.go:46", #[⟨3, .data⟩, ⟨4, .data⟩], none⟩) (v := ?_) rfl (by kernel_rfl) (by kernel_rfl) (by kernel_rfl) (fun _ _ _ h => h) (Or.inl ⟨by rfl, ?_⟩) hS ?_
      rotate_left
      · intro wv _; go_simp; try with_reducible rfl
      try simp only [Act.put, List.setIfInBounds_toArray, List.set_cons_zero, List.set_cons_succ]
      refine wpAnyH_take (i := 6) (oi := ⟨some 23, .load 3 (.tmp 22), 3, "ref.go:46", #[⟨5, .data⟩], none⟩) (v := ?_) rfl (by kernel_rfl) (by kernel_rfl) (by kernel_rfl) (fun _ _ _ h => h) (Or.inl ⟨by rfl, ?_⟩) hS ?_
      rotate_left
      · intro wv hS; have hrun := (hS.cell (p := ⟨lb, loff + i, none⟩) hlb).trans hlc; go_simp; try with_reducible rfl
      try simp only [Act.put, List.setIfInBounds_toArray, List.set_cons_zero, List.set_cons_succ]
      refine wpAnyH_take (i := 7) (oi := ⟨some 24, .indexAddr 22 (.tmp 19) (.tmp 23), 0, "ref.go:46", #[⟨2, .data⟩, ⟨6, .data⟩], none⟩) (v := ?_) rfl (by kernel_rfl) (by kernel_rfl) (by kernel_rfl) (fun _ _ _ h => h) (Or.inl ⟨by rfl, ?_⟩) hS ?_
      rotate_left
      · intro wv _; go_simp; try with_reducible rfl
      try simp only [Act.put, List.setIfInBounds_toArray, List.set_cons_zero, List.set_cons_succ]
      refine wpAnyH_take (i := 8) (oi := ⟨some 25, .fieldAddr 55 (.tmp 24) 1, 0, "ref.go:46", #[⟨7, .data⟩], none⟩) (v := ?_) rfl (by kernel_rfl) (by kernel_rfl) (by kernel_rfl) (fun _ _ _ h => h) (Or.inl ⟨by rfl, ?_⟩) hS ?_
      rotate_left
      · intro wv _; go_simp; try with_reducible rfl
      try simp only [Act.put, List.setIfInBounds_toArray, List.set_cons_zero, List.set_cons_succ]
      refine wpAnyH_take (i := 9) (oi := ⟨some 26, .load 3 (.tmp 25), 3, "ref.go:46", #[⟨8, .data⟩], none⟩) (v := ?_) rfl (by kernel_rfl) (by kernel_rfl) (by kernel_rfl) (fun _ _ _ h => h) (Or.inl ⟨by rfl, ?_⟩) hS ?_
      rotate_left
      · intro wv hS; have hrun := (hS.cell (p := ⟨b, off + k * 3 + 1, none⟩) hb0).trans k1; go_simp; try with_reducible rfl
      try simp only [Act.put, List.setIfInBounds_toArray, List.set_cons_zero, List.set_cons_succ]
      refine wpAnyH_ready (rs := [10]) (by kernel_rfl) (by simp) (AllReadyH.cons (o := ⟨some 27, .buildSlice 37 1 #[(0, .tmp 26)], 37, "ref.go:46", #[⟨9, .data⟩], none⟩) rfl (fun K hK => ?_) AllReadyH.nil)
      go_simp
      replace hS := hS.alloc (show w3.heap.size ≤ wr.heap.size from lez) (.cells #[.int .i64 r.2.1] 3)
      refine Shut.out hK _ _ hS (fun _ => ?_)
      clear hK K
      try simp only [Act.put, List.setIfInBounds_toArray, List.set_cons_zero, List.set_cons_succ]
      refine wpAnyH_ready (rs := [11]) (by kernel_rfl) (by simp) (AllReadyH.cons (o := ⟨some 28, .call { callee := .builtin .append, args := #[.tmp 17, .tmp 27], argTypes := #[37, 37] }, 37, "ref.go:46", #[⟨0, .data⟩, ⟨10, .data⟩], none⟩) rfl (fun K hK => ?_) AllReadyH.nil)
      refine op_app_run7 (by rfl) rfl rfl rfl hap4 ?_
      replace hS := HBR.out
      refine Shut.out hK _ _ hS (fun _ => ?_)
      clear hK K
      try simp only [Act.put, List.setIfInBounds_toArray, List.set_cons_zero, List.set_cons_succ]
      refine wpAnyH_take (i := 12) (oi := ⟨some 5, .assign (.tmp 28), 37, "ref.go:46", #[⟨11, .data⟩, ⟨11, .chain⟩, ⟨0, .phase⟩, ⟨1, .phase⟩, ⟨2, .phase⟩, ⟨3, .phase⟩, ⟨4, .phase⟩, ⟨5, .phase⟩, ⟨6, .phase⟩, ⟨7, .phase⟩, ⟨8, .phase⟩, ⟨9, .phase⟩, ⟨10, .phase⟩, ⟨11, .phase⟩], none⟩) (v := ?_) rfl (by kernel_rfl) (by kernel_rfl) (by kernel_rfl) (fun _ _ _ h => h) (Or.inl ⟨by rfl, ?_⟩) hS ?_
      rotate_left
      · intro wv _; go_simp; try with_reducible rfl
      try simp only [Act.put, List.setIfInBounds_toArray, List.set_cons_zero, List.set_cons_succ]
      refine wpAnyH_done (by kernel_rfl) ?_ _
      refine NoPanic.normal ?_
      go_wp2
      go_roundw
      case rel => exact ⟨i + 1, by go_num, by omega, rfl, HO4.out, HB4.out⟩
      case measure => simp [intOf]; omega
    · obtain rfl : i = m := by omega
      have b1 : decide ((i : Int) < (i : Int)) = false := by simp
      have HF := Lib.hid (show wr.ownsRow _ 3 1 (.slice C i d2) i (intC (l.map fun i => (recAt rs i).2.1)) by have h := OW.out; rw [List.take_of_length_le (by rw [List.length_map]; exact Nat.le_of_eq HM.out)] at h; exact h)
      have HQ3 := Lib.hid (FR3.out.sz)
      clear OW hlt HIT
      go_wp2
      go_ret
      exact ⟨_, _, _, rfl, own_base HF.out (by have := HQ3.out; rw [hq]; omega), FR.out.out⟩
theorem refQTasks_any (A : Option Addr) (n c : Nat) (rs : List Rec3) (fr hd tl : Int) (w : World) (hx : Rs w A n c rs) (hn : n ≤ 16384) :
    Calls Try.prog 18 #[.agg #[.slice A n c, .int .i64 fr], .agg #[.int .i64 hd, .int .i64 tl]] w (IntsPost w (qTasks (rs, fr) (hd, tl))) := by
  refine (refQTasks_own A n c rs fr hd tl w hx hn).mono ?_
  rintro e w' ⟨B, m, d, rfl, h2, h3⟩
  obtain ⟨_, _, he, hi⟩ := Es.of_own h2 (intC_one _)
  injection he with he1 he2 he3; subst he1; subst he3
  exact ⟨_, _, _, rfl, hi, h3⟩
end Go.Proofs.Ytombfempdfdeoaa
