/- What the program's own taken, row, Right, Places, tasksAt, Tasks, copied of layer 8 answer; for slices of up to 16384 records. -/
import Derived.Test.YtombfempdfdeoaaQueG
import Derived.Test.YtombfempdfdeoaaAreO
import Derived.Test.YtombfempdfdeoaaQueB
namespace Go.Proofs.Ytombfempdfdeoaa
set_option linter.unusedVariables false
set_option linter.unusedSimpArgs false
open Go.RowKit
set_option maxRecDepth 100000 in
set_option maxHeartbeats 4000000 in
theorem qpTaken_any (A : Option Addr) (n c : Nat) (rs : List Rec3) (fr i : Int) (w : World) (hx : Rs w A n c rs) (hn : n ≤ 16384) :
    Calls Try.prog 40 #[.agg #[.slice A n c, .int .i64 fr], .int .i64 i] w (YesPost w (keyedS rs i)) := by
  have hlen := hx.len
  have RX := Lib.hid hx
  clear hx
  obtain ⟨v1, hv1⟩ : ∃ W, w.alloc (.cells #[.slice A n c, .int .i64 fr] 24) = W := ⟨_, rfl⟩
  have fr1 : Fr w v1 w.heap.size [.cells #[.slice A n c, .int .i64 fr] 24] := hv1 ▸ Fr.first w _
  have z1 : v1.heap.size = w.heap.size + 1 := by rw [← hv1, Fr.size1]
  generalize hq : w.heap.size = q at *
  have FR := Lib.hid fr1
  clear fr1
  by_cases h0 : 0 ≤ i
  · have b0 : decide (0 ≤ i) = true := by simpa using h0
    by_cases h1 : i < (n : Int)
    · have b1 : decide (i < (n : Int)) = true := by simpa using h1
      obtain ⟨i, rfl⟩ : ∃ j : Nat, i = j := ⟨i.toNat, by omega⟩
      have hi0 : (0 : Int) ≤ (i : Int) := h0
      have hi1 : (i : Int) < (n : Int) := h1
      have HE := Lib.hid (show keyedS rs (i : Int) = decide (0 ≤ (recAt rs i).1) by unfold keyedS; rw [decide_eq_true hi0, decide_eq_true (by omega), Bool.true_and, Bool.true_and])
      obtain ⟨b, off, rfl, hb0, k0, k1, k2⟩ := Rs.look (rs := rs) (FR.out.es RX.out) i (by omega)
      clear hb0 k1 k2 h0 h1 hlen
      generalize recAt rs i = r at *
      have c00 : v1.cell? ⟨q, 0, none⟩ = some (.slice (some ⟨b, off, none⟩) n c) := FR.out.cell 0 0 rfl rfl rfl
      have c01 : v1.cell? ⟨q, 1, none⟩ = some (.int .i64 fr) := FR.out.cell 0 1 rfl rfl rfl
      have HB := Lib.hid FR.out.out
      clear FR
      go_enter Try.func40, Try.ntmps40
      go_wp2
      go_ret
      rw [HE.out]
      exact ⟨rfl, HB.out⟩
    · have b1 : decide (i < (n : Int)) = false := by simpa using h1
      have HE := Lib.hid (show keyedS rs i = false from Bool.eq_false_iff.2 fun h => h1 (by have := (keyedS_iff.1 h).2.1; omega))
      clear h0 h1 hlen
      have c00 : v1.cell? ⟨q, 0, none⟩ = some (.slice A n c) := FR.out.cell 0 0 rfl rfl rfl
      have c01 : v1.cell? ⟨q, 1, none⟩ = some (.int .i64 fr) := FR.out.cell 0 1 rfl rfl rfl
      have HB := Lib.hid FR.out.out
      clear FR
      go_enter Try.func40, Try.ntmps40
      go_wp2
      go_ret
      rw [HE.out]
      exact ⟨rfl, HB.out⟩
  · have b0 : decide (0 ≤ i) = false := by simpa using h0
    have HE := Lib.hid (show keyedS rs i = false from Bool.eq_false_iff.2 fun h => h0 (keyedS_iff.1 h).1)
    clear h0 hlen
    have c00 : v1.cell? ⟨q, 0, none⟩ = some (.slice A n c) := FR.out.cell 0 0 rfl rfl rfl
    have c01 : v1.cell? ⟨q, 1, none⟩ = some (.int .i64 fr) := FR.out.cell 0 1 rfl rfl rfl
    have HB := Lib.hid FR.out.out
    clear FR
    go_enter Try.func40, Try.ntmps40
    go_wp2
    go_ret
    rw [HE.out]
    exact ⟨rfl, HB.out⟩
set_option maxRecDepth 100000 in
set_option maxHeartbeats 4000000 in
theorem qpRow_any (A : Option Addr) (n c : Nat) (rs : List Rec3) (fr hd tl : Int) (w : World) (hx : Rs w A n c rs) (hn : n ≤ 16384) :
    Calls Try.prog 26 #[.agg #[.slice A n c, .int .i64 fr], .agg #[.int .i64 hd, .int .i64 tl]] w (PlPost w (rowS (rs, fr) (hd, tl))) := by
  obtain ⟨i5, hi5, hz0, hz1, hz2⟩ := info_of infoInt
  have HI := Lib.hid hi5; have HZ0 := Lib.hid hz0; have HZ1 := Lib.hid hz1; have HZ2 := Lib.hid hz2
  clear hi5 hz0 hz1 hz2
  have hlen := hx.len
  have RX := Lib.hid hx
  have HL := Lib.hid hlen
  have RT := Lib.hid (fun (W : World) (h : Rs W A n c rs) => arnRight_any A n c rs fr W h hn)
  have TK := Lib.hid (fun (W : World) (h : Rs W A n c rs) (k : Int) => qpTaken_any A n c rs fr k W h hn)
  obtain ⟨R, hR⟩ : ∃ R, rowS (rs, fr) (hd, tl) = R := ⟨_, rfl⟩
  have HR := Lib.hid hR
  rw [hR]
  clear hx hR hlen
  obtain ⟨v1, hv1⟩ : ∃ W, w.alloc (.cells #[.slice A n c, .int .i64 fr] 24) = W := ⟨_, rfl⟩
  have fr1 : Fr w v1 w.heap.size [.cells #[.slice A n c, .int .i64 fr] 24] := hv1 ▸ Fr.first w _
  have z1 : v1.heap.size = w.heap.size + 1 := by rw [← hv1, Fr.size1]
  obtain ⟨v2, hv2⟩ : ∃ W, v1.alloc (.cells #[.int .i64 hd, .int .i64 tl] 26) = W := ⟨_, rfl⟩
  have fr2 : Fr w v2 w.heap.size [.cells #[.slice A n c, .int .i64 fr] 24, .cells #[.int .i64 hd, .int .i64 tl] 26] := hv2 ▸ fr1.more z1 _
  have z2 : v2.heap.size = w.heap.size + 2 := by rw [← hv2, Fr.size1, z1]
  generalize hq : w.heap.size = q at *
  have FR := Lib.hid fr2
  clear fr1 fr2
  have RT2 := RT.out _ (FR.out.es RX.out)
  cases hr : rightS (rs, fr)
  · have HE := Lib.hid (show R = ([], false) by rw [← HR.out, rowS_wrong hr])
    rw [hr] at RT2
    replace RT2 := Lib.hid RT2
    clear hr
    go_enter Try.func26, Try.ntmps26
    have c00 : v2.cell? ⟨q, 0, none⟩ = some (.slice A n c) := FR.out.cell 0 0 rfl rfl rfl
    have c01 : v2.cell? ⟨q, 1, none⟩ = some (.int .i64 fr) := FR.out.cell 0 1 rfl rfl rfl
    have c10 : v2.cell? ⟨q + 1, 0, none⟩ = some (.int .i64 hd) := FR.out.cell 1 0 rfl rfl rfl
    have c11 : v2.cell? ⟨q + 1, 1, none⟩ = some (.int .i64 tl) := FR.out.cell 1 1 rfl rfl rfl
    go_wp2_with fail
    refine (RT2.out).mono ?_
    rintro e w3 ⟨rfl, hb⟩
    clear c00 c01 c10 c11
    replace FR := Lib.hid (FR.out.step hb)
    clear hb
    go_wp2
    go_ret2
    rw [HE.out]
    exact ⟨_, _, _, rfl, World.ownsRow_nil _ _ _ _, FR.out.out⟩
  · rw [hr] at RT2
    replace RT2 := Lib.hid RT2
    have RI := Lib.hid hr
    clear hr
    go_enter Try.func26, Try.ntmps26
    have c00 : v2.cell? ⟨q, 0, none⟩ = some (.slice A n c) := FR.out.cell 0 0 rfl rfl rfl
    have c01 : v2.cell? ⟨q, 1, none⟩ = some (.int .i64 fr) := FR.out.cell 0 1 rfl rfl rfl
    have c10 : v2.cell? ⟨q + 1, 0, none⟩ = some (.int .i64 hd) := FR.out.cell 1 0 rfl rfl rfl
    have c11 : v2.cell? ⟨q + 1, 1, none⟩ = some (.int .i64 tl) := FR.out.cell 1 1 rfl rfl rfl
    go_wp2_with fail
    refine (RT2.out).mono ?_
    rintro e w3 ⟨rfl, hb⟩
    clear c00 c01 c10 c11
    replace FR := Lib.hid (FR.out.step hb)
    clear hb
    have c00 : w3.cell? ⟨q, 0, none⟩ = some (.slice A n c) := FR.out.cell 0 0 rfl rfl rfl
    have f00 : w3.frozen? ⟨q, 0, none⟩ = false := FR.out.frozen 0 0 rfl rfl
    have c01 : w3.cell? ⟨q, 1, none⟩ = some (.int .i64 fr) := FR.out.cell 0 1 rfl rfl rfl
    have f01 : w3.frozen? ⟨q, 1, none⟩ = false := FR.out.frozen 0 1 rfl rfl
    have c10 : w3.cell? ⟨q + 1, 0, none⟩ = some (.int .i64 hd) := FR.out.cell 1 0 rfl rfl rfl
    have f10 : w3.frozen? ⟨q + 1, 0, none⟩ = false := FR.out.frozen 1 0 rfl rfl
    have c11 : w3.cell? ⟨q + 1, 1, none⟩ = some (.int .i64 tl) := FR.out.cell 1 1 rfl rfl rfl
    have f11 : w3.frozen? ⟨q + 1, 1, none⟩ = false := FR.out.frozen 1 1 rfl rfl
    go_wp2
    clear c00 f00 c01 f01 c10 f10 c11 f11
    clear hv1 hv2 z1 z2
    go_loopw [6, 7, 8] (fun ov lv av wr => ∃ (out : List Int) (at_ : Int), av = .int .i64 at_ ∧ lv = .int .i64 (lastD out) ∧ lenV ov = out.length ∧ out.length ≤ n ∧ Hid (wr.ownsRow (q + 2) 3 1 ov out.length (intC out)) ∧ Hid (Fr w wr q [.cells #[.slice A n c, .int .i64 fr] 24, .cells #[.int .i64 hd, .int .i64 tl] 26]) ∧ Hid (walkQ rs rs.length hd [] = walkQ rs (n - out.length) at_ out)) (fun ov _ _ _ => n - lenV ov)
    case atStart => exact ⟨[], hd, rfl, rfl, rfl, by simp, World.ownsRow_nil _ _ _ _, FR.out, by rw [HL.out]; rfl⟩
    case round =>
      clear FR
      obtain ⟨out, at_, rfl, rfl, hlv, hol, OW, FR, HW⟩ := hrel
      obtain ⟨B, d, rfl, his⟩ := Es.of_own OW.out (intC_one _)
      clear his hlv
      by_cases h1 : at_ = -1
      · have b0 : (at_ != -1) = false := by simp [h1]
        have hw2 : walkQ rs rs.length hd [] = some out := HW.out.trans (walkQ_end h1)
        by_cases h2 : lastD out = tl
        · have b1 : (lastD out != tl) = false := by simp [h2]
          have HE := Lib.hid (show R = (out, true) by rw [← HR.out, rowS_some RI.out hw2 h2])
          clear h1 h2 hw2 HW
          generalize lastD out = la at *
          have c10 : wr.cell? ⟨q + 1, 0, none⟩ = some (.int .i64 hd) := FR.out.cell 1 0 rfl rfl rfl
          have f10 : wr.frozen? ⟨q + 1, 0, none⟩ = false := FR.out.frozen 1 0 rfl rfl
          have c11 : wr.cell? ⟨q + 1, 1, none⟩ = some (.int .i64 tl) := FR.out.cell 1 1 rfl rfl rfl
          have f11 : wr.frozen? ⟨q + 1, 1, none⟩ = false := FR.out.frozen 1 1 rfl rfl
          go_wp2
          go_ret2
          rw [HE.out]
          exact ⟨_, _, _, rfl, own_base OW.out (by rw [hq]; omega), FR.out.out⟩
        · have b1 : (lastD out != tl) = true := by simp [h2]
          have HE := Lib.hid (show R = ([], false) by rw [← HR.out, rowS_bad RI.out hw2 h2])
          clear h1 h2 hw2 HW
          generalize lastD out = la at *
          have c10 : wr.cell? ⟨q + 1, 0, none⟩ = some (.int .i64 hd) := FR.out.cell 1 0 rfl rfl rfl
          have f10 : wr.frozen? ⟨q + 1, 0, none⟩ = false := FR.out.frozen 1 0 rfl rfl
          have c11 : wr.cell? ⟨q + 1, 1, none⟩ = some (.int .i64 tl) := FR.out.cell 1 1 rfl rfl rfl
          have f11 : wr.frozen? ⟨q + 1, 1, none⟩ = false := FR.out.frozen 1 1 rfl rfl
          go_wp2
          go_ret2
          rw [HE.out]
          exact ⟨_, _, _, rfl, World.ownsRow_nil _ _ _ _, FR.out.out⟩
      · have b0 : (at_ != -1) = true := by simp [h1]
        have TK2 := fun W (h : Rs W A n c rs) => TK.out W h at_
        cases hk : keyedS rs at_
        · have HE := Lib.hid (show R = ([], false) by rw [← HR.out, rowS_none RI.out (HW.out.trans (walkQ_bad h1 hk))])
          rw [hk] at TK2
          replace TK2 := Lib.hid TK2
          clear h1 hk HW OW
          generalize lastD out = la at *
          have c00 : wr.cell? ⟨q, 0, none⟩ = some (.slice A n c) := FR.out.cell 0 0 rfl rfl rfl
          have c01 : wr.cell? ⟨q, 1, none⟩ = some (.int .i64 fr) := FR.out.cell 0 1 rfl rfl rfl
          have c10 : wr.cell? ⟨q + 1, 0, none⟩ = some (.int .i64 hd) := FR.out.cell 1 0 rfl rfl rfl
          have c11 : wr.cell? ⟨q + 1, 1, none⟩ = some (.int .i64 tl) := FR.out.cell 1 1 rfl rfl rfl
          go_wp2_with fail
          refine ((TK2.out _ (FR.out.es RX.out))).mono ?_
          rintro e w4 ⟨rfl, hb⟩
          clear c00 c01 c10 c11
          replace FR := Lib.hid (FR.out.step hb)
          clear hb
          go_wp2
          go_ret2
          rw [HE.out]
          exact ⟨_, _, _, rfl, World.ownsRow_nil _ _ _ _, FR.out.out⟩
        · rw [hk] at TK2
          replace TK2 := Lib.hid TK2
          obtain ⟨k0, k1, _⟩ := keyedS_iff.1 hk
          rw [HL.out] at k1
          obtain ⟨i, rfl⟩ : ∃ j : Nat, at_ = j := ⟨at_.toNat, by omega⟩
          by_cases hfull : out.length = n
          · have HE := Lib.hid (show R = ([], false) by rw [← HR.out, rowS_none RI.out (HW.out.trans (by rw [hfull, Nat.sub_self]; exact walkQ_full h1))])
            have b1 : ((out.length : Int) == (n : Int)) = true := by simp; omega
            clear h1 hk HW OW k0 k1
            generalize lastD out = la at *
            have c00 : wr.cell? ⟨q, 0, none⟩ = some (.slice A n c) := FR.out.cell 0 0 rfl rfl rfl
            have c01 : wr.cell? ⟨q, 1, none⟩ = some (.int .i64 fr) := FR.out.cell 0 1 rfl rfl rfl
            have c10 : wr.cell? ⟨q + 1, 0, none⟩ = some (.int .i64 hd) := FR.out.cell 1 0 rfl rfl rfl
            have c11 : wr.cell? ⟨q + 1, 1, none⟩ = some (.int .i64 tl) := FR.out.cell 1 1 rfl rfl rfl
            go_wp2_with fail
            refine ((TK2.out _ (FR.out.es RX.out))).mono ?_
            rintro e w4 ⟨rfl, hb⟩
            clear c00 c01 c10 c11
            replace FR := Lib.hid (FR.out.step hb)
            clear hb
            have c00 : w4.cell? ⟨q, 0, none⟩ = some (.slice A n c) := FR.out.cell 0 0 rfl rfl rfl
            have c01 : w4.cell? ⟨q, 1, none⟩ = some (.int .i64 fr) := FR.out.cell 0 1 rfl rfl rfl
            have c10 : w4.cell? ⟨q + 1, 0, none⟩ = some (.int .i64 hd) := FR.out.cell 1 0 rfl rfl rfl
            have c11 : w4.cell? ⟨q + 1, 1, none⟩ = some (.int .i64 tl) := FR.out.cell 1 1 rfl rfl rfl
            go_wp2
            go_ret2
            rw [HE.out]
            exact ⟨_, _, _, rfl, World.ownsRow_nil _ _ _ _, FR.out.out⟩
          · have b1 : ((out.length : Int) == (n : Int)) = false := by simp; omega
            have hlt : out.length < n := by omega
            have HW2 := Lib.hid (show walkQ rs rs.length hd [] = walkQ rs (n - (out.length + 1)) (recAt rs i).2.2 (out ++ [(i : Int)]) from HW.out.trans (walkQ_step (by omega) h1 hk))
            have hi0 : (0 : Int) ≤ (i : Int) := k0
            have hi1 : (i : Int) < (n : Int) := k1
            clear h1 hk HW hfull k0 k1
            generalize lastD out = la at *
            have c00 : wr.cell? ⟨q, 0, none⟩ = some (.slice A n c) := FR.out.cell 0 0 rfl rfl rfl
            have c01 : wr.cell? ⟨q, 1, none⟩ = some (.int .i64 fr) := FR.out.cell 0 1 rfl rfl rfl
            have c10 : wr.cell? ⟨q + 1, 0, none⟩ = some (.int .i64 hd) := FR.out.cell 1 0 rfl rfl rfl
            have c11 : wr.cell? ⟨q + 1, 1, none⟩ = some (.int .i64 tl) := FR.out.cell 1 1 rfl rfl rfl
            go_wp2_with fail
            refine ((TK2.out _ (FR.out.es RX.out))).mono ?_
            rintro e w4 ⟨rfl, hb⟩
            clear c00 c01 c10 c11
            replace FR := Lib.hid (FR.out.step hb)
            replace OW := Lib.hid (own_below OW.out hb)
            clear hb
            have hsz := FR.out.sz
            simp only [List.length_cons, List.length_nil] at hsz
            obtain ⟨A4, c4, w9, hap4, hown4, hbel4⟩ := eapp_lit (P := Try.prog) (ty := 37) (w0 := w4) Try.underlying37 HI.out HZ0.out HZ1.out HZ2.out rfl (by decide) OW.out (intC_one _) (intC [(i : Int)]) (intC_one _) (m := 1) rfl (by unfold maxLen; omega) (by omega) (Below.refl _ _) (by omega)
            rw [← intC_app] at hown4
            have fr4 : Fr w w9 q [.cells #[.slice A n c, .int .i64 fr] 24, .cells #[.int .i64 hd, .int .i64 tl] 26] := ⟨fun k o hk => (hbel4.block (q + k) (by have : k < 2 := (List.getElem?_eq_some_iff.1 hk).1; omega)).trans (FR.out.blk k o hk), FR.out.bel.trans (hbel4.mono (by omega)), by have := hbel4.size; simp only [List.length_cons, List.length_nil]; omega, FR.out.q0⟩
            have rx4 : Rs w9 A n c rs := fr4.es RX.out
            replace hap4 : (Builtin.append_ #[37, 37] 37 #[_, .slice (some ⟨w4.heap.size, 0, none⟩) 1 1]).run Try.prog (w4.alloc (.cells #[.int .i64 (i : Int)] 3)) = _ := hap4
            have HO4 := Lib.hid hown4; have FR4 := Lib.hid fr4
            have c00 : w4.cell? ⟨q, 0, none⟩ = some (.slice A n c) := FR.out.cell 0 0 rfl rfl rfl
            have c01 : w4.cell? ⟨q, 1, none⟩ = some (.int .i64 fr) := FR.out.cell 0 1 rfl rfl rfl
            obtain ⟨b, off, rfl, hb0, k0, k1, k2⟩ := rx4.look i (by omega)
            have d00 : w9.cell? ⟨q, 0, none⟩ = some (.slice (some ⟨b, off, none⟩) n c) := FR4.out.cell 0 0 rfl rfl rfl
            clear hown4 hbel4 fr4 rx4 k0 k1 hb0 OW
            generalize recAt rs i = r at *
            go_wp2_with (at_builtin; refine eapp_run (by rfl) rfl rfl rfl hap4 ?_)
            go_roundw
            case rel => exact ⟨out ++ [(i : Int)], r.2.2, rfl, by rw [lastD_app], by simp [lenV], by rw [List.length_append]; simp; omega, by rw [List.length_append]; exact HO4.out, FR4.out, by rw [List.length_append]; exact HW2.out⟩
            case measure => simp [lenV]; omega
set_option maxRecDepth 100000 in
set_option maxHeartbeats 4000000 in
theorem qpRight_any (A : Option Addr) (n c : Nat) (rs : List Rec3) (fr hd tl : Int) (w : World) (hx : Rs w A n c rs) (hn : n ≤ 16384) :
    Calls Try.prog 14 #[.agg #[.slice A n c, .int .i64 fr], .agg #[.int .i64 hd, .int .i64 tl]] w (YesPost w (qRight (rs, fr) (hd, tl))) := by
  have RX := Lib.hid hx
  have RW := Lib.hid (fun (W : World) (h : Rs W A n c rs) => qpRow_any A n c rs fr hd tl W h hn)
  clear hx
  obtain ⟨v1, hv1⟩ : ∃ W, w.alloc (.cells #[.slice A n c, .int .i64 fr] 24) = W := ⟨_, rfl⟩
  have fr1 : Fr w v1 w.heap.size [.cells #[.slice A n c, .int .i64 fr] 24] := hv1 ▸ Fr.first w _
  have z1 : v1.heap.size = w.heap.size + 1 := by rw [← hv1, Fr.size1]
  obtain ⟨v2, hv2⟩ : ∃ W, v1.alloc (.cells #[.int .i64 hd, .int .i64 tl] 26) = W := ⟨_, rfl⟩
  have fr2 : Fr w v2 w.heap.size [.cells #[.slice A n c, .int .i64 fr] 24, .cells #[.int .i64 hd, .int .i64 tl] 26] := hv2 ▸ fr1.more z1 _
  have z2 : v2.heap.size = w.heap.size + 2 := by rw [← hv2, Fr.size1, z1]
  generalize hq : w.heap.size = q at *
  have FR := Lib.hid fr2
  clear fr1 fr2
  have RW2 := Lib.hid (RW.out _ (FR.out.es RX.out))
  go_enter Try.func14, Try.ntmps14
  have c00 : v2.cell? ⟨q, 0, none⟩ = some (.slice A n c) := FR.out.cell 0 0 rfl rfl rfl
  have c01 : v2.cell? ⟨q, 1, none⟩ = some (.int .i64 fr) := FR.out.cell 0 1 rfl rfl rfl
  have c10 : v2.cell? ⟨q + 1, 0, none⟩ = some (.int .i64 hd) := FR.out.cell 1 0 rfl rfl rfl
  have c11 : v2.cell? ⟨q + 1, 1, none⟩ = some (.int .i64 tl) := FR.out.cell 1 1 rfl rfl rfl
  go_wp2_with fail
  refine (RW2.out).mono ?_
  rintro e w3 ⟨B, m, d, rfl, his, hb⟩
  clear c00 c01 c10 c11
  replace FR := Lib.hid (FR.out.step hb)
  clear hb
  clear his
  unfold rowS
  go_wp2
  go_ret
  exact ⟨rfl, FR.out.out⟩
set_option maxRecDepth 100000 in
set_option maxHeartbeats 4000000 in
theorem qpPlaces_own (A : Option Addr) (n c : Nat) (rs : List Rec3) (fr hd tl : Int) (w : World) (hx : Rs w A n c rs) (hn : n ≤ 16384) :
    Calls Try.prog 19 #[.agg #[.slice A n c, .int .i64 fr], .agg #[.int .i64 hd, .int .i64 tl]] w (OwnInts w (qPlaces (rs, fr) (hd, tl))) := by
  have RX := Lib.hid hx
  have RW := Lib.hid (fun (W : World) (h : Rs W A n c rs) => qpRow_any A n c rs fr hd tl W h hn)
  clear hx
  obtain ⟨v1, hv1⟩ : ∃ W, w.alloc (.cells #[.slice A n c, .int .i64 fr] 24) = W := ⟨_, rfl⟩
  have fr1 : Fr w v1 w.heap.size [.cells #[.slice A n c, .int .i64 fr] 24] := hv1 ▸ Fr.first w _
  have z1 : v1.heap.size = w.heap.size + 1 := by rw [← hv1, Fr.size1]
  obtain ⟨v2, hv2⟩ : ∃ W, v1.alloc (.cells #[.int .i64 hd, .int .i64 tl] 26) = W := ⟨_, rfl⟩
  have fr2 : Fr w v2 w.heap.size [.cells #[.slice A n c, .int .i64 fr] 24, .cells #[.int .i64 hd, .int .i64 tl] 26] := hv2 ▸ fr1.more z1 _
  have z2 : v2.heap.size = w.heap.size + 2 := by rw [← hv2, Fr.size1, z1]
  generalize hq : w.heap.size = q at *
  have FR := Lib.hid fr2
  clear fr1 fr2
  have RW2 := Lib.hid (RW.out _ (FR.out.es RX.out))
  go_enter Try.func19, Try.ntmps19
  have c00 : v2.cell? ⟨q, 0, none⟩ = some (.slice A n c) := FR.out.cell 0 0 rfl rfl rfl
  have c01 : v2.cell? ⟨q, 1, none⟩ = some (.int .i64 fr) := FR.out.cell 0 1 rfl rfl rfl
  have c10 : v2.cell? ⟨q + 1, 0, none⟩ = some (.int .i64 hd) := FR.out.cell 1 0 rfl rfl rfl
  have c11 : v2.cell? ⟨q + 1, 1, none⟩ = some (.int .i64 tl) := FR.out.cell 1 1 rfl rfl rfl
  go_wp2_with fail
  refine (RW2.out).mono ?_
  rintro e w3 ⟨B, m, d, rfl, his, hb⟩
  clear c00 c01 c10 c11
  replace FR := Lib.hid (FR.out.step hb)
  clear hb
  have HI := Lib.hid his
  clear his
  go_wp2
  go_ret
  exact ⟨_, _, _, rfl, own_base HI.out (by have := FR.out.q0; omega), FR.out.out⟩
set_option maxRecDepth 100000 in
set_option maxHeartbeats 4000000 in
theorem qpTasksAt_any (A : Option Addr) (n c : Nat) (rs : List Rec3) (fr : Int) (C : Option Addr) (m d : Nat) (l : List Int) (w : World) (hx : Rs w A n c rs) (hp : Is w C m d l) (hl : ∀ x ∈ l, 0 ≤ x ∧ x < (n : Int)) (hm16 : m ≤ 16384) :
    Calls Try.prog 31 #[.agg #[.slice A n c, .int .i64 fr], .slice C m d] w (OwnInts w (l.map fun i => (recAt rs i).2.1)) := by
  obtain ⟨i5, hi5, hz0, hz1, hz2⟩ := info_of infoInt
  have HI := Lib.hid hi5; have HZ0 := Lib.hid hz0; have HZ1 := Lib.hid hz1; have HZ2 := Lib.hid hz2
  clear hi5 hz0 hz1 hz2
  have HL2 := Lib.hid hx.len
  have RX := Lib.hid hx
  have HPL := Lib.hid hl
  have hml : l.length = m := hp.len
  have HM := Lib.hid hml
  have HIS := Lib.hid hp
  clear hx hp hl hml
  obtain ⟨v1, hv1⟩ : ∃ W, w.alloc (.cells #[.slice A n c, .int .i64 fr] 24) = W := ⟨_, rfl⟩
  have fr1 : Fr w v1 w.heap.size [.cells #[.slice A n c, .int .i64 fr] 24] := hv1 ▸ Fr.first w _
  have z1 : v1.heap.size = w.heap.size + 1 := by rw [← hv1, Fr.size1]
  generalize hq : w.heap.size = q at *
  have FR := Lib.hid fr1
  clear fr1
  replace HIS := Lib.hid (show Is _ C m d l from FR.out.es HIS.out)
  go_enter Try.func31, Try.ntmps31
  go_wp2
  clear hv1 z1
  go_loopw [5, 10] (fun ov iv wr => ∃ (i : Nat), iv = .int .i64 (i : Int) ∧ i ≤ m ∧ lenV ov = i ∧ Hid (wr.ownsRow v1.heap.size 3 1 ov i (intC ((l.map fun i => (recAt rs i).2.1).take i))) ∧ Hid (Below v1.heap.size v1 wr)) (fun _ iv _ => m - (intOf iv).toNat)
  case atStart => exact ⟨0, rfl, by omega, rfl, World.ownsRow_nil _ _ _ _, Below.refl _ _⟩
  case round =>
    obtain ⟨i, rfl, hi, hlv, OW, hbl⟩ := hrel
    have FR3 := FR
    replace FR := Lib.hid (FR.out.step hbl.out)
    obtain ⟨C2, d2, rfl, hit⟩ := Es.of_own OW.out (intC_one _)
    clear hit hlv
    by_cases hlt : i < m
    · have b1 : decide ((i : Int) < (m : Int)) = true := by simpa using hlt
      obtain ⟨lb, loff, x, rfl, hlb, hlc, hdr⟩ := (show Is _ _ m d l from HIS.out).look i hlt
      replace hlc := (hbl.out.cell (p := ⟨lb, loff + i, none⟩) hlb).trans hlc
      have hx := HPL.out x (mem_at hdr)
      obtain ⟨k, rfl⟩ : ∃ k : Nat, x = k := ⟨x.toNat, by omega⟩
      have rxr : Rs v1 A n c rs := FR3.out.es RX.out
      have hqz : q < v1.heap.size := by have := FR3.out.sz; simp only [List.length_cons, List.length_nil] at this; omega
      clear FR3
      have c00 : wr.cell? ⟨q, 0, none⟩ = some (.slice A n c) := FR.out.cell 0 0 rfl rfl rfl
      have c01 : wr.cell? ⟨q, 1, none⟩ = some (.int .i64 fr) := FR.out.cell 0 1 rfl rfl rfl
      obtain ⟨b, off, rfl, hb0, k0, k1, k2⟩ := rxr.look k (by omega)
      have hi0 : (0 : Int) ≤ (i : Int) := by omega
      have hi1 : (i : Int) < (m : Int) := by omega
      have hk0 : (0 : Int) ≤ (k : Int) := by omega
      have hk1 : (k : Int) < (n : Int) := by omega
      have lez := hbl.out.size
      replace k1 := (hbl.out.cell (p := ⟨b, off + k * 3 + 1, none⟩) hb0).trans k1
      obtain ⟨A4, c4, w9, hap4, hown4, hbel4⟩ := eapp_lit (P := Try.prog) (ty := 37) (w0 := wr) (base := v1.heap.size) (W := wr) Try.underlying37 HI.out HZ0.out HZ1.out HZ2.out rfl (by decide) OW.out (intC_one _) (intC [(recAt rs k).2.1]) (intC_one _) (m := 1) rfl (by unfold maxLen; omega) (by omega) (Below.refl _ wr) (show _ ≤ wr.heap.size from lez)
      rw [← intC_app, ← drop_map (f := fun i => (recAt rs i).2.1) hdr] at hown4
      have HO4 := Lib.hid hown4; have HB4 := Lib.hid (hbl.out.trans hbel4)
      clear hown4 hbel4 OW hbl rxr hdr hx k0 k2
      generalize recAt rs k = r at *
      replace hap4 : (Builtin.append_ #[37, 37] 37 #[_, .slice (some ⟨wr.heap.size, 0, none⟩) 1 1]).run Try.prog (wr.alloc (.cells #[.int .i64 r.2.1] 3)) = _ := hap4
      go_wp2_with (at_builtin; refine eapp_run (by rfl) rfl rfl rfl hap4 ?_)
      go_roundw
      case rel => exact ⟨i + 1, by go_num, by omega, rfl, HO4.out, HB4.out⟩
      case measure => simp [intOf]; omega
    · obtain rfl : i = m := by omega
      have b1 : decide ((i : Int) < (i : Int)) = false := by simp
      have HF := Lib.hid (show wr.ownsRow _ 3 1 (.slice C2 i d2) i (intC (l.map fun i => (recAt rs i).2.1)) by have h := OW.out; rw [List.take_of_length_le (by rw [List.length_map]; exact Nat.le_of_eq HM.out)] at h; exact h)
      have HQ3 := Lib.hid (FR3.out.sz)
      clear OW hlt
      go_wp2
      go_ret
      exact ⟨_, _, _, rfl, own_base HF.out (by have := HQ3.out; rw [hq]; omega), FR.out.out⟩
theorem row_in {rs : List Rec3} {fr hd tl : Int} {n : Nat} (h : rs.length = n) : (∀ x ∈ (rowS (rs, fr) (hd, tl)).1, 0 ≤ x ∧ x < (n : Int)) ∧ (rowS (rs, fr) (hd, tl)).1.length ≤ n := by
  have := qPlaces_places (rs, fr) (hd, tl)
  subst h
  exact ⟨this.2, this.len⟩
set_option maxRecDepth 100000 in
set_option maxHeartbeats 4000000 in
theorem qpTasks_own (A : Option Addr) (n c : Nat) (rs : List Rec3) (fr hd tl : Int) (w : World) (hx : Rs w A n c rs) (hn : n ≤ 16384) :
    Calls Try.prog 17 #[.agg #[.slice A n c, .int .i64 fr], .agg #[.int .i64 hd, .int .i64 tl]] w (OwnInts w (qTasks (rs, fr) (hd, tl))) := by
  have hin := row_in (fr := fr) (hd := hd) (tl := tl) hx.len
  have RX := Lib.hid hx
  have RW := Lib.hid (fun (W : World) (h : Rs W A n c rs) => qpRow_any A n c rs fr hd tl W h hn)
  obtain ⟨l, o, hlo⟩ : ∃ l o, rowS (rs, fr) (hd, tl) = (l, o) := ⟨_, _, rfl⟩
  have hE : qTasks (rs, fr) (hd, tl) = l.map fun i => (recAt rs i).2.1 := by unfold qTasks; rw [show qPlaces (rs, fr) (hd, tl) = l from congrArg Prod.fst hlo]
  rw [hE]
  rw [hlo] at hin
  have RW1 := fun W h => RW.out W h
  rw [hlo] at RW1
  replace RW1 : Hid (∀ W, Rs W A n c rs → Calls Try.prog 26 #[.agg #[.slice A n c, .int .i64 fr], .agg #[.int .i64 hd, .int .i64 tl]] W (PlPost W (l, o))) := Lib.hid RW1
  have HIN := Lib.hid hin
  clear hx hlo hE hin RW
  obtain ⟨v1, hv1⟩ : ∃ W, w.alloc (.cells #[.slice A n c, .int .i64 fr] 24) = W := ⟨_, rfl⟩
  have fr1 : Fr w v1 w.heap.size [.cells #[.slice A n c, .int .i64 fr] 24] := hv1 ▸ Fr.first w _
  have z1 : v1.heap.size = w.heap.size + 1 := by rw [← hv1, Fr.size1]
  obtain ⟨v2, hv2⟩ : ∃ W, v1.alloc (.cells #[.int .i64 hd, .int .i64 tl] 26) = W := ⟨_, rfl⟩
  have fr2 : Fr w v2 w.heap.size [.cells #[.slice A n c, .int .i64 fr] 24, .cells #[.int .i64 hd, .int .i64 tl] 26] := hv2 ▸ fr1.more z1 _
  have z2 : v2.heap.size = w.heap.size + 2 := by rw [← hv2, Fr.size1, z1]
  generalize hq : w.heap.size = q at *
  have FR := Lib.hid fr2
  clear fr1 fr2
  have RW2 := Lib.hid (RW1.out _ (FR.out.es RX.out))
  go_enter Try.func17, Try.ntmps17
  have c00 : v2.cell? ⟨q, 0, none⟩ = some (.slice A n c) := FR.out.cell 0 0 rfl rfl rfl
  have c01 : v2.cell? ⟨q, 1, none⟩ = some (.int .i64 fr) := FR.out.cell 0 1 rfl rfl rfl
  have c10 : v2.cell? ⟨q + 1, 0, none⟩ = some (.int .i64 hd) := FR.out.cell 1 0 rfl rfl rfl
  have c11 : v2.cell? ⟨q + 1, 1, none⟩ = some (.int .i64 tl) := FR.out.cell 1 1 rfl rfl rfl
  go_wp2_with fail
  refine (RW2.out).mono ?_
  rintro e w3 ⟨B, m, d, rfl, hown, hb⟩
  clear c00 c01 c10 c11
  replace FR := Lib.hid (FR.out.step hb)
  clear hb
  obtain ⟨_, _, he, his⟩ := Es.of_own hown (intC_one _)
  injection he with he1 he2 he3; subst he1; subst he3
  have hm16 : m ≤ 16384 := by have h1 : l.length ≤ n := HIN.out.2; have h2 : (intC l).length = m * 1 := hown.1; rw [intC_len] at h2; omega
  have TS := Lib.hid (qpTasksAt_any A n c rs fr B m d l w3 (FR.out.es RX.out) his HIN.out.1 hm16)
  clear hown his hm16
  have hsz := FR.out.sz
  simp only [List.length_cons, List.length_nil] at hsz
  have c00 : w3.cell? ⟨q, 0, none⟩ = some (.slice A n c) := FR.out.cell 0 0 rfl rfl rfl
  have c01 : w3.cell? ⟨q, 1, none⟩ = some (.int .i64 fr) := FR.out.cell 0 1 rfl rfl rfl
  have c10 : w3.cell? ⟨q + 1, 0, none⟩ = some (.int .i64 hd) := FR.out.cell 1 0 rfl rfl rfl
  have c11 : w3.cell? ⟨q + 1, 1, none⟩ = some (.int .i64 tl) := FR.out.cell 1 1 rfl rfl rfl
  go_wp2_with fail
  refine (TS.out).mono ?_
  rintro e w4 ⟨B2, m2, d2, rfl, hown, hb⟩
  clear c00 c01 c10 c11
  replace FR := Lib.hid (FR.out.step hb)
  clear hb
  have HI := Lib.hid hown
  clear hown
  go_wp2
  go_ret
  exact ⟨_, _, _, rfl, own_base HI.out (by have := FR.out.q0; omega), FR.out.out⟩
set_option maxRecDepth 100000 in
set_option maxHeartbeats 4000000 in
theorem qpCopied_any (A : Option Addr) (n c : Nat) (rs : List Rec3) (fr : Int) (w : World) (hx : Rs w A n c rs) (hn : n ≤ 16384) :
    Calls Try.prog 27 #[.agg #[.slice A n c, .int .i64 fr]] w (CopyPost w n rs fr) := by
  have RX := Lib.hid hx
  have CL := Lib.hid (fun (W : World) (h : Rs W A n c rs) => clone7_any A n c rs W h hn)
  clear hx
  obtain ⟨v1, hv1⟩ : ∃ W, w.alloc (.cells #[.slice A n c, .int .i64 fr] 24) = W := ⟨_, rfl⟩
  have fr1 : Fr w v1 w.heap.size [.cells #[.slice A n c, .int .i64 fr] 24] := hv1 ▸ Fr.first w _
  have z1 : v1.heap.size = w.heap.size + 1 := by rw [← hv1, Fr.size1]
  obtain ⟨v2, hv2⟩ : ∃ W, v1.alloc (.cells #[.slice none 0 0, .int .i64 0] 24) = W := ⟨_, rfl⟩
  have fr2 : Fr w v2 w.heap.size [.cells #[.slice A n c, .int .i64 fr] 24, .cells #[.slice none 0 0, .int .i64 0] 24] := hv2 ▸ fr1.more z1 _
  have z2 : v2.heap.size = w.heap.size + 2 := by rw [← hv2, Fr.size1, z1]
  generalize hq : w.heap.size = q at *
  have FR := Lib.hid fr2
  clear fr1 fr2
  have CL2 := Lib.hid (CL.out _ (FR.out.es RX.out))
  go_enter Try.func27, Try.ntmps27
  have c00 : v2.cell? ⟨q, 0, none⟩ = some (.slice A n c) := FR.out.cell 0 0 rfl rfl rfl
  have c01 : v2.cell? ⟨q, 1, none⟩ = some (.int .i64 fr) := FR.out.cell 0 1 rfl rfl rfl
  have c10 : v2.cell? ⟨q + 1, 0, none⟩ = some (.slice none 0 0) := FR.out.cell 1 0 rfl rfl rfl
  have c11 : v2.cell? ⟨q + 1, 1, none⟩ = some (.int .i64 0) := FR.out.cell 1 1 rfl rfl rfl
  go_wp2_with fail
  refine CL2.out.mono ?_
  rintro e w3 ⟨B, d, rfl, hown, hb⟩
  clear c00 c01 c10 c11
  have hsz := FR.out.sz
  simp only [List.length_cons, List.length_nil] at hsz
  replace FR := Lib.hid (FR.out.step hb)
  replace hown := own_base hown hsz
  have OW := Lib.hid hown
  clear hb hown
  have c00 : w3.cell? ⟨q, 0, none⟩ = some (.slice A n c) := FR.out.cell 0 0 rfl rfl rfl
  have f00 : w3.frozen? ⟨q, 0, none⟩ = false := FR.out.frozen 0 0 rfl rfl
  have c01 : w3.cell? ⟨q, 1, none⟩ = some (.int .i64 fr) := FR.out.cell 0 1 rfl rfl rfl
  have f01 : w3.frozen? ⟨q, 1, none⟩ = false := FR.out.frozen 0 1 rfl rfl
  have c10 : w3.cell? ⟨q + 1, 0, none⟩ = some (.slice none 0 0) := FR.out.cell 1 0 rfl rfl rfl
  have f10 : w3.frozen? ⟨q + 1, 0, none⟩ = false := FR.out.frozen 1 0 rfl rfl
  have c11 : w3.cell? ⟨q + 1, 1, none⟩ = some (.int .i64 0) := FR.out.cell 1 1 rfl rfl rfl
  have f11 : w3.frozen? ⟨q + 1, 1, none⟩ = false := FR.out.frozen 1 1 rfl rfl
  go_wp2
  have FZ : Fr w (((w3.setCell ⟨q, 0, none⟩ (.slice B n d)).setCell ⟨q + 1, 0, none⟩ (.slice B n d)).setCell ⟨q + 1, 1, none⟩ (.int .i64 fr)) q [.cells #[.slice B n d, .int .i64 fr] 24, .cells #[.slice B n d, .int .i64 fr] 24] := (((FR.out.set 0 0 rfl rfl (.slice B n d)).set 1 0 rfl rfl (.slice B n d)).set 1 1 rfl rfl (.int .i64 fr))
  refine bodyPost_ret (res_c Try.results27 (by rfl) (FZ.load 1 rfl rfl Try.underlying24 (by kernel_rfl))) rfl ?_
  exact ⟨B, d, rfl, own_base (own_apart (own_apart (own_apart (OW.out) (k := q) (o := 0) (u := .slice B n d) (by omega)) (k := q + 1) (o := 0) (u := .slice B n d) (by omega)) (k := q + 1) (o := 1) (u := .int .i64 fr) (by omega)) (by rw [hq]; omega), FZ.out⟩
end Go.Proofs.Ytombfempdfdeoaa
