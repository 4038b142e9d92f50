/- What the program's own Right and Free of layer 7 answer; for slices of up to 16384 records. -/
import Derived.Test.YtombfempdfdeoaaAreOA
namespace Go.Proofs.Ytombfempdfdeoaa
set_option linter.unusedVariables false
set_option linter.unusedSimpArgs false
open Go.RowKit
set_option maxRecDepth 100000 in
set_option maxHeartbeats 4000000 in
theorem arnRight_any (A : Option Addr) (n c : Nat) (rs : List Rec3) (fr : Int) (w : World) (hx : Rs w A n c rs) (hn : n ≤ 16384) :
    Calls Try.prog 39 #[.agg #[.slice A n c, .int .i64 fr]] w (YesPost w (rightS (rs, fr))) := by
  have hlen := hx.len
  have RX := Lib.hid hx
  have HL := Lib.hid hlen
  have WK := Lib.hid (fun (W : World) (h : Rs W A n c rs) => arnList_any A n c rs fr W h hn)
  have US := Lib.hid (fun (W : World) (r : Rec3) => arnUse_any r W)
  have LD := Lib.hid (fun (W : World) (k : Int) (h : Rs W A n c rs) => arnLead_any A n c rs fr k W h hn)
  obtain ⟨R, hR⟩ : ∃ R, rightS (rs, fr) = R := ⟨_, rfl⟩
  rw [hR]
  have HR := Lib.hid hR
  clear hx hR hlen
  obtain ⟨v1, hv1⟩ : ∃ W, w.alloc (.cells #[.slice A n c, .int .i64 fr] 24) = W := ⟨_, rfl⟩
  have fr1 : Fr w v1 w.heap.size [.cells #[.slice A n c, .int .i64 fr] 24] := hv1 ▸ Fr.first w _
  have z1 : v1.heap.size = w.heap.size + 1 := by rw [← hv1, Fr.size1]
  generalize hq : w.heap.size = q at *
  have FR := Lib.hid fr1
  clear fr1
  by_cases h64 : 64 < n
  · have c00 : v1.cell? ⟨q, 0, none⟩ = some (.slice A n c) := FR.out.cell 0 0 rfl rfl rfl
    have c01 : v1.cell? ⟨q, 1, none⟩ = some (.int .i64 fr) := FR.out.cell 0 1 rfl rfl rfl
    have b0 : decide ((64 : Int) < (n : Int)) = true := by simp; omega
    have HE := Lib.hid (show R = false by rw [← HR.out]; exact rightS_false fun h => by have h1 := h.1; have h2 := HL.out; simp only at h1; omega)
    clear h64
    go_enter Try.func39, Try.ntmps39
    go_wp2
    go_ret
    rw [HE.out]
    exact ⟨rfl, FR.out.out⟩
  · have b0 : decide ((64 : Int) < (n : Int)) = false := by simp; omega
    go_enter Try.func39, Try.ntmps39
    have c00 : v1.cell? ⟨q, 0, none⟩ = some (.slice A n c) := FR.out.cell 0 0 rfl rfl rfl
    have c01 : v1.cell? ⟨q, 1, none⟩ = some (.int .i64 fr) := FR.out.cell 0 1 rfl rfl rfl
    go_wp2_with fail
    refine (WK.out _ (FR.out.es RX.out)).mono ?_
    rintro e w2 ⟨B, m, d, ok, l, rfl, his, hcase, hb⟩
    clear c00 c01
    replace FR := Lib.hid (FR.out.step hb)
    clear hb
    rcases hcase with ⟨hw, hpl, rfl⟩ | ⟨hw, rfl, rfl⟩
    · have HW := Lib.hid hw
      have hml := hpl.len
      have hLm := his.len
      simp only [HL.out] at hml
      clear hw hpl his hv1 z1
      have c00 : w2.cell? ⟨q, 0, none⟩ = some (.slice A n c) := FR.out.cell 0 0 rfl rfl rfl
      have c01 : w2.cell? ⟨q, 1, none⟩ = some (.int .i64 fr) := FR.out.cell 0 1 rfl rfl rfl
      go_wp2
      clear c00 c01
      go_loopw [5, 24] (fun mv iv wr => ∃ (M i : Nat), mv = .int .i64 (M : Int) ∧ iv = .int .i64 (i : Int) ∧ i ≤ n ∧ M ≤ 64 + i ∧ Hid (M = l.length + (usedL rs i).length) ∧ Hid (Fr w wr q [.cells #[.slice A n c, .int .i64 fr] 24]) ∧ Hid (leadsOk rs i)) (fun _ iv _ => n - (intOf iv).toNat)
      case atStart => exact ⟨m, 0, rfl, rfl, by omega, by omega, by rw [hLm]; rfl, FR.out, fun i hi => by omega⟩
      case round =>
        clear FR hLm hml
        obtain ⟨M, i, rfl, rfl, hi, hM, HM, FR, LO⟩ := hrel
        by_cases hlt : i < n
        · have b1 : decide ((i : Int) < (n : Int)) = true := by simpa using hlt
          obtain ⟨b, off, rfl, hb0, k0, k1, k2⟩ := Rs.look (rs := rs) (FR.out.es RX.out) i hlt
          clear hb0
          have hi0 : (0 : Int) ≤ (i : Int) := by omega
          have hi1 : (i : Int) < (n : Int) := by omega
          have US2 := fun W => US.out W (recAt rs i)
          have LD2 := fun W => LD.out W (recAt rs i).2.2
          cases hu : useR (recAt rs i)
          · rw [hu] at US2
            replace US2 := Lib.hid US2
            have HM2 := Lib.hid (show M = l.length + (usedL rs (i + 1)).length by rw [usedL_step, hu, HM.out]; rfl)
            have LO2 := Lib.hid (leadsOk_skip LO.out (k := i) (fun h => by rw [hu] at h; cases h))
            clear LD2 hu
            have ger := FR.out.sz
            simp only [List.length_cons, List.length_nil] at ger
            obtain ⟨w3, hw3⟩ : ∃ W, wr.alloc (.cells #[.int .i64 (recAt rs i).1, .int .i64 (recAt rs i).2.1, .int .i64 (recAt rs i).2.2] 55) = W := ⟨_, rfl⟩
            have hb : Below wr.heap.size wr w3 := hw3 ▸ (Below.refl _ _).alloc (Nat.le_refl _) _
            have hv : w3.heap[wr.heap.size]? = some (.cells #[.int .i64 (recAt rs i).1, .int .i64 (recAt rs i).2.1, .int .i64 (recAt rs i).2.2] 55) := hw3 ▸ heap_alloc_new _ _
            replace FR := Lib.hid (FR.out.step hb)
            have Vr := Lib.hid hv
            generalize hsr : wr.heap.size = sr at *
            clear hb hv
            have c00 : w3.cell? ⟨q, 0, none⟩ = some (.slice (some ⟨b, off, none⟩) n c) := FR.out.cell 0 0 rfl rfl rfl
            have c01 : w3.cell? ⟨q, 1, none⟩ = some (.int .i64 fr) := FR.out.cell 0 1 rfl rfl rfl
            have cr0 : w3.cell? ⟨sr, 0, none⟩ = some (.int .i64 (recAt rs i).1) := (blk_cell Vr.out 0).trans rfl
            have cr1 : w3.cell? ⟨sr, 1, none⟩ = some (.int .i64 (recAt rs i).2.1) := (blk_cell Vr.out 1).trans rfl
            have cr2 : w3.cell? ⟨sr, 2, none⟩ = some (.int .i64 (recAt rs i).2.2) := (blk_cell Vr.out 2).trans rfl
            go_wp2_with fail
            refine (US2.out _).mono ?_
            rintro e w4 ⟨rfl, hb⟩
            clear c00 c01 cr0 cr1 cr2
            replace FR := Lib.hid (FR.out.step hb)
            replace Vr := Lib.hid (blk_below Vr.out hb (blk_lt Vr.out))
            clear hb
            clear k0 k1 k2
            go_wp2
            go_roundw
            case rel => exact ⟨M, i + 1, rfl, by go_num, by omega, by omega, HM2.out, FR.out, LO2.out⟩
            case measure => simp [intOf]; omega
          · rw [hu] at US2
            replace US2 := Lib.hid US2
            cases hl : leadOk rs (recAt rs i).2.2
            · rw [hl] at LD2
              replace LD2 := Lib.hid LD2
              have HE := Lib.hid (show R = false by rw [← HR.out]; exact right_lead_false (by have := HL.out; omega) hu hl)
              clear hu hl LO HM
              have ger := FR.out.sz
              simp only [List.length_cons, List.length_nil] at ger
              obtain ⟨w3, hw3⟩ : ∃ W, wr.alloc (.cells #[.int .i64 (recAt rs i).1, .int .i64 (recAt rs i).2.1, .int .i64 (recAt rs i).2.2] 55) = W := ⟨_, rfl⟩
              have hb : Below wr.heap.size wr w3 := hw3 ▸ (Below.refl _ _).alloc (Nat.le_refl _) _
              have hv : w3.heap[wr.heap.size]? = some (.cells #[.int .i64 (recAt rs i).1, .int .i64 (recAt rs i).2.1, .int .i64 (recAt rs i).2.2] 55) := hw3 ▸ heap_alloc_new _ _
              replace FR := Lib.hid (FR.out.step hb)
              have Vr := Lib.hid hv
              generalize hsr : wr.heap.size = sr at *
              clear hb hv
              have c00 : w3.cell? ⟨q, 0, none⟩ = some (.slice (some ⟨b, off, none⟩) n c) := FR.out.cell 0 0 rfl rfl rfl
              have c01 : w3.cell? ⟨q, 1, none⟩ = some (.int .i64 fr) := FR.out.cell 0 1 rfl rfl rfl
              have cr0 : w3.cell? ⟨sr, 0, none⟩ = some (.int .i64 (recAt rs i).1) := (blk_cell Vr.out 0).trans rfl
              have cr1 : w3.cell? ⟨sr, 1, none⟩ = some (.int .i64 (recAt rs i).2.1) := (blk_cell Vr.out 1).trans rfl
              have cr2 : w3.cell? ⟨sr, 2, none⟩ = some (.int .i64 (recAt rs i).2.2) := (blk_cell Vr.out 2).trans rfl
              go_wp2_with fail
              refine (US2.out _).mono ?_
              rintro e w4 ⟨rfl, hb⟩
              clear c00 c01 cr0 cr1 cr2
              replace FR := Lib.hid (FR.out.step hb)
              replace Vr := Lib.hid (blk_below Vr.out hb (blk_lt Vr.out))
              clear hb
              have LD3 := Lib.hid (LD2.out _ (FR.out.es RX.out))
              have c00 : w4.cell? ⟨q, 0, none⟩ = some (.slice (some ⟨b, off, none⟩) n c) := FR.out.cell 0 0 rfl rfl rfl
              have c01 : w4.cell? ⟨q, 1, none⟩ = some (.int .i64 fr) := FR.out.cell 0 1 rfl rfl rfl
              have cr0 : w4.cell? ⟨sr, 0, none⟩ = some (.int .i64 (recAt rs i).1) := (blk_cell Vr.out 0).trans rfl
              have cr1 : w4.cell? ⟨sr, 1, none⟩ = some (.int .i64 (recAt rs i).2.1) := (blk_cell Vr.out 1).trans rfl
              have cr2 : w4.cell? ⟨sr, 2, none⟩ = some (.int .i64 (recAt rs i).2.2) := (blk_cell Vr.out 2).trans rfl
              go_wp2_with fail
              refine (LD3.out).mono ?_
              rintro e w5 ⟨rfl, hb⟩
              clear c00 c01 cr0 cr1 cr2
              replace FR := Lib.hid (FR.out.step hb)
              replace Vr := Lib.hid (blk_below Vr.out hb (blk_lt Vr.out))
              clear hb
              clear k0 k1 k2
              go_wp2
              go_ret
              rw [HE.out]
              exact ⟨rfl, FR.out.out⟩
            · rw [hl] at LD2
              replace LD2 := Lib.hid LD2
              have HM2 := Lib.hid (show M + 1 = l.length + (usedL rs (i + 1)).length by rw [usedL_step, hu, HM.out]; simp; omega)
              have LO2 := Lib.hid (leadsOk_skip LO.out (k := i) (fun _ => hl))
              clear hu hl LO HM
              have ger := FR.out.sz
              simp only [List.length_cons, List.length_nil] at ger
              obtain ⟨w3, hw3⟩ : ∃ W, wr.alloc (.cells #[.int .i64 (recAt rs i).1, .int .i64 (recAt rs i).2.1, .int .i64 (recAt rs i).2.2] 55) = W := ⟨_, rfl⟩
              have hb : Below wr.heap.size wr w3 := hw3 ▸ (Below.refl _ _).alloc (Nat.le_refl _) _
              have hv : w3.heap[wr.heap.size]? = some (.cells #[.int .i64 (recAt rs i).1, .int .i64 (recAt rs i).2.1, .int .i64 (recAt rs i).2.2] 55) := hw3 ▸ heap_alloc_new _ _
              replace FR := Lib.hid (FR.out.step hb)
              have Vr := Lib.hid hv
              generalize hsr : wr.heap.size = sr at *
              clear hb hv
              have c00 : w3.cell? ⟨q, 0, none⟩ = some (.slice (some ⟨b, off, none⟩) n c) := FR.out.cell 0 0 rfl rfl rfl
              have c01 : w3.cell? ⟨q, 1, none⟩ = some (.int .i64 fr) := FR.out.cell 0 1 rfl rfl rfl
              have cr0 : w3.cell? ⟨sr, 0, none⟩ = some (.int .i64 (recAt rs i).1) := (blk_cell Vr.out 0).trans rfl
              have cr1 : w3.cell? ⟨sr, 1, none⟩ = some (.int .i64 (recAt rs i).2.1) := (blk_cell Vr.out 1).trans rfl
              have cr2 : w3.cell? ⟨sr, 2, none⟩ = some (.int .i64 (recAt rs i).2.2) := (blk_cell Vr.out 2).trans rfl
              go_wp2_with fail
              refine (US2.out _).mono ?_
              rintro e w4 ⟨rfl, hb⟩
              clear c00 c01 cr0 cr1 cr2
              replace FR := Lib.hid (FR.out.step hb)
              replace Vr := Lib.hid (blk_below Vr.out hb (blk_lt Vr.out))
              clear hb
              have LD3 := Lib.hid (LD2.out _ (FR.out.es RX.out))
              have c00 : w4.cell? ⟨q, 0, none⟩ = some (.slice (some ⟨b, off, none⟩) n c) := FR.out.cell 0 0 rfl rfl rfl
              have c01 : w4.cell? ⟨q, 1, none⟩ = some (.int .i64 fr) := FR.out.cell 0 1 rfl rfl rfl
              have cr0 : w4.cell? ⟨sr, 0, none⟩ = some (.int .i64 (recAt rs i).1) := (blk_cell Vr.out 0).trans rfl
              have cr1 : w4.cell? ⟨sr, 1, none⟩ = some (.int .i64 (recAt rs i).2.1) := (blk_cell Vr.out 1).trans rfl
              have cr2 : w4.cell? ⟨sr, 2, none⟩ = some (.int .i64 (recAt rs i).2.2) := (blk_cell Vr.out 2).trans rfl
              go_wp2_with fail
              refine (LD3.out).mono ?_
              rintro e w5 ⟨rfl, hb⟩
              clear c00 c01 cr0 cr1 cr2
              replace FR := Lib.hid (FR.out.step hb)
              replace Vr := Lib.hid (blk_below Vr.out hb (blk_lt Vr.out))
              clear hb
              clear k0 k1 k2
              go_wp2
              go_roundw
              case rel => exact ⟨M + 1, i + 1, by go_num, by go_num, by omega, by omega, HM2.out, FR.out, LO2.out⟩
              case measure => simp [intOf]; omega
        · have en : n = i := by omega
          subst en
          have b1 : decide ((n : Int) < (n : Int)) = false := by simp
          have HE := Lib.hid (show ((M : Int) == (n : Int)) = R by rw [← HR.out, right_count HW.out (by have := HL.out; omega) (by rw [HL.out]; exact LO.out), HL.out, ← HM.out]; by_cases h : M = n <;> simp [h]; omega)
          clear LO HM
          have c00 : wr.cell? ⟨q, 0, none⟩ = some (.slice A n c) := FR.out.cell 0 0 rfl rfl rfl
          have c01 : wr.cell? ⟨q, 1, none⟩ = some (.int .i64 fr) := FR.out.cell 0 1 rfl rfl rfl
          go_wp2
          go_ret
          rw [HE.out]
          exact ⟨rfl, FR.out.out⟩
    · have HE := Lib.hid (show R = false by rw [← HR.out]; exact rightS_false fun hp => by obtain ⟨_, l, hl, _⟩ := hp; rw [hw] at hl; cases hl)
      clear hw his hv1 z1
      go_wp2
      go_ret
      rw [HE.out]
      exact ⟨rfl, FR.out.out⟩
end Go.Proofs.Ytombfempdfdeoaa
