/- What Put (the program's, and the document's own) answers; for slices of up to 4096 bytes. -/
import Derived.Test.YtipjbgmikbbkoaaOctD
import Derived.LoopTactic
namespace Go.Proofs.Ytipjbgmikbbkoaa
set_option linter.unusedVariables false
set_option linter.unusedSimpArgs false
open Go.RowKit

theorem put_post {bs : List Int} {x m : Int} {p : List Int × Int} (h : putS bs x m = p) {w w' : World} {A : Option Addr} {n c : Nat} (hn : n = p.1.length)
    (hb : Bs w' A n c p.1) (hw : Below w.heap.size w w') :
    BytesPost w (putS bs x m).1 [.int .i64 (putS bs x m).2] (.returned (.tuple #[.slice A n c, .int .i64 p.2])) w' := by
  subst h
  exact ⟨A, n, c, rfl, hb, hw⟩

theorem refPut_any (A : Option Addr) (n c : Nat) (bs : List Int) (x m : Int) (w : World) (hb : Bs w A n c bs) (hn : n ≤ 16384) (x0 : 0 ≤ x) (x1 : x ≤ 18446744073709551615) :
    Calls Try.prog 24 #[.slice A n c, .int .u64 x, .int .i64 m] w (BytesPost w (putS bs x m).1 [.int .i64 (putS bs x m).2]) := by
  have hlen := hb.len
  by_cases h1 : m < 1
  · have R := put_post (w := w) (w' := w) (A := none) (n := 0) (c := 0) (show putS bs x m = ([], 1) by simp [putS, h1]) rfl (Bs.nil _ _ _) (Below.refl _ _)
    have HL := Lib.hid hlen; clear hlen hb
    go_enter Try.func24, Try.ntmps24
    go_wp2
    go_ret2
    exact R
  · by_cases h2 : 8 < m
    · have R := put_post (w := w) (w' := w) (A := none) (n := 0) (c := 0) (show putS bs x m = ([], 1) by simp [putS, h2]) rfl (Bs.nil _ _ _) (Below.refl _ _)
      have hd : decide (8 < m) = true := by simpa using h2
      have HL := Lib.hid hlen; clear hlen hb
      go_enter Try.func24, Try.ntmps24
      go_wp2
      go_ret2
      exact R
    · have hd : decide (8 < m) = false := by simpa using h2
      cases hf : fitsB x m with
      | false =>
        have R := put_post (w := w) (w' := w) (A := none) (n := 0) (c := 0) (show putS bs x m = ([], 4) by rw [putS, if_neg (by omega), if_pos hf]) rfl (Bs.nil _ _ _) (Below.refl _ _)
        have HL := Lib.hid hlen; have HF := Lib.hid hf; clear hlen hb hf
        go_enter Try.func24, Try.ntmps24
        go_wp2_with (go_at_call 39; refine (refFits_any _ _ _ x0 x1).mono ?_; rw [HF.out]; rintro e w' ⟨rfl, rfl⟩)
        go_ret2
        exact R
      | true =>
        obtain ⟨q, rfl⟩ : ∃ q : Nat, m = q := ⟨m.toNat, by omega⟩
        have R := Lib.hid (show putS bs x q = (bs ++ digs x q, 0) by rw [putS, if_neg (by omega), if_neg (by simp [hf])]; rfl)
        obtain ⟨i5, hi5, hz0, hz1, hz2⟩ := info_parts infoByte
        obtain ⟨A3, c3, w1, hap, hown1, hb3, hbel⟩ := app_lit0 (P := Try.prog) w 22 22 5 i5 _ Try.underlying22 hi5 hz0 hz1 hz2 rfl A n c _ hb (by omega)
        have HB := Lib.hid hb.byte
        have HL := Lib.hid hlen; have HF := Lib.hid hf; clear hlen hb hf
        have HO := Lib.hid hown1; have HBel := Lib.hid hbel; have HI := Lib.hid hi5; have HZ0 := Lib.hid hz0; have HZ1 := Lib.hid hz1; have HZ2 := Lib.hid hz2
        clear hown1 hbel hb3 hi5 hz0 hz1 hz2
        go_enter Try.func24, Try.ntmps24
        go_wp2_with (first | (go_at_call 39; refine (refFits_any _ _ _ x0 x1).mono ?_; rw [HF.out]; rintro e w' ⟨rfl, rfl⟩) | (at_builtin; refine wpl_app_run rfl rfl rfl rfl hap ?_))
        clear hap
        go_loopw [1, 8, 9] (fun y v i wr => ∃ (j : Nat) (z : Int) (L : List Int), j ≤ q ∧ 0 ≤ z ∧ z ≤ 18446744073709551615 ∧ i = .int .i64 j ∧ y = .int .u64 z ∧ L.length = j ∧ digs x q = L ++ digs z (q - j) ∧
            wr.ownsRow w.heap.size 5 1 v (n + j) ((bs ++ L).map (Value.int .u8)) ∧ Below w.heap.size w wr) (fun _ _ i _ => q - (intOf i).toNat)
        case atStart => exact ⟨0, x, [], by omega, x0, x1, rfl, rfl, rfl, rfl, by simpa using HO.out, HBel.out⟩
        case round =>
          obtain ⟨j, z, L, hj, z0, z1, rfl, rfl, hL, hd2, hown, hbl⟩ := hrel
          have HLj := Lib.hid hL; have HD := Lib.hid hd2
          have hbytes : ∀ b ∈ bs ++ L, 0 ≤ b ∧ b ≤ 255 := by
            intro b hb
            rcases List.mem_append.1 hb with h | h
            · exact HB.out b h
            · exact digs_byte q x b (by rw [hd2]; exact List.mem_append_left _ h)
          by_cases hlt : j < q
          · obtain ⟨r, hr⟩ : ∃ r, q - j = r + 1 := ⟨q - j - 1, by omega⟩
            rw [hr] at hd2
            obtain ⟨A4, c4, w4, hap4, hown4, hbel4⟩ := app_one (P := Try.prog) (ty := 22) Try.underlying22 HI.out HZ0.out HZ1.out HZ2.out rfl hown hbytes (z % 256) ⟨by omega, by omega⟩ (by omega) hbl hbl.size
            have HO4 := Lib.hid hown4; have HBl4 := Lib.hid hbel4
            have HD4 := Lib.hid (show digs x q = (L ++ [z % 256]) ++ digs (z / 256) r by rw [hd2]; simp [digs])
            have HR := Lib.hid hr
            clear hL hd2 hown hbl hbytes HD hown4 hbel4 hr
            go_wp2_with (at_builtin; refine wpl_app_run rfl rfl rfl rfl hap4 ?_)
            clear hap4
            go_roundw
            case rel =>
              refine ⟨j + 1, z / 256, L ++ [z % 256], by omega, by omega, by omega, by go_num, rfl, by rw [List.length_append, HLj.out]; rfl, ?_, ?_, HBl4.out⟩
              · have e : q - (j + 1) = r := by have := HR.out; omega
                rw [e]; exact HD4.out
              · have := HO4.out
                rw [List.append_assoc] at this
                exact this
            case measure => simp [intOf]; omega
          · obtain rfl : j = q := by omega
            obtain ⟨A4, c4, rfl, hb4⟩ := Bs.of_own hown hbytes
            have hLx : L = digs x j := by rw [hd2]; simp [digs]
            rw [hLx] at hb4
            have HB4 := Lib.hid hb4; have HBl := Lib.hid hbl
            clear hL hd2 hown hbl hbytes HD hb4 hLx
            go_wp2
            go_ret2
            exact put_post R.out (by have := HB4.out.len; simpa using this.symm) HB4.out HBl.out

theorem make_cap (n q : Nat) (hn : n + q ≤ 65536) (i5 : TypeInfo) (hi5 : Try.prog.info? 5 = some i5) (hz0 : i5.zero = some (.int .u8 0)) (hz1 : i5.size = 1) (hz2 : i5.bytes = 1) (W : World) :
    (Instr.makeSlice 22 (.int .i64 0) (.int .i64 ((n : Int) + (q : Int)))).run Try.prog W = .ok (.slice (some ⟨W.heap.size, 0, none⟩) 0 (n + q)) (W.alloc (.cells (madeCells #[.int .u8 0] (n + q)) 5)) := by
  have h := run_make (P := Try.prog) W 22 5 i5 _ Try.underlying22 hi5 hz0 .i64 .i64 0 ((n : Int) + (q : Int)) (by omega) (by omega) (by rw [hz2]; omega) (by omega)
  rw [hz1] at h
  have e : ((n : Int) + (q : Int)).toNat = n + q := by omega
  rw [e, Nat.mul_one] at h
  exact h

theorem put_any (A : Option Addr) (n c : Nat) (bs : List Int) (x m : Int) (w : World) (hb : Bs w A n c bs) (hn : n ≤ 16384) (x0 : 0 ≤ x) (x1 : x ≤ 18446744073709551615) :
    Calls Try.prog 36 #[.slice A n c, .int .u64 x, .int .i64 m] w (BytesPost w (putS bs x m).1 [.int .i64 (putS bs x m).2]) := by
  have hlen := hb.len
  by_cases h1 : m < 1 ∨ 8 < m
  · have R := put_post (w := w) (w' := w) (A := none) (n := 0) (c := 0) (show putS bs x m = ([], 1) by simp [putS, h1]) rfl (Bs.nil _ _ _) (Below.refl _ _)
    have HL := Lib.hid hlen; clear hlen hb
    go_enter Try.func36, Try.ntmps36
    go_wp2_with (go_at_call 47; refine (isWidth_no _ _ h1).mono ?_; rintro e w' ⟨rfl, rfl⟩)
    go_ret2
    exact R
  · have m1 : 1 ≤ m := by omega
    have m8 : m ≤ 8 := by omega
    cases hf : fitsB x m with
    | false =>
      have R := put_post (w := w) (w' := w) (A := none) (n := 0) (c := 0) (show putS bs x m = ([], 4) by rw [putS, if_neg (by omega), if_pos hf]) rfl (Bs.nil _ _ _) (Below.refl _ _)
      have HL := Lib.hid hlen; have HF := Lib.hid hf; clear hlen hb hf h1
      go_enter Try.func36, Try.ntmps36
      go_wp2_with (first | (go_at_call 47; refine (isWidth_yes _ _ m1 m8).mono ?_; rintro e w' ⟨rfl, rfl⟩) | (go_at_call 48; refine (fits_any _ _ _ x0 x1).mono ?_; rw [HF.out]; rintro e w' ⟨rfl, rfl⟩))
      go_ret2
      exact R
    | true =>
      obtain ⟨q, rfl⟩ : ∃ q : Nat, m = q := ⟨m.toNat, by omega⟩
      have R := Lib.hid (show putS bs x q = (bs ++ digs x q, 0) by rw [putS, if_neg (by omega), if_neg (by simp [hf])]; rfl)
      obtain ⟨i5, hi5, hz0, hz1, hz2⟩ := info_parts infoByte
      have hmk := make_cap n q (by omega) i5 hi5 hz0 hz1 hz2
      have hown0 : (w.alloc (.cells (madeCells #[.int .u8 0] (n + q)) 5)).ownsRow w.heap.size 5 1 (.slice (some ⟨w.heap.size, 0, none⟩) 0 (n + q)) 0 (([] : List Int).map (Value.int .u8)) :=
        World.ownsRow_made w _ (n + q) (Nat.le_refl _) (by unfold maxLen; omega) (by rw [size_madeCells]; simp)
      obtain ⟨v1, w1, hap, hown1, hgr, _⟩ := app_own (P := Try.prog) (w.alloc (.cells (madeCells #[.int .u8 0] (n + q)) 5)) w.heap.size 22 22 5 i5 _ Try.underlying22 hi5 hz0 hz1 hz2 rfl _ 0 [] hown0 A n c bs (hb.alloc _) (by omega) (by simp)
      rw [Nat.zero_add, List.nil_append] at hown1
      have hbel : Below w.heap.size w w1 := ((Below.refl _ _).alloc (Nat.le_refl _) _).grown hgr (by simp) (by simp [Value.ownBlock])
      have HB := Lib.hid hb.byte
      have HL := Lib.hid hlen; have HF := Lib.hid hf; clear hlen hb hf h1
      have HO := Lib.hid hown1; have HBel := Lib.hid hbel; have HI := Lib.hid hi5; have HZ0 := Lib.hid hz0; have HZ1 := Lib.hid hz1; have HZ2 := Lib.hid hz2
      clear hown1 hbel hi5 hz0 hz1 hz2 hown0 hgr
      go_enter Try.func36, Try.ntmps36
      go_wp2_with (first | (go_at_call 47; refine (isWidth_yes _ _ m1 m8).mono ?_; rintro e w' ⟨rfl, rfl⟩) | (go_at_call 48; refine (fits_any _ _ _ x0 x1).mono ?_; rw [HF.out]; rintro e w' ⟨rfl, rfl⟩) | (at_builtin; refine wpl_app_run rfl rfl rfl rfl hap ?_))
      clear hap hmk
      go_loopw [1, 8, 25] (fun y v i wr => ∃ (j : Nat) (z : Int) (L : List Int), j ≤ q ∧ 0 ≤ z ∧ z ≤ 18446744073709551615 ∧ i = .int .i64 j ∧ y = .int .u64 z ∧ L.length = j ∧ digs x q = L ++ digs z (q - j) ∧
          wr.ownsRow w.heap.size 5 1 v (n + j) ((bs ++ L).map (Value.int .u8)) ∧ Below w.heap.size w wr) (fun _ _ i _ => q - (intOf i).toNat)
      case atStart => exact ⟨0, x, [], by omega, x0, x1, rfl, rfl, rfl, rfl, by simpa using HO.out, HBel.out⟩
      case round =>
        obtain ⟨j, z, L, hj, z0, z1, rfl, rfl, hL, hd2, hown, hbl⟩ := hrel
        have HLj := Lib.hid hL; have HD := Lib.hid hd2
        have hbytes : ∀ b ∈ bs ++ L, 0 ≤ b ∧ b ≤ 255 := by
          intro b hb
          rcases List.mem_append.1 hb with h | h
          · exact HB.out b h
          · exact digs_byte q x b (by rw [hd2]; exact List.mem_append_left _ h)
        by_cases hlt : j < q
        · obtain ⟨r, hr⟩ : ∃ r, q - j = r + 1 := ⟨q - j - 1, by omega⟩
          rw [hr] at hd2
          obtain ⟨A4, c4, w4, hap4, hown4, hbel4⟩ := app_one (P := Try.prog) (ty := 22) Try.underlying22 HI.out HZ0.out HZ1.out HZ2.out rfl hown hbytes (z % 256) ⟨by omega, by omega⟩ (by omega) hbl hbl.size
          have HO4 := Lib.hid hown4; have HBl4 := Lib.hid hbel4
          have HD4 := Lib.hid (show digs x q = (L ++ [z % 256]) ++ digs (z / 256) r by rw [hd2]; simp [digs])
          have HR := Lib.hid hr
          clear hL hd2 hown hbl hbytes HD hown4 hbel4 hr
          go_wp2_with (at_builtin; refine wpl_app_run rfl rfl rfl rfl hap4 ?_)
          clear hap4
          go_roundw
          case rel =>
            refine ⟨j + 1, z / 256, L ++ [z % 256], by omega, by omega, by omega, by go_num, rfl, by rw [List.length_append, HLj.out]; rfl, ?_, ?_, HBl4.out⟩
            · have e : q - (j + 1) = r := by have := HR.out; omega
              rw [e]; exact HD4.out
            · have := HO4.out
              rw [List.append_assoc] at this
              exact this
          case measure => simp [intOf]; omega
        · obtain rfl : j = q := by omega
          obtain ⟨A4, c4, rfl, hb4⟩ := Bs.of_own hown hbytes
          have hLx : L = digs x j := by rw [hd2]; simp [digs]
          rw [hLx] at hb4
          have HB4 := Lib.hid hb4; have HBl := Lib.hid hbl
          clear hL hd2 hown hbl hbytes HD hb4 hLx
          go_wp2
          go_ret2
          exact put_post R.out (by have := HB4.out.len; simpa using this.symm) HB4.out HBl.out
end Go.Proofs.Ytipjbgmikbbkoaa
