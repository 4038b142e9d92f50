/- What Size, Bytes, Append, Zig, Zag and AppendInt (the program's, and the document's own) answer; for slices of up to 16384 bytes. -/
import Derived.Test.YtkoodhnfphmbnaaVarA
import Derived.Test.YtkoodhnfphmbnaaLen64
import Derived.Test.YtkoodhnfphmbnaaK
import Derived.LoopTactic
import Derived.Laws.BitsAllLaws
namespace Go.Proofs.Ytkoodhnfphmbnaa
set_option linter.unusedVariables false
set_option linter.unusedSimpArgs false
open Go.RowKit

theorem bit6 (x : Nat) (h : x < 18446744073709551616) : max 1 ((Lib.bitLen x + 7 - 1 : Int) / 7) = (vs x : Int) := by
  have := vs_bit x h
  omega
theorem varSize_any (x : Int) (w : World) (h0 : 0 ≤ x) (h1 : x ≤ 18446744073709551615) :
    Calls Try.prog 62 #[.int .u64 x] w fun e w' => e = .returned (.int .i64 (vs x.toNat)) ∧ w = w' := by
  have hb := bit6 x.toNat (by omega)
  have hl : Lib.bitLen x.toNat ≤ 64 := Lib.bitLen_le _ 64 (by omega) (by omega)
  have H := Lib.hid hb; clear hb
  go_enter Try.func62, Try.ntmps62
  go_wp2_with (go_at_call 63; refine (len64_any _ _ h0 h1).mono ?_; rintro e w' ⟨rfl, rfl⟩)
  go_ret
  exact ⟨by simp [H.out], rfl⟩

theorem or128 : ∀ n : Fin 256, (n.val ||| 128) = n.val % 128 + 128 := by decide +kernel
theorem or_more (x : Int) (h0 : 0 ≤ x) : bits .or .u8 (x % 256) 128 = x % 128 + 128 := by
  rw [u8_or _ _ (by omega) (by omega) (by omega) (by omega)]
  have h := or128 ⟨(x % 256).toNat, by omega⟩
  simp only at h
  have e : (128 : Int).toNat = 128 := rfl
  rw [e, h]; omega

theorem varAppend_any (A : Option Addr) (n c : Nat) (bs : List Int) (x : Int) (w : World) (hb : Bs w A n c bs) (hn : n ≤ 16384) (x0 : 0 ≤ x) (x1 : x ≤ 18446744073709551615) :
    Calls Try.prog 58 #[.slice A n c, .int .u64 x] w (BytesOnly w (bs ++ vb x.toNat)) := by
  have hlen := hb.len
  obtain ⟨q, hq⟩ : ∃ q, vs x.toNat = q := ⟨_, rfl⟩
  have hq10 : q ≤ 10 := by have := vs_le10 x.toNat (by omega); omega
  obtain ⟨i5, hi5, hz0, hz1, hz2⟩ := info_parts infoByte
  have hmk := fun W => run_make (P := Try.prog) W 28 5 i5 _ Try.underlying28 hi5 hz0 .i64 .i64 0 ((n : Int) + (q : Int)) (by omega) (by omega) (by rw [hz2]; omega) (by omega)
  have e : ((n : Int) + (q : Int)).toNat = n + q := by omega
  simp only [hz1, e, Nat.mul_one] at hmk
  clear e
  have hown0 : (w.alloc (.cells (madeCells #[.int .u8 0] (n + q)) 5)).ownsRow w.heap.size 5 1 (.slice (some ⟨w.heap.size, 0, none⟩) 0 (n + q)) 0 (([] : List Int).map (Value.int .u8)) :=
    World.ownsRow_made w _ (n + q) (Nat.le_refl _) (by unfold maxLen; omega) (by rw [size_madeCells]; simp)
  obtain ⟨v1, w1, hap, hown1, hgr, _⟩ := app_own (P := Try.prog) (w.alloc (.cells (madeCells #[.int .u8 0] (n + q)) 5)) w.heap.size 28 28 5 i5 _ Try.underlying28 hi5 hz0 hz1 hz2 rfl _ 0 [] hown0 A n c bs (hb.alloc _) (by omega) (by simp)
  rw [Nat.zero_add, List.nil_append] at hown1
  have hbel : Below w.heap.size w w1 := ((Below.refl _ _).alloc (Nat.le_refl _) _).grown hgr (by simp) (by simp [Value.ownBlock])
  have HB := Lib.hid hb.byte
  have HL := Lib.hid hlen; have HQ := Lib.hid hq; clear hlen hb hq
  have HO := Lib.hid hown1; have HBel := Lib.hid hbel; have HI := Lib.hid hi5; have HZ0 := Lib.hid hz0; have HZ1 := Lib.hid hz1; have HZ2 := Lib.hid hz2
  clear hown1 hbel hi5 hz0 hz1 hz2 hown0 hgr
  go_enter Try.func58, Try.ntmps58
  go_wp2_with (first | (go_at_call 62; refine (varSize_any _ _ x0 x1).mono ?_; rw [HQ.out]; rintro e w' ⟨rfl, rfl⟩) | (at_builtin; refine wpl_app_run rfl rfl rfl rfl hap ?_))
  clear hap hmk
  go_loopw [1, 5] (fun y v wr => ∃ (z : Int) (L : List Int), y = .int .u64 z ∧ 0 ≤ z ∧ z ≤ 18446744073709551615 ∧ vb x.toNat = L ++ vb z.toNat ∧ L.length + vs z.toNat = q ∧
      wr.ownsRow w.heap.size 5 1 v (n + L.length) ((bs ++ L).map (Value.int .u8)) ∧ Below w.heap.size w wr) (fun y _ _ => (intOf y).toNat)
  case atStart => exact ⟨x, [], rfl, x0, x1, rfl, by rw [HQ.out]; simp, by simpa using HO.out, HBel.out⟩
  case round =>
    obtain ⟨z, L, rfl, z0, z1, hv, hs, hown, hbl⟩ := hrel
    have hbytes : ∀ b ∈ bs ++ L, 0 ≤ b ∧ b ≤ 255 := by
      intro b hb
      rcases List.mem_append.1 hb with h | h
      · exact HB.out b h
      · exact vb_byte x.toNat b (by rw [hv]; exact List.mem_append_left _ h)
    have hvk := vs_pos z.toNat
    by_cases hlt : 128 ≤ z
    · have hz : (z / 128).toNat = z.toNat / 128 := by omega
      rw [vb_big (show ¬ z.toNat < 128 by omega), ← hz] at hv
      rw [vs_big (show ¬ z.toNat < 128 by omega), ← hz] at hs
      have hor := or_more z z0
      obtain ⟨A4, c4, w4, hap4, hown4, hbel4⟩ := app_one (P := Try.prog) (ty := 28) Try.underlying28 HI.out HZ0.out HZ1.out HZ2.out rfl hown hbytes (bits .or .u8 (z % 256) 128) ⟨by omega, by omega⟩ (by omega) hbl hbl.size
      have HO4 := Lib.hid hown4; have HB4 := Lib.hid hbel4
      have HV := Lib.hid (show vb x.toNat = (L ++ [bits .or .u8 (z % 256) 128]) ++ vb (z / 128).toNat by
        rw [hv, hor]; simp; omega)
      have HS := Lib.hid (show (L ++ [bits .or .u8 (z % 256) 128]).length + vs (z / 128).toNat = q by simp; omega)
      clear hv hs hown hbl hbytes hz hor hown4 hbel4 hvk
      go_wp2_with (at_builtin; refine wpl_app_run rfl rfl rfl rfl hap4 ?_)
      clear hap4
      go_roundw
      case rel =>
        refine ⟨z / 128, _, rfl, by omega, by omega, HV.out, HS.out, ?_, HB4.out⟩
        have e : n + (L ++ [bits .or .u8 (z % 256) 128]).length = n + L.length + 1 := by simp; omega
        rw [e, ← List.append_assoc]
        exact HO4.out
      case measure => simp [intOf]; omega
    · rw [vb_small (show z.toNat < 128 by omega)] at hv
      rw [vs_small (show z.toNat < 128 by omega)] at hs
      obtain ⟨A4, c4, w4, hap4, hown4, hbel4⟩ := app_one (P := Try.prog) (ty := 28) Try.underlying28 HI.out HZ0.out HZ1.out HZ2.out rfl hown hbytes z ⟨by omega, by omega⟩ (by omega) hbl hbl.size
      have hv4 : vb x.toNat = L ++ [z] := by rw [hv]; congr 2; omega
      rw [List.append_assoc, ← hv4] at hown4
      obtain ⟨A5, c5, he, hb5⟩ := Bs.of_own hown4 (fun b hb => by
        rcases List.mem_append.1 hb with h | h
        · exact HB.out b h
        · exact vb_byte x.toNat b h)
      cases he
      have HR := Lib.hid (BytesOnly.mk (w := w) rfl hb5 hbel4)
      clear hv hs hown hbl hbytes hown4 hbel4 hvk hv4 hb5
      go_wp2_with (at_builtin; refine wpl_app_run rfl rfl rfl rfl hap4 ?_)
      go_ret
      exact HR.out

theorem refBytes_any (x : Int) (w : World) (x0 : 0 ≤ x) (x1 : x ≤ 18446744073709551615) :
    Calls Try.prog 22 #[.int .u64 x] w (BytesOnly w (vb x.toNat)) := by
  obtain ⟨i5, hi5, hz0, hz1, hz2⟩ := info_parts infoByte
  have hx10 := vs_le10 x.toNat (by omega)
  have HX := Lib.hid hx10; clear hx10
  have HI := Lib.hid hi5; have HZ0 := Lib.hid hz0; have HZ1 := Lib.hid hz1; have HZ2 := Lib.hid hz2
  clear hi5 hz0 hz1 hz2
  go_enter Try.func22, Try.ntmps22
  go_wp2
  go_loopw [0, 3] (fun y v wr => ∃ (z : Int) (L : List Int), y = .int .u64 z ∧ 0 ≤ z ∧ z ≤ 18446744073709551615 ∧ vb x.toNat = L ++ vb z.toNat ∧ L.length + vs z.toNat = vs x.toNat ∧
      wr.ownsRow w.heap.size 5 1 v L.length (L.map (Value.int .u8)) ∧ Below w.heap.size w wr) (fun y _ _ => (intOf y).toNat)
  case atStart => exact ⟨x, [], rfl, x0, x1, rfl, by simp, World.ownsRow_nil _ _ _ _, Below.refl _ _⟩
  case round =>
    obtain ⟨z, L, rfl, z0, z1, hv, hs, hown, hbl⟩ := hrel
    have hbytes : ∀ b ∈ L, 0 ≤ b ∧ b ≤ 255 := fun b hb => vb_byte x.toNat b (by rw [hv]; exact List.mem_append_left _ hb)
    have hvk := vs_pos z.toNat
    have hx10 := HX.out
    by_cases hlt : 127 < z
    · have hz : (z / 128).toNat = z.toNat / 128 := by omega
      rw [vb_big (show ¬ z.toNat < 128 by omega), ← hz] at hv
      rw [vs_big (show ¬ z.toNat < 128 by omega), ← hz] at hs
      obtain ⟨A4, c4, w4, hap4, hown4, hbel4⟩ := app_one (P := Try.prog) (ty := 28) Try.underlying28 HI.out HZ0.out HZ1.out HZ2.out rfl hown hbytes (z % 128 + 128) ⟨by omega, by omega⟩ (by omega) hbl hbl.size
      have HO4 := Lib.hid hown4; have HB4 := Lib.hid hbel4
      have HV := Lib.hid (show vb x.toNat = (L ++ [z % 128 + 128]) ++ vb (z / 128).toNat by
        rw [hv]; simp; omega)
      have HS := Lib.hid (show (L ++ [z % 128 + 128]).length + vs (z / 128).toNat = vs x.toNat by simp; omega)
      clear hv hs hown hbl hbytes hz hown4 hbel4 hvk hx10
      go_wp2_with (at_builtin; refine wpl_app_run rfl rfl rfl rfl hap4 ?_)
      clear hap4
      go_roundw
      case rel =>
        refine ⟨z / 128, _, rfl, by omega, by omega, HV.out, HS.out, ?_, HB4.out⟩
        have e : (L ++ [z % 128 + 128]).length = L.length + 1 := by simp
        rw [e]
        exact HO4.out
      case measure => simp [intOf]; omega
    · rw [vb_small (show z.toNat < 128 by omega)] at hv
      rw [vs_small (show z.toNat < 128 by omega)] at hs
      obtain ⟨A4, c4, w4, hap4, hown4, hbel4⟩ := app_one (P := Try.prog) (ty := 28) Try.underlying28 HI.out HZ0.out HZ1.out HZ2.out rfl hown hbytes z ⟨by omega, by omega⟩ (by omega) hbl hbl.size
      have hv4 : vb x.toNat = L ++ [z] := by rw [hv]; congr 2; omega
      rw [← hv4] at hown4
      obtain ⟨A5, c5, he, hb5⟩ := Bs.of_own hown4 (vb_byte x.toNat)
      cases he
      have HR := Lib.hid (BytesOnly.mk (w := w) rfl hb5 hbel4)
      clear hv hs hown hbl hbytes hown4 hbel4 hvk hv4 hb5 hx10
      go_wp2_with (at_builtin; refine wpl_app_run rfl rfl rfl rfl hap4 ?_)
      go_ret
      exact HR.out

/-- a slice of bytes as the answer, in a row of the call's own. -/
def BytesOwn (w : World) (bs : List Int) (e : Ending) (w' : World) : Prop :=
  ∃ A n c, e = .returned (.slice A n c) ∧ w'.ownsRow w.heap.size 5 1 (.slice A n c) n (bs.map (Value.int .u8)) ∧ Bs w' A n c bs ∧ Below w.heap.size w w'
theorem ret_u64 {a b : Int} (h : a = b) : Ending.returned (.int .u64 a) = .returned (.int .u64 b) := by rw [h]
theorem ret_i64 {a b : Int} (h : a = b) : Ending.returned (.int .i64 a) = .returned (.int .i64 b) := by rw [h]
theorem xor_ones (a : Nat) (h : a < 18446744073709551616) : a ^^^ 18446744073709551615 = 18446744073709551615 - a := by
  have h1 := congrArg BitVec.toNat (BitVec.xor_allOnes (x := BitVec.ofNat 64 a))
  simp only [BitVec.toNat_xor, BitVec.toNat_not, BitVec.toNat_ofNat, BitVec.toNat_allOnes] at h1
  have e : a % 2 ^ 64 = a := Nat.mod_eq_of_lt h
  rw [e] at h1
  exact h1
theorem u64_xor_ones (a : Int) (h0 : 0 ≤ a) (h1 : a < 18446744073709551616) : bits .xor .u64 a 18446744073709551615 = 18446744073709551615 - a := by
  rw [u64_xor _ _ h0 h1 (by decide) (by decide)]
  have e : (18446744073709551615 : Int).toNat = 18446744073709551615 := rfl
  rw [e, xor_ones _ (by omega)]; omega
theorem u64_xor_zero (a : Int) (h0 : 0 ≤ a) (h1 : a < 18446744073709551616) : bits .xor .u64 a 0 = a := by
  rw [u64_xor _ _ h0 h1 (by decide) (by decide)]
  have e : (0 : Int).toNat = 0 := rfl
  rw [e, Nat.xor_zero]; omega
theorem u64_and_one (a : Int) (h0 : 0 ≤ a) (h1 : a < 18446744073709551616) : bits .and .u64 a 1 = a % 2 := by
  rw [u64_and _ _ h0 h1 (by decide) (by decide)]
  have e : (1 : Int).toNat = 1 := rfl
  rw [e, Nat.and_one_is_mod]; omega
theorem zig_neg (y : Int) (y0 : -9223372036854775808 ≤ y) (h : y < 0) :
    bits .xor .u64 (IntKind.u64.wrap (IntKind.u64.wrap y * 2)) (IntKind.u64.wrap (y / 9223372036854775808)) = -2 * y - 1 := by
  have e1 : y / 9223372036854775808 = -1 := by omega
  rw [e1, IntKind.wrap_u64, IntKind.wrap_u64, IntKind.wrap_u64]
  have e2 : (-1 : Int) % 18446744073709551616 = 18446744073709551615 := by decide
  rw [e2, u64_xor_ones _ (by omega) (by omega)]; omega
theorem zig_pos (y : Int) (y1 : y ≤ 9223372036854775807) (h : 0 ≤ y) : bits .xor .u64 (y * 2) (y / 9223372036854775808) = 2 * y := by
  have e1 : y / 9223372036854775808 = 0 := by omega
  rw [e1, u64_xor_zero _ (by omega) (by omega)]; omega
theorem zag_odd (x : Int) (x0 : 0 ≤ x) (x1 : x ≤ 18446744073709551615) (h : x % 2 = 1) : wrap64 (bits .xor .u64 (x / 2) (IntKind.u64.wrap (-bits .and .u64 x 1))) = -(x / 2) - 1 := by
  rw [u64_and_one _ x0 (by omega), h, IntKind.wrap_u64]
  have e2 : (-1 : Int) % 18446744073709551616 = 18446744073709551615 := by decide
  rw [e2, u64_xor_ones _ (by omega) (by omega)]; unfold wrap64; omega
theorem zag_even (x : Int) (x0 : 0 ≤ x) (x1 : x ≤ 18446744073709551615) (h : ¬ x % 2 = 1) : wrap64 (bits .xor .u64 (x / 2) (IntKind.u64.wrap (-bits .and .u64 x 1))) = x / 2 := by
  have h2 : x % 2 = 0 := by omega
  rw [u64_and_one _ x0 (by omega), h2, IntKind.wrap_u64]
  have e2 : (-0 : Int) % 18446744073709551616 = 0 := by decide
  rw [e2, u64_xor_zero _ (by omega) (by omega)]; unfold wrap64; omega
theorem refZig_any (y : Int) (w : World) (y0 : -9223372036854775808 ≤ y) (y1 : y ≤ 9223372036854775807) :
    Calls Try.prog 23 #[.int .i64 y] w fun e w' => e = .returned (.int .u64 (zig y)) ∧ w = w' := by
  by_cases h : y < 0
  · have R := Lib.hid (show zig y = -2 * y - 1 by simp [zig, h])
    go_enter Try.func23, Try.ntmps23
    go_wp2
    go_ret
    refine ⟨?_, rfl⟩
    exact ret_u64 (by rw [R.out]; omega)
  · have R := Lib.hid (show zig y = 2 * y by simp [zig, h])
    go_enter Try.func23, Try.ntmps23
    go_wp2
    go_ret
    refine ⟨?_, rfl⟩
    exact ret_u64 (by rw [R.out]; omega)
theorem refZag_any (x : Int) (w : World) (x0 : 0 ≤ x) (x1 : x ≤ 18446744073709551615) :
    Calls Try.prog 57 #[.int .u64 x] w fun e w' => e = .returned (.int .i64 (zag x)) ∧ w = w' := by
  by_cases h : x % 2 = 1
  · have R := Lib.hid (show zag x = -(x / 2) - 1 by simp [zag, h])
    go_enter Try.func57, Try.ntmps57
    go_wp2
    go_ret
    refine ⟨?_, rfl⟩
    exact ret_i64 (by rw [R.out])
  · have R := Lib.hid (show zag x = x / 2 by simp [zag, h])
    go_enter Try.func57, Try.ntmps57
    go_wp2
    go_ret
    refine ⟨?_, rfl⟩
    exact ret_i64 (by rw [R.out])
theorem zig_any (y : Int) (w : World) (y0 : -9223372036854775808 ≤ y) (y1 : y ≤ 9223372036854775807) :
    Calls Try.prog 59 #[.int .i64 y] w fun e w' => e = .returned (.int .u64 (zig y)) ∧ w = w' := by
  by_cases h : y < 0
  · have R := Lib.hid (show zig y = -2 * y - 1 by simp [zig, h])
    go_enter Try.func59, Try.ntmps59
    go_wp2
    go_ret
    refine ⟨?_, rfl⟩
    exact ret_u64 (by rw [R.out]; exact zig_neg y y0 h)
  · have R := Lib.hid (show zig y = 2 * y by simp [zig, h])
    go_enter Try.func59, Try.ntmps59
    go_wp2
    go_ret
    refine ⟨?_, rfl⟩
    exact ret_u64 (by rw [R.out]; exact zig_pos y y1 h)
theorem zag_any (x : Int) (w : World) (x0 : 0 ≤ x) (x1 : x ≤ 18446744073709551615) :
    Calls Try.prog 61 #[.int .u64 x] w fun e w' => e = .returned (.int .i64 (zag x)) ∧ w = w' := by
  by_cases h : x % 2 = 1
  · have R := Lib.hid (show zag x = -(x / 2) - 1 by simp [zag, h])
    go_enter Try.func61, Try.ntmps61
    go_wp2
    go_ret
    refine ⟨?_, rfl⟩
    exact ret_i64 (by rw [R.out]; exact zag_odd x x0 x1 h)
  · have R := Lib.hid (show zag x = x / 2 by simp [zag, h])
    go_enter Try.func61, Try.ntmps61
    go_wp2
    go_ret
    refine ⟨?_, rfl⟩
    exact ret_i64 (by rw [R.out]; exact zag_even x x0 x1 h)
theorem zig_range {y : Int} (y0 : -9223372036854775808 ≤ y) (y1 : y ≤ 9223372036854775807) : 0 ≤ zig y ∧ zig y ≤ 18446744073709551615 := by unfold zig; split <;> omega
theorem appendInt_any (A : Option Addr) (n c : Nat) (bs : List Int) (y : Int) (w : World) (hb : Bs w A n c bs) (hn : n ≤ 16384) (y0 : -9223372036854775808 ≤ y) (y1 : y ≤ 9223372036854775807) :
    Calls Try.prog 53 #[.slice A n c, .int .i64 y] w (BytesOnly w (bs ++ vb (zig y).toNat)) := by
  have hz := zig_range y0 y1
  have P := varAppend_any A n c bs (zig y) w hb hn hz.1 hz.2
  clear hz
  go_enter Try.func53, Try.ntmps53
  go_wp2_with fail
  refine (zig_any _ _ y0 y1).mono ?_; rintro e w1 ⟨rfl, rfl⟩
  go_wp2_with fail
  refine P.mono ?_; rintro e w1 ⟨A1, n1, c1, rfl, hb1, hw1⟩
  have HR := Lib.hid (BytesOnly.mk (w := w) rfl hb1 hw1)
  clear P hb1 hw1
  go_wp2_with fail
  go_ret
  exact HR.out
end Go.Proofs.Ytkoodhnfphmbnaa
