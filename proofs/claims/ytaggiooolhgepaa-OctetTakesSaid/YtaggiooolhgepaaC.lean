/- What room and Cut (the program's, and the document's own) answer; for slices of up to 4096 bytes. -/
import Derived.Test.YtaggiooolhgepaaB
import Derived.Test.YtaggiooolhgepaaK
namespace Go.Proofs.Ytaggiooolhgepaa
set_option linter.unusedVariables false
set_option linter.unusedSimpArgs false
open Go.RowKit

theorem info5 : (Try.prog.info? 5).map (fun i => (i.zero, i.size, i.bytes)) = some (some (.int .u8 0), 1, 1) := by kernel_rfl
theorem size5 (W : World) : (sizeOf (Try.prog.elem 22)).run Try.prog W = .ok 1 W := by kernel_rfl
theorem und22 : Try.prog.underlying 22 = some (.slice (Try.prog.elem 22)) := by kernel_rfl

/-- what 'room' answers. -/
def roomS (n at_ m : Int) : Int := if at_ < 0 ∨ n < at_ then 1 else if n - at_ < m then 2 else 0

theorem room_any (A : Option Addr) (n c : Nat) (at_ m : Int) (w : World) (hn : n ≤ 65536) :
    Calls Try.prog 20 #[.slice A n c, .int .i64 at_, .int .i64 m] w fun e w' => e = .returned (.int .i64 (roomS n at_ m)) ∧ w = w' := by
  by_cases h1 : at_ < 0
  · have R : Hid (roomS n at_ m = 1) := by show _ = _; simp [roomS, h1]
    go_enter Try.func20, Try.ntmps20
    go_wp2
    go_ret
    exact ⟨by rw [R.out]; rfl, rfl⟩
  · by_cases h2 : (n : Int) < at_
    · have R : Hid (roomS n at_ m = 1) := by show _ = _; simp [roomS, h2]
      have hd : decide ((n : Int) < at_) = true := by simpa using h2
      go_enter Try.func20, Try.ntmps20
      go_wp2
      go_ret
      exact ⟨by rw [R.out]; rfl, rfl⟩
    · have hd : decide ((n : Int) < at_) = false := by simpa using h2
      by_cases h3 : n - at_ < m
      · have R : Hid (roomS n at_ m = 2) := by show _ = _; simp [roomS, h1, h2, h3]
        go_enter Try.func20, Try.ntmps20
        go_wp2
        go_ret
        exact ⟨by rw [R.out]; rfl, rfl⟩
      · have R : Hid (roomS n at_ m = 0) := by show _ = _; simp [roomS, h1, h2, h3]
        go_enter Try.func20, Try.ntmps20
        go_wp2
        go_ret
        exact ⟨by rw [R.out]; rfl, rfl⟩

/-- what Cut answers: the bytes, the place behind them, the error. -/
def cutS (bs : List Int) (at_ m : Int) : List Int × Int × Int :=
  if m < 0 ∨ at_ < 0 ∨ (bs.length : Int) < at_ then ([], 0, 1) else if (bs.length : Int) - at_ < m then ([], 0, 2) else ((bs.drop at_.toNat).take m.toNat, at_ + m, 0)
def BytesPost (w : World) (bs : List Int) (rest : List Value) (e : Ending) (w' : World) : Prop :=
  ∃ A c, e = .returned (.tuple ((Value.slice A bs.length c :: rest).toArray)) ∧ Bs w' A bs.length c bs ∧ Below w.heap.size w w'

theorem cut_post {bs : List Int} {at_ m : Int} {p : List Int × Int × Int} (h : cutS bs at_ m = p) {w w' : World} {A : Option Addr} {n c : Nat} (hn : n = p.1.length)
    (hb : Bs w' A n c p.1) (hw : Below w.heap.size w w') :
    BytesPost w (cutS bs at_ m).1 [.int .i64 (cutS bs at_ m).2.1, .int .i64 (cutS bs at_ m).2.2] (.returned (.tuple #[.slice A n c, .int .i64 p.2.1, .int .i64 p.2.2])) w' := by
  subst h; subst hn
  exact ⟨A, c, rfl, hb, hw⟩

theorem cut_any (A : Option Addr) (n c : Nat) (bs : List Int) (at_ m : Int) (w : World) (hb : Bs w A n c bs) (hn : n ≤ 4096) :
    Calls Try.prog 16 #[.slice A n c, .int .i64 at_, .int .i64 m] w (BytesPost w (cutS bs at_ m).1 [.int .i64 (cutS bs at_ m).2.1, .int .i64 (cutS bs at_ m).2.2]) := by
  have hlen := hb.len
  by_cases h0 : m < 0
  · have R := cut_post (w := w) (w' := w) (A := none) (n := 0) (c := 0) (show cutS bs at_ m = ([], 0, 1) by simp [cutS, h0]) rfl (Bs.nil _ _ _) (Below.refl _ _)
    have HL := Lib.hid hlen; clear hlen hb
    go_enter Try.func16, Try.ntmps16
    go_wp2
    go_ret3
    exact R
  · by_cases h1 : at_ < 0 ∨ (n : Int) < at_
    · have R := cut_post (w := w) (w' := w) (A := none) (n := 0) (c := 0) (show cutS bs at_ m = ([], 0, 1) by simp [cutS, h0, hlen, h1]) rfl (Bs.nil _ _ _) (Below.refl _ _)
      have R1 := Lib.hid (show roomS n at_ m = 1 by simp [roomS, h1])
      have HL := Lib.hid hlen; clear hlen hb h1
      go_enter Try.func16, Try.ntmps16
      go_wp2_with (go_at_call 20; refine (room_any _ _ _ _ _ _ (by omega)).mono ?_; rw [R1.out]; rintro e w' ⟨rfl, rfl⟩)
      go_ret3
      exact R
    · by_cases h2 : (n : Int) - at_ < m
      · have R := cut_post (w := w) (w' := w) (A := none) (n := 0) (c := 0) (show cutS bs at_ m = ([], 0, 2) by simp [cutS, h0, hlen, h1, h2]) rfl (Bs.nil _ _ _) (Below.refl _ _)
        have R1 := Lib.hid (show roomS n at_ m = 2 by simp [roomS, h1, h2])
        have HL := Lib.hid hlen; clear hlen hb h1
        go_enter Try.func16, Try.ntmps16
        go_wp2_with (go_at_call 20; refine (room_any _ _ _ _ _ _ (by omega)).mono ?_; rw [R1.out]; rintro e w' ⟨rfl, rfl⟩)
        go_ret3
        exact R
      · have R1 := Lib.hid (show roomS n at_ m = 0 by simp [roomS, h1, h2])
        obtain ⟨k, rfl⟩ : ∃ k : Nat, at_ = k := ⟨at_.toNat, by omega⟩
        obtain ⟨q, rfl⟩ : ∃ q : Nat, m = q := ⟨m.toNat, by omega⟩
        have hkq : k + q ≤ n := by omega
        obtain ⟨A2, c2, hsl, hb2⟩ := hb.slice 22 und22 size5 (k : Int) ((k : Int) + (q : Int)) k q rfl (by omega) hkq
        have R := Lib.hid (show cutS bs k q = ((bs.drop k).take q, (k : Int) + q, 0) by simp [cutS, h0, hlen, h1, h2]; omega)
        have hmk := run_make_row' (P := Try.prog) 22 5 (.int .u8 0) 1 Try.underlying22 info5 rfl .i64 .i64 q (by omega) (by omega)
        obtain ⟨w1, hcp, hb3, hbel⟩ := copy_new (P := Try.prog) w 22 22 3 5 Try.underlying22 (by kernel_rfl) q A2 c2 _ hb2
        have HR := cut_post R.out (w := w) (by have := hb2.len; simpa using this.symm) hb3 hbel
        have HL := Lib.hid hlen; clear hlen hb h1 hb2 hb3
        go_enter Try.func16, Try.ntmps16
        go_wp2_with (go_at_call 20; refine (room_any _ _ _ _ _ _ (by omega)).mono ?_; rw [R1.out]; rintro e w' ⟨rfl, rfl⟩)
        go_ret3
        exact HR

theorem refCut_any (A : Option Addr) (n c : Nat) (bs : List Int) (at_ m : Int) (w : World) (hb : Bs w A n c bs) (hn : n ≤ 4096) :
    Calls Try.prog 17 #[.slice A n c, .int .i64 at_, .int .i64 m] w (BytesPost w (cutS bs at_ m).1 [.int .i64 (cutS bs at_ m).2.1, .int .i64 (cutS bs at_ m).2.2]) := by
  have hlen := hb.len
  by_cases h1 : at_ < 0
  · have R := cut_post (w := w) (w' := w) (A := none) (n := 0) (c := 0) (show cutS bs at_ m = ([], 0, 1) by simp [cutS, h1]) rfl (Bs.nil _ _ _) (Below.refl _ _)
    have HL := Lib.hid hlen; clear hlen hb
    go_enter Try.func17, Try.ntmps17
    go_wp2
    go_ret3
    exact R
  · by_cases h2 : (n : Int) < at_
    · have R := cut_post (w := w) (w' := w) (A := none) (n := 0) (c := 0) (show cutS bs at_ m = ([], 0, 1) by simp [cutS, hlen, h2]) rfl (Bs.nil _ _ _) (Below.refl _ _)
      have hd : decide ((n : Int) < at_) = true := by simpa using h2
      have HL := Lib.hid hlen; clear hlen hb
      go_enter Try.func17, Try.ntmps17
      go_wp2
      go_ret3
      exact R
    · have hd : decide ((n : Int) < at_) = false := by simpa using h2
      by_cases h0 : m < 0
      · have R := cut_post (w := w) (w' := w) (A := none) (n := 0) (c := 0) (show cutS bs at_ m = ([], 0, 1) by simp [cutS, h0]) rfl (Bs.nil _ _ _) (Below.refl _ _)
        have HL := Lib.hid hlen; clear hlen hb
        have hd0 : decide (m < 0) = true := by simpa using h0
        go_enter Try.func17, Try.ntmps17
        go_wp2
        go_ret3
        exact R
      · have hd0 : decide (m < 0) = false := by simpa using h0
        by_cases h3 : (n : Int) - at_ < m
        · have R := cut_post (w := w) (w' := w) (A := none) (n := 0) (c := 0) (show cutS bs at_ m = ([], 0, 2) by simp [cutS, h0, hlen, h1, h2, h3]) rfl (Bs.nil _ _ _) (Below.refl _ _)
          have HL := Lib.hid hlen; clear hlen hb
          go_enter Try.func17, Try.ntmps17
          go_wp2
          go_ret3
          exact R
        · obtain ⟨k, rfl⟩ : ∃ k : Nat, at_ = k := ⟨at_.toNat, by omega⟩
          obtain ⟨q, rfl⟩ : ∃ q : Nat, m = q := ⟨m.toNat, by omega⟩
          have hkq : k + q ≤ n := by omega
          obtain ⟨A2, c2, hsl, hb2⟩ := hb.slice 22 und22 size5 (k : Int) ((k : Int) + (q : Int)) k q rfl (by omega) hkq
          have R := Lib.hid (show cutS bs k q = ((bs.drop k).take q, (k : Int) + q, 0) by simp [cutS, h0, hlen, h1, h2, h3])
          obtain ⟨i5, hi5, hz0, hz1, hz2⟩ := info_parts info5
          obtain ⟨A3, c3, w1, hap, _, hb3, hbel⟩ := app_lit0 (P := Try.prog) w 22 22 5 i5 _ Try.underlying22 hi5 hz0 hz1 hz2 rfl A2 q c2 _ hb2 (by omega)
          have HR := cut_post R.out (w := w) (by have := hb2.len; simpa using this.symm) hb3 hbel
          have HL := Lib.hid hlen; clear hlen hb hb2 hb3 hi5 hz0 hz1 hz2
          go_enter Try.func17, Try.ntmps17
          go_wp2_with (at_builtin; refine wpl_app_run rfl rfl rfl rfl hap ?_)
          go_ret3
          exact HR
end Go.Proofs.Ytaggiooolhgepaa
