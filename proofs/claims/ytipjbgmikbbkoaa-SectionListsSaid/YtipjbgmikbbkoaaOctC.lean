/- What room and Cut (the program's, and the document's own) answer; for slices of up to 4096 bytes. -/
import Derived.Test.YtipjbgmikbbkoaaOctB
import Derived.Test.YtipjbgmikbbkoaaK
namespace Go.Proofs.Ytipjbgmikbbkoaa
set_option linter.unusedVariables false
set_option linter.unusedSimpArgs false
open Go.RowKit


/-- what 'room' answers. -/
def roomS (n at_ m : Int) : Int := if at_ < 0 ∨ n < at_ then 1 else if n - at_ < m then 2 else 0

theorem room_any (A : Option Addr) (n c : Nat) (at_ m : Int) (w : World) (hn : n ≤ 65536) :
    Calls Try.prog 61 #[.slice A n c, .int .i64 at_, .int .i64 m] w fun e w' => e = .returned (.int .i64 (roomS n at_ m)) ∧ w = w' := by
  by_cases h1 : at_ < 0
  · have R : Hid (roomS n at_ m = 1) := by show _ = _; simp [roomS, h1]
    go_enter Try.func61, Try.ntmps61
    go_wp2
    go_ret
    exact ⟨by rw [R.out]; rfl, rfl⟩
  · by_cases h2 : (n : Int) < at_
    · have R : Hid (roomS n at_ m = 1) := by show _ = _; simp [roomS, h2]
      have hd : decide ((n : Int) < at_) = true := by simpa using h2
      go_enter Try.func61, Try.ntmps61
      go_wp2
      go_ret
      exact ⟨by rw [R.out]; rfl, rfl⟩
    · have hd : decide ((n : Int) < at_) = false := by simpa using h2
      by_cases h3 : n - at_ < m
      · have R : Hid (roomS n at_ m = 2) := by show _ = _; simp [roomS, h1, h2, h3]
        go_enter Try.func61, Try.ntmps61
        go_wp2
        go_ret
        exact ⟨by rw [R.out]; rfl, rfl⟩
      · have R : Hid (roomS n at_ m = 0) := by show _ = _; simp [roomS, h1, h2, h3]
        go_enter Try.func61, Try.ntmps61
        go_wp2
        go_ret
        exact ⟨by rw [R.out]; rfl, rfl⟩

/-- such bytes lie in a block that was not there ahead of the call. -/
def Fresh (m : Nat) (A : Option Addr) (n : Nat) : Prop := 0 < n → ∃ b off, A = some ⟨b, off, none⟩ ∧ m ≤ b
theorem Fresh.zero {m : Nat} {A : Option Addr} : Fresh m A 0 := fun h => absurd h (by omega)
theorem Fresh.of_own {w : World} {base : Nat} {e : TypeId} {size : Nat} {A : Option Addr} {n c m : Nat} {xs : List Value} (h : w.ownsRow base e size (.slice A n c) m xs) : Fresh base A n := by
  intro hn
  rcases h.2 with ⟨h1, _⟩ | ⟨g, cap, cur, h1, h2, _⟩
  · injection h1 with _ h1 _; omega
  · injection h1 with h1 _ _; exact ⟨g, 0, h1, h2⟩
/-- a slice of bytes and more as the answer, in a block of the call's own. -/
def NewPost (w : World) (bs : List Int) (rest : List Value) (e : Ending) (w' : World) : Prop :=
  ∃ A n c, e = .returned (.tuple ((Value.slice A n c :: rest).toArray)) ∧ Bs w' A n c bs ∧ Below w.heap.size w w' ∧ Fresh w.heap.size A n
/-- what Cut answers: the bytes, the place behind them, the error. -/
def cutS (bs : List Int) (at_ m : Int) : List Int × Int × Int :=
  if m < 0 ∨ at_ < 0 ∨ (bs.length : Int) < at_ then ([], 0, 1) else if (bs.length : Int) - at_ < m then ([], 0, 2) else ((bs.drop at_.toNat).take m.toNat, at_ + m, 0)
theorem cut_post {bs : List Int} {at_ m : Int} {p : List Int × Int × Int} (h : cutS bs at_ m = p) {w w' : World} {A : Option Addr} {n c : Nat} (hn : n = p.1.length)
    (hb : Bs w' A n c p.1) (hw : Below w.heap.size w w') (hf : Fresh w.heap.size A n := by exact Fresh.zero) :
    NewPost w (cutS bs at_ m).1 [.int .i64 (cutS bs at_ m).2.1, .int .i64 (cutS bs at_ m).2.2] (.returned (.tuple #[.slice A n c, .int .i64 p.2.1, .int .i64 p.2.2])) w' := by
  subst h
  exact ⟨A, n, c, rfl, hb, hw, hf⟩

theorem cut_new (A : Option Addr) (n c : Nat) (bs : List Int) (at_ m : Int) (w : World) (hb : Bs w A n c bs) (hn : n ≤ 16384) :
    Calls Try.prog 54 #[.slice A n c, .int .i64 at_, .int .i64 m] w (NewPost w (cutS bs at_ m).1 [.int .i64 (cutS bs at_ m).2.1, .int .i64 (cutS bs at_ m).2.2]) := by
  have hlen := hb.len
  by_cases h0 : m < 0
  · have R := cut_post (w := w) (w' := w) (A := none) (n := 0) (c := 0) (show cutS bs at_ m = ([], 0, 1) by simp [cutS, h0]) rfl (Bs.nil _ _ _) (Below.refl _ _)
    have HL := Lib.hid hlen; clear hlen hb
    go_enter Try.func54, Try.ntmps54
    go_wp2
    go_ret3
    exact R
  · by_cases h1 : at_ < 0 ∨ (n : Int) < at_
    · have R := cut_post (w := w) (w' := w) (A := none) (n := 0) (c := 0) (show cutS bs at_ m = ([], 0, 1) by simp [cutS, h0, hlen, h1]) rfl (Bs.nil _ _ _) (Below.refl _ _)
      have R1 := Lib.hid (show roomS n at_ m = 1 by simp [roomS, h1])
      have HL := Lib.hid hlen; clear hlen hb h1
      go_enter Try.func54, Try.ntmps54
      go_wp2_with (go_at_call 61; refine (room_any _ _ _ _ _ _ (by omega)).mono ?_; rw [R1.out]; rintro e w' ⟨rfl, rfl⟩)
      go_ret3
      exact R
    · by_cases h2 : (n : Int) - at_ < m
      · have R := cut_post (w := w) (w' := w) (A := none) (n := 0) (c := 0) (show cutS bs at_ m = ([], 0, 2) by simp [cutS, h0, hlen, h1, h2]) rfl (Bs.nil _ _ _) (Below.refl _ _)
        have R1 := Lib.hid (show roomS n at_ m = 2 by simp [roomS, h1, h2])
        have HL := Lib.hid hlen; clear hlen hb h1
        go_enter Try.func54, Try.ntmps54
        go_wp2_with (go_at_call 61; refine (room_any _ _ _ _ _ _ (by omega)).mono ?_; rw [R1.out]; rintro e w' ⟨rfl, rfl⟩)
        go_ret3
        exact R
      · have R1 := Lib.hid (show roomS n at_ m = 0 by simp [roomS, h1, h2])
        obtain ⟨k, rfl⟩ : ∃ k : Nat, at_ = k := ⟨at_.toNat, by omega⟩
        obtain ⟨q, rfl⟩ : ∃ q : Nat, m = q := ⟨m.toNat, by omega⟩
        have hkq : k + q ≤ n := by omega
        obtain ⟨A2, c2, hsl, hb2⟩ := hb.slice 22 undBytes sizeByte (k : Int) ((k : Int) + (q : Int)) k q rfl (by omega) hkq
        have R := Lib.hid (show cutS bs k q = ((bs.drop k).take q, (k : Int) + q, 0) by simp [cutS, h0, hlen, h1, h2]; omega)
        have hmk := run_make_row' (P := Try.prog) 22 5 (.int .u8 0) 1 Try.underlying22 infoByte rfl .i64 .i64 q (by omega) (by omega)
        obtain ⟨w1, hcp, hb3, hbel⟩ := copy_new (P := Try.prog) w 22 22 3 5 Try.underlying22 (by kernel_rfl) q A2 c2 _ hb2
        have HR := cut_post R.out (w := w) (by have := hb2.len; simpa using this.symm) hb3 hbel (fun _ => ⟨_, _, rfl, Nat.le_refl _⟩)
        have HL := Lib.hid hlen; clear hlen hb h1 hb2 hb3
        go_enter Try.func54, Try.ntmps54
        go_wp2_with (go_at_call 61; refine (room_any _ _ _ _ _ _ (by omega)).mono ?_; rw [R1.out]; rintro e w' ⟨rfl, rfl⟩)
        go_ret3
        exact HR

theorem refCut_new (A : Option Addr) (n c : Nat) (bs : List Int) (at_ m : Int) (w : World) (hb : Bs w A n c bs) (hn : n ≤ 16384) :
    Calls Try.prog 30 #[.slice A n c, .int .i64 at_, .int .i64 m] w (NewPost w (cutS bs at_ m).1 [.int .i64 (cutS bs at_ m).2.1, .int .i64 (cutS bs at_ m).2.2]) := by
  have hlen := hb.len
  by_cases h1 : at_ < 0
  · have R := cut_post (w := w) (w' := w) (A := none) (n := 0) (c := 0) (show cutS bs at_ m = ([], 0, 1) by simp [cutS, h1]) rfl (Bs.nil _ _ _) (Below.refl _ _)
    have HL := Lib.hid hlen; clear hlen hb
    go_enter Try.func30, Try.ntmps30
    go_wp2
    go_ret3
    exact R
  · by_cases h2 : (n : Int) < at_
    · have R := cut_post (w := w) (w' := w) (A := none) (n := 0) (c := 0) (show cutS bs at_ m = ([], 0, 1) by simp [cutS, hlen, h2]) rfl (Bs.nil _ _ _) (Below.refl _ _)
      have hd : decide ((n : Int) < at_) = true := by simpa using h2
      have HL := Lib.hid hlen; clear hlen hb
      go_enter Try.func30, Try.ntmps30
      go_wp2
      go_ret3
      exact R
    · have hd : decide ((n : Int) < at_) = false := by simpa using h2
      by_cases h0 : m < 0
      · have R := cut_post (w := w) (w' := w) (A := none) (n := 0) (c := 0) (show cutS bs at_ m = ([], 0, 1) by simp [cutS, h0]) rfl (Bs.nil _ _ _) (Below.refl _ _)
        have HL := Lib.hid hlen; clear hlen hb
        have hd0 : decide (m < 0) = true := by simpa using h0
        go_enter Try.func30, Try.ntmps30
        go_wp2
        go_ret3
        exact R
      · have hd0 : decide (m < 0) = false := by simpa using h0
        by_cases h3 : (n : Int) - at_ < m
        · have R := cut_post (w := w) (w' := w) (A := none) (n := 0) (c := 0) (show cutS bs at_ m = ([], 0, 2) by simp [cutS, h0, hlen, h1, h2, h3]) rfl (Bs.nil _ _ _) (Below.refl _ _)
          have HL := Lib.hid hlen; clear hlen hb
          go_enter Try.func30, Try.ntmps30
          go_wp2
          go_ret3
          exact R
        · obtain ⟨k, rfl⟩ : ∃ k : Nat, at_ = k := ⟨at_.toNat, by omega⟩
          obtain ⟨q, rfl⟩ : ∃ q : Nat, m = q := ⟨m.toNat, by omega⟩
          have hkq : k + q ≤ n := by omega
          obtain ⟨A2, c2, hsl, hb2⟩ := hb.slice 22 undBytes sizeByte (k : Int) ((k : Int) + (q : Int)) k q rfl (by omega) hkq
          have R := Lib.hid (show cutS bs k q = ((bs.drop k).take q, (k : Int) + q, 0) by simp [cutS, h0, hlen, h1, h2, h3])
          obtain ⟨i5, hi5, hz0, hz1, hz2⟩ := info_parts infoByte
          obtain ⟨A3, c3, w1, hap, hown3, hb3, hbel⟩ := app_lit0 (P := Try.prog) w 22 22 5 i5 _ Try.underlying22 hi5 hz0 hz1 hz2 rfl A2 q c2 _ hb2 (by omega)
          have HR := cut_post R.out (w := w) (by have := hb2.len; simpa using this.symm) hb3 hbel (Fresh.of_own hown3)
          have HL := Lib.hid hlen; clear hlen hb hb2 hb3 hown3 hi5 hz0 hz1 hz2
          go_enter Try.func30, Try.ntmps30
          go_wp2_with (at_builtin; refine wpl_app_run rfl rfl rfl rfl hap ?_)
          go_ret3
          exact HR
theorem cut_any (A : Option Addr) (n c : Nat) (bs : List Int) (at_ m : Int) (w : World) (hb : Bs w A n c bs) (hn : n ≤ 16384) :
    Calls Try.prog 54 #[.slice A n c, .int .i64 at_, .int .i64 m] w (BytesPost w (cutS bs at_ m).1 [.int .i64 (cutS bs at_ m).2.1, .int .i64 (cutS bs at_ m).2.2]) :=
  (cut_new A n c bs at_ m w hb hn).mono fun _ _ ⟨A', n', c', h1, h2, h3, _⟩ => ⟨A', n', c', h1, h2, h3⟩
theorem refCut_any (A : Option Addr) (n c : Nat) (bs : List Int) (at_ m : Int) (w : World) (hb : Bs w A n c bs) (hn : n ≤ 16384) :
    Calls Try.prog 30 #[.slice A n c, .int .i64 at_, .int .i64 m] w (BytesPost w (cutS bs at_ m).1 [.int .i64 (cutS bs at_ m).2.1, .int .i64 (cutS bs at_ m).2.2]) :=
  (refCut_new A n c bs at_ m w hb hn).mono fun _ _ ⟨A', n', c', h1, h2, h3, _⟩ => ⟨A', n', c', h1, h2, h3⟩
end Go.Proofs.Ytipjbgmikbbkoaa
