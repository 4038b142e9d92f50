/- Layer 11's contracts in the shapes that the statements' walks want: each row is old, or lies in a block of those who wait; no condition but those in each theorem. -/
import Derived.Test.YtjpgmkbcjedhfaaNotO
import Derived.Test.YtjpgmkbcjedhfaaRo
namespace Go.Proofs.Ytjpgmkbcjedhfaa
set_option linter.unusedVariables false
set_option linter.unusedSimpArgs false
open Go.RowKit
/-- those who wait, as a walk holds them. -/
abbrev Rw (w0 w : World) (B : Option Addr) (m d : Nat) (ws : List Wt) : Prop := Ro 53 2 w0 w B m d (wtC ws)
def AAs (w0 w : World) (wa to : Int) (ws : List Wt) (t er : Int) (e : Ending) (w' : World) : Prop :=
  ∃ B m d, e = .returned (.tuple #[.agg #[.int .u32 wa, .int .u32 to, .slice B m d], .int .u32 t, .int .i64 er]) ∧ Rw w0 w' B m d ws ∧ Below w.heap.size w w'
def NAs (w0 w : World) (wa to : Int) (ws : List Wt) (er : Int) (e : Ending) (w' : World) : Prop :=
  ∃ B m d, e = .returned (.tuple #[.agg #[.int .u32 wa, .int .u32 to, .slice B m d], .int .i64 er]) ∧ Rw w0 w' B m d ws ∧ Below w.heap.size w w'
def OAs (w0 w : World) (wa to : Int) (ws : List Wt) (t er : Int) (e : Ending) (w' : World) : Prop :=
  ∃ B m d, e = .returned (.tuple #[.agg #[.int .u32 wa, .int .u32 to, .slice B m d], .int .i64 t, .int .i64 er]) ∧ Rw w0 w' B m d ws ∧ Below w.heap.size w w'
def LAs (w0 w : World) (wa to : Int) (ws : List Wt) (l : List Int) (er : Int) (e : Ending) (w' : World) : Prop :=
  ∃ B m d C k f, e = .returned (.tuple #[.agg #[.int .u32 wa, .int .u32 to, .slice B m d], .slice C k f, .int .i64 er]) ∧ Rw w0 w' B m d ws ∧ Is w' C k f l ∧ Below w.heap.size w w'
section
variable {w0 w w' : World} {A : Option Addr} {n c : Nat} {ws0 : List Wt} {e : Ending}
theorem part_as {B : Option Addr} {m d : Nat} {ws : List Wt} (hx : Rw w0 w A n c ws0) (h2 : Wts w' B m d ws) (h3 : Below w.heap.size w w') (h4 : w'.ownsRow w.heap.size 53 2 (.slice B m d) m (wtC ws) ∨ Value.slice B m d = .slice A n c) : Rw w0 w' B m d ws := by
  rcases h4 with h4 | h4
  · exact Ro.of_own h4 (wtC_one _)
  · injection h4 with e1 e2 e3; subst e1; subst e2; subst e3
    exact ⟨h2, (hx.below h3).tag⟩
theorem AGotN.as {r : Nf × Int × Int} (h : AGotN w A n c r e w') (hx : Rw w0 w A n c ws0) : AAs w0 w r.1.1 r.1.2.1 r.1.2.2 r.2.1 r.2.2 e w' := by
  obtain ⟨B, m, d, h1, h2, h3, h4⟩ := h
  exact ⟨B, m, d, h1, part_as hx h2 h3 h4, h3⟩
theorem NGotN.as {r : Nf × Int} (h : NGotN w A n c r e w') (hx : Rw w0 w A n c ws0) : NAs w0 w r.1.1 r.1.2.1 r.1.2.2 r.2 e w' := by
  obtain ⟨B, m, d, h1, h2, h3, h4⟩ := h
  exact ⟨B, m, d, h1, part_as hx h2 h3 h4, h3⟩
theorem OGotN.as {r : Nf × Int × Int} (h : OGotN w A n c r e w') (hx : Rw w0 w A n c ws0) : OAs w0 w r.1.1 r.1.2.1 r.1.2.2 r.2.1 r.2.2 e w' := by
  obtain ⟨B, m, d, h1, h2, h3, h4⟩ := h
  exact ⟨B, m, d, h1, part_as hx h2 h3 h4, h3⟩
theorem is_own11 {w : World} {base : Nat} {C : Option Addr} {k f : Nat} {l : List Int} (h : w.ownsRow base 3 1 (.slice C k f) k (intC l)) : Is w C k f l := by
  obtain ⟨_, _, he, his⟩ := Es.of_own h (intC_one _)
  injection he with e1 e2 e3; subst e1; subst e3; exact his
theorem LGotN.as {r : Nf × List Int × Int} (h : LGotN w A n c r e w') (hx : Rw w0 w A n c ws0) : LAs w0 w r.1.1 r.1.2.1 r.1.2.2 r.2.1 r.2.2 e w' := by
  obtain ⟨B, m, d, C, k, f, h1, h2, h5, h3, h4⟩ := h
  exact ⟨B, m, d, C, k, f, h1, part_as hx h2 h3 h4, is_own11 h5, h3⟩
end
section
variable {w0 w : World} {A : Option Addr} {n c : Nat} {ws : List Wt} {wa to : Int}
theorem addAs (hx : Rw w0 w A n c ws) (hn : n ≤ 16384) (hb : NB (wa, to, ws)) {wa2 to2 : Int} {ws2 : List Wt} {t er : Int} (he : addN (wa, to, ws) = ((wa2, to2, ws2), t, er)) :
    Calls Try.prog 9 #[.agg #[.int .u32 wa, .int .u32 to, .slice A n c]] w (AAs w0 w wa2 to2 ws2 t er) := by
  have := ntAdd_any A n c ws wa to w hx.es hn hb
  rw [he] at this
  exact this.mono fun _ _ h => h.as hx
theorem parkAs11 (k ta : Int) (hx : Rw w0 w A n c ws) (hn : n ≤ 16384) (hb : NB (wa, to, ws)) (k0 : 0 ≤ k) (k1 : k < 4294967296) {wa2 to2 : Int} {ws2 : List Wt} {er : Int} (he : parkN (wa, to, ws) k ta = ((wa2, to2, ws2), er)) :
    Calls Try.prog 11 #[.agg #[.int .u32 wa, .int .u32 to, .slice A n c], .int .u32 k, .int .i64 ta] w (NAs w0 w wa2 to2 ws2 er) := by
  have := ntPark_any A n c ws wa to w k ta hx.es hn hb k0 k1
  rw [he] at this
  exact this.mono fun _ _ h => h.as hx
theorem oneAs (hx : Rw w0 w A n c ws) (hn : n ≤ 16384) (hb : NB (wa, to, ws)) {wa2 to2 : Int} {ws2 : List Wt} {t er : Int} (he : oneN (wa, to, ws) = ((wa2, to2, ws2), t, er)) :
    Calls Try.prog 18 #[.agg #[.int .u32 wa, .int .u32 to, .slice A n c]] w (OAs w0 w wa2 to2 ws2 t er) := by
  have := ntOne_any A n c ws wa to w hx.es hn hb
  rw [he] at this
  exact this.mono fun _ _ h => h.as hx
theorem allAs (hx : Rw w0 w A n c ws) (hn : n ≤ 16384) (hb : NB (wa, to, ws)) {wa2 to2 : Int} {ws2 : List Wt} {l : List Int} {er : Int} (he : allN (wa, to, ws) = ((wa2, to2, ws2), l, er)) :
    Calls Try.prog 20 #[.agg #[.int .u32 wa, .int .u32 to, .slice A n c]] w (LAs w0 w wa2 to2 ws2 l er) := by
  have := ntAll_any A n c ws wa to w hx.es hn hb
  rw [he] at this
  exact this.mono fun _ _ h => h.as hx
theorem right11As (hx : Rw w0 w A n c ws) (hn : n ≤ 16384) (hb : NB (wa, to, ws)) {b : Bool} (he : rightN (wa, to, ws) = b) :
    Calls Try.prog 14 #[.agg #[.int .u32 wa, .int .u32 to, .slice A n c]] w (YesN w b) := he ▸ ntRight_any A n c ws wa to w hx.es hn hb
theorem told11As (k : Int) (hx : Rw w0 w A n c ws) (hn : n ≤ 16384) (hb : NB (wa, to, ws)) (k0 : 0 ≤ k) (k1 : k < 4294967296) {b : Bool} (he : toldN (wa, to, ws) k = b) :
    Calls Try.prog 16 #[.agg #[.int .u32 wa, .int .u32 to, .slice A n c], .int .u32 k] w (YesN w b) := he ▸ ntTold_any A n c ws wa to w k hx.es hn hb k0 k1
theorem wts_len {B : Option Addr} {m d : Nat} {w' : World} (h : Rw w0 w' B m d ws) : ws.length = m := Wts.len h.es
end
theorem NB.add {n : Nf} (h : NB n) : NB (addN n).1 := by
  unfold addN
  split
  · exact h
  · split
    · exact h
    · exact ⟨by show 0 ≤ next32 n.1; unfold next32; omega, by show next32 n.1 < _; unfold next32; omega, h.t0, h.t1, h.ws, h.ts⟩
theorem butT_mem {t : Int} {x : Wt} : ∀ {ws : List Wt}, x ∈ butT t ws → x ∈ ws
  | [], h => h
  | y :: ws, h => by
    unfold butT at h
    split at h
    · exact List.mem_cons_of_mem _ (butT_mem h)
    · rcases List.mem_cons.1 h with rfl | h
      · simp
      · exact List.mem_cons_of_mem _ (butT_mem h)
theorem NB.one {n : Nf} (h : NB n) : NB (oneN n).1 := by
  unfold oneN
  split
  · exact h
  · split
    · exact h
    · exact ⟨h.w0, h.w1, by show 0 ≤ next32 n.2.1; unfold next32; omega, by show next32 n.2.1 < _; unfold next32; omega, fun x hx => h.ws x (butT_mem hx), fun x hx => h.ts x (butT_mem hx)⟩
theorem NB.park {n : Nf} (h : NB n) {k ta : Int} (k0 : 0 ≤ k) (k1 : k < 4294967296) (t0 : -9223372036854775808 ≤ ta) (t1 : ta < 9223372036854775808) : NB (parkN n k ta).1 := by
  unfold parkN
  split
  · exact h
  · split
    · exact h
    · split
      · exact h
      · exact ⟨h.w0, h.w1, h.t0, h.t1, fun x hx => by
          rcases List.mem_append.1 hx with hx | hx
          · exact h.ws x hx
          · simp at hx; subst hx; exact ⟨k0, k1⟩, fun x hx => by
          rcases List.mem_append.1 hx with hx | hx
          · exact h.ts x hx
          · simp at hx; subst hx; exact ⟨t0, t1⟩⟩
theorem NB.all {n : Nf} (h : NB n) : NB (allN n).1 := by
  unfold allN
  split
  · exact h
  · exact ⟨h.w0, h.w1, h.w0, h.w1, by simp, by simp⟩
theorem add_len (n : Nf) : (addN n).1.2.2 = n.2.2 := by unfold addN; split; rfl; split <;> rfl
theorem park_len (n : Nf) (k ta : Int) : (parkN n k ta).1.2.2.length ≤ n.2.2.length + 1 := by
  unfold parkN; split; exact Nat.le_succ _; split; exact Nat.le_succ _; split; exact Nat.le_succ _; simp
theorem one_len (n : Nf) : (oneN n).1.2.2.length ≤ n.2.2.length := by
  unfold oneN; split; exact Nat.le_refl _; split; exact Nat.le_refl _; exact butT_len _ _
theorem all_len (n : Nf) : (allN n).1.2.2.length ≤ n.2.2.length := by
  unfold allN; split; exact Nat.le_refl _; simp
theorem all_ints (n : Nf) : (allN n).2.1.length ≤ n.2.2.length := by
  unfold allN; split; simp; simp
end Go.Proofs.Ytjpgmkbcjedhfaa
