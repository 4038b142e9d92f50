/- Layer 9's contracts in the shapes that the statements' walks want: each row is old, or lies in a block of nodes; no condition but those in each theorem. -/
import Derived.Test.YtfgfohomgomidaaTreO
import Derived.Test.YtfgfohomgomidaaRo
namespace Go.Proofs.Ytfgfohomgomidaa
set_option linter.unusedVariables false
set_option linter.unusedSimpArgs false
open Go.RowKit
/-- nodes that are held. -/
abbrev Rn (w0 w : World) (B : Option Addr) (m d : Nat) (ns : List Nd) : Prop := Ro 52 6 w0 w B m d (ndC ns)
/-- a treap, a place, and what was wrong. -/
def IAs (w0 w : World) (ns : List Nd) (rt fr pl er : Int) (e : Ending) (w' : World) : Prop :=
  ∃ B m d, e = .returned (.tuple #[.agg #[.slice B m d, .int .i64 rt, .int .i64 fr], .int .i64 pl, .int .i64 er]) ∧ Rn w0 w' B m d ns ∧ Below w.heap.size w w'
/-- a treap, and what was wrong. -/
def TAs (w0 w : World) (ns : List Nd) (rt fr er : Int) (e : Ending) (w' : World) : Prop :=
  ∃ B m d, e = .returned (.tuple #[.agg #[.slice B m d, .int .i64 rt, .int .i64 fr], .int .i64 er]) ∧ Rn w0 w' B m d ns ∧ Below w.heap.size w w'
theorem IGot.as {w0 w : World} {A : Option Addr} {n c : Nat} {ns0 : List Nd} {r : Trp × Int × Int} {e : Ending} {w' : World} (h : IGot w A n c r e w') (hx : Rn w0 w A n c ns0) : IAs w0 w r.1.1 r.1.2.1 r.1.2.2 r.2.1 r.2.2 e w' := by
  obtain ⟨B, m, d, h1, h2, h3, h4⟩ := h
  refine ⟨B, m, d, h1, ?_, h3⟩
  rcases h4 with h4 | h4
  · exact Ro.of_own h4 (ndC_one _)
  · injection h4 with e1 e2 e3; subst e1; subst e2; subst e3
    exact ⟨h2, (hx.below h3).tag⟩
theorem TGot.as {w0 w : World} {A : Option Addr} {n c : Nat} {ns0 : List Nd} {r : Trp × Int} {e : Ending} {w' : World} (h : TGot w A n c r e w') (hx : Rn w0 w A n c ns0) : TAs w0 w r.1.1 r.1.2.1 r.1.2.2 r.2 e w' := by
  obtain ⟨B, m, d, h1, h2, h3, h4⟩ := h
  refine ⟨B, m, d, h1, ?_, h3⟩
  rcases h4 with h4 | h4
  · exact Ro.of_own h4 (ndC_one _)
  · injection h4 with e1 e2 e3; subst e1; subst e2; subst e3
    exact ⟨h2, (hx.below h3).tag⟩
section
variable {w0 : World} {A : Option Addr} {n c : Nat} {ns : List Nd} {rt fr : Int} {w : World}
theorem insAs (key prio : Int) (hx : Rn w0 w A n c ns) (hn : n ≤ 16384) {ns2 : List Nd} {rt2 fr2 pl er : Int} (he : insT (ns, rt, fr) key prio = ((ns2, rt2, fr2), pl, er)) :
    Calls Try.prog 9 #[.agg #[.slice A n c, .int .i64 rt, .int .i64 fr], .int .i64 key, .int .u32 prio] w (IAs w0 w ns2 rt2 fr2 pl er) := by
  have := tpInsert_any A n c ns rt fr w key prio hx.es hn
  rw [he] at this
  exact this.mono fun _ _ h => h.as hx
theorem delAs (key : Int) (hx : Rn w0 w A n c ns) (hn : n ≤ 16384) {ns2 : List Nd} {rt2 fr2 er : Int} (he : delT (ns, rt, fr) key = ((ns2, rt2, fr2), er)) :
    Calls Try.prog 11 #[.agg #[.slice A n c, .int .i64 rt, .int .i64 fr], .int .i64 key] w (TAs w0 w ns2 rt2 fr2 er) := by
  have := tpDelete_any A n c ns rt fr w key hx.es hn
  rw [he] at this
  exact this.mono fun _ _ h => h.as hx
theorem hangAs (key qh qt : Int) (hx : Rn w0 w A n c ns) (hn : n ≤ 16384) {ns2 : List Nd} {rt2 fr2 er : Int} (he : hangT (ns, rt, fr) key qh qt = ((ns2, rt2, fr2), er)) :
    Calls Try.prog 21 #[.agg #[.slice A n c, .int .i64 rt, .int .i64 fr], .int .i64 key, .agg #[.int .i64 qh, .int .i64 qt]] w (TAs w0 w ns2 rt2 fr2 er) := by
  have := tpHang_any A n c ns rt fr w key qh qt hx.es hn
  rw [he] at this
  exact this.mono fun _ _ h => h.as hx
theorem makeAs (n : Nat) (hn : n ≤ 64) {ns2 : List Nd} {rt2 fr2 : Int} (he : makeT n = ((ns2, rt2, fr2), 0)) :
    Calls Try.prog 23 #[.int .i64 (n : Int)] w (TAs w0 w ns2 rt2 fr2 0) := by
  have := tpMake_all (n : Int) w (by omega) (by omega)
  rw [he] at this
  exact this.mono fun _ _ ⟨B, m, d, h1, h2, h3⟩ => ⟨B, m, d, h1, Ro.of_own h2 (ndC_one _), h3⟩
theorem findAs (key : Int) (hx : Rn w0 w A n c ns) (hn : n ≤ 16384) {r : Int × Int × Bool} (he : findT (ns, rt, fr) key = r) :
    Calls Try.prog 13 #[.agg #[.slice A n c, .int .i64 rt, .int .i64 fr], .int .i64 key] w (FindPost9 w r) := he ▸ tpFind_any A n c ns rt fr w key hx.es hn
theorem right9As (hx : Rn w0 w A n c ns) (hn : n ≤ 16384) {b : Bool} (he : rightT (ns, rt, fr) = b) :
    Calls Try.prog 16 #[.agg #[.slice A n c, .int .i64 rt, .int .i64 fr]] w (Yes9 w b) := he ▸ tpRight_any A n c ns rt fr w hx.es hn
theorem keysAs (hx : Rn w0 w A n c ns) (hn : n ≤ 16384) {l : List Int} (he : keysT (ns, rt, fr) = l) :
    Calls Try.prog 19 #[.agg #[.slice A n c, .int .i64 rt, .int .i64 fr]] w (fun e w' => ∃ B m d, e = .returned (.slice B m d) ∧ Is w' B m d l ∧ Below w.heap.size w w') := by
  refine (tpKeys_any A n c ns rt fr w hx.es hn).mono ?_
  rw [he]
  rintro e w' ⟨B, m, d, h1, h2, h3⟩
  obtain ⟨_, _, h4, h5⟩ := Es.of_own h2 (intC_one _)
  injection h4 with e1 e2 e3; subst e1; subst e3
  exact ⟨_, _, _, h1, h5, h3⟩
theorem same9 {B : Option Addr} {m d : Nat} (h1 : Ns w A n c ns) (h2 : Ns w B m d ns) (hn : n ≤ 16384) : Calls Try.prog 15 #[.agg #[.slice A n c, .int .i64 rt, .int .i64 fr], .agg #[.slice B m d, .int .i64 rt, .int .i64 fr]] w (Yes9 w true) := by
  have h := refSame9_any A n c ns rt fr B m d ns rt fr w h1 h2 hn
  rwa [decide_eq_true rfl] at h
end
theorem laidP_len (p : Trp) : (laidP p).1.length = p.1.length := laid_len _ _ _
theorem ins_len (p : Trp) (k q : Int) : (insT p k q).1.1.length = p.1.length := by
  unfold insT
  split; rfl; split; rfl; split; rfl
  rw [laidP_len]; simp [putIn]
theorem del_len (p : Trp) (k : Int) : (delT p k).1.1.length = p.1.length := by
  unfold delT
  split; rfl; split; rfl; split; rfl
  rw [laidP_len]; simp [takeOut]
theorem hang_len (p : Trp) (k h t : Int) : (hangT p k h t).1.1.length = p.1.length := by
  unfold hangT
  split; rfl; split; rfl; simp
theorem keysT_len (p : Trp) : (keysT p).length ≤ p.1.length := by
  unfold keysT
  split
  · rw [List.length_map]; exact sortK_len
  · simp
end Go.Proofs.Ytfgfohomgomidaa
