/- Layer 12's contracts in the shapes that the statements' walks want; no condition but those in each theorem. -/
import Derived.Test.YtehpfpphpffniaaTimO
namespace Go.Proofs.Ytehpfpphpffniaa
set_option linter.unusedVariables false
set_option linter.unusedSimpArgs false
open Go.RowKit
section
variable {w : World} {A : Option Addr} {n c : Nat} {h : List Tm}
theorem pushAs12 (x0 x1 : Int) (hx : Tms w A n c h) (hn : n ≤ 16384) {l : List Tm} {er : Int} (he : pushH h (x0, x1) = (l, er)) :
    Calls Try.prog 9 #[.slice A n c, .agg #[.int .i64 x0, .int .i64 x1]] w (HW w l er) := by
  have := tmPush_any A n c h w x0 x1 hx hn
  rwa [he] at this
theorem popAs12 (hx : Tms w A n c h) (hn : n ≤ 16384) {l : List Tm} {x0 x1 er : Int} (he : popH h = (l, (x0, x1), er)) :
    Calls Try.prog 11 #[.slice A n c] w (PW w l x0 x1 er) := by
  have := tmPop_any A n c h w hx hn
  rwa [he] at this
theorem dropAs12 (k : Int) (hx : Tms w A n c h) (hn : n ≤ 16384) {l : List Tm} {er : Int} (he : dropH h k = (l, er)) :
    Calls Try.prog 13 #[.slice A n c, .int .i64 k] w (HW w l er) := by
  have := tmDrop_any A n c h w k hx hn
  rwa [he] at this
theorem dueAs12 (now : Int) (hx : Tms w A n c h) (hn : n ≤ 16384) {l : List Tm} {t : List Int} {er : Int} (he : dueH h now = (l, t, er)) :
    Calls Try.prog 18 #[.slice A n c, .int .i64 now] w (DW w l t er) := by
  have := tmDue_any A n c h w now hx hn
  rwa [he] at this
theorem sortAs12 (hx : Tms w A n c h) (hn : n ≤ 16384) {l : List Tm} (he : sortH h = l) :
    Calls Try.prog 21 #[.slice A n c] w (SW w l) := he ▸ tmSorted_any A n c h w hx hn
theorem rightAs12 (hx : Tms w A n c h) (hn : n ≤ 16384) {b : Bool} (he : rightH h = b) :
    Calls Try.prog 16 #[.slice A n c] w (YesT w b) := he ▸ tmRight_any A n c h w hx hn
theorem sameAs12 {B : Option Addr} {d : Nat} {g : List Tm} {m : Nat} (hx : Tms w A n c h) (hy : Tms w B m d g) (hn : n ≤ 16384) (he : h = g) :
    Calls Try.prog 15 #[.slice A n c, .slice B m d] w (YesT w true) := by
  have hm : m ≤ 16384 := by have h1 := hx.len; have h2 := hy.len; rw [he] at h1; omega
  have := refSame12_any A n c h B m d g w hx hy hn hm
  rwa [decide_eq_true he] at this
theorem nil12 (w : World) (A : Option Addr) (c : Nat) : Tms w A 0 c [] := Es.nil _ _ _ _
end
theorem wio_len12 (h : List Tm) (i : Nat) : (wioT h i).length ≤ h.length := by
  unfold wioT
  split
  · simp
  · rw [upT_len, downT_len]; simp
theorem push_len12 (h : List Tm) (x : Tm) : (pushH h x).1.length ≤ h.length + 1 := by
  unfold pushH; split; exact Nat.le_succ _; split; exact Nat.le_succ _; split; exact Nat.le_succ _; simp [upT_len]
theorem pop_len12 (h : List Tm) : (popH h).1.length ≤ h.length := by
  unfold popH; split; exact Nat.le_refl _; split; exact Nat.le_refl _; exact wio_len12 _ _
theorem drop_len12 (h : List Tm) (k : Int) : (dropH h k).1.length ≤ h.length := by
  unfold dropH; split; exact Nat.le_refl _; split; exact Nat.le_refl _; exact wio_len12 _ _
theorem dueF_len12 (now : Int) : ∀ (f : Nat) (h : List Tm) (out : List Int), (dueF now f h out).1.length ≤ h.length
  | 0, _, _ => Nat.le_refl _
  | f + 1, h, out => by
    unfold dueF
    split
    · exact Nat.le_trans (dueF_len12 now f _ _) (pop_len12 h)
    · exact Nat.le_refl _
theorem due_len12 (h : List Tm) (now : Int) : (dueH h now).1.length ≤ h.length := by
  unfold dueH; split; exact Nat.le_refl _; exact dueF_len12 now _ _ _
theorem tm_eql12 (x0 x1 : Int) (W : World) : (binOp .eql 24 (.agg #[.int .i64 x0, .int .i64 x1]) (.agg #[.int .i64 x0, .int .i64 x1])).run Try.prog W = .ok (.bool true) W := by
  go_simp
theorem least12 {h : List Tm} (hr : Rt h) (hn : h ≠ []) : (wioT h 0).length + 1 = h.length ∧ rightH (wioT h 0) = true ∧ sortH h = tmAt h 0 :: sortH (wioT h 0) ∧ (sortH h).length = h.length ∧ ∀ i : Nat, i < (wioT h 0).length → befT (tmAt h 0) (tmAt (wioT h 0) i) := by
  have hl : 0 < h.length := List.length_pos_iff.2 hn
  obtain ⟨w1, w2, w3⟩ := wio_rt hr hl
  refine ⟨by omega, rt_iff.2 w1, sort_top hr hn, (sort_ok hr).2.1, fun i hi => ?_⟩
  obtain ⟨h1, h2⟩ := (w3 _).1 (tmAt_mem hi)
  exact top_bef hr h1 h2
theorem push_err12 {h : List Tm} {x : Tm} (he : (pushH h x).2 ≠ 0) : (pushH h x).1 = h := by
  unfold pushH at he ⊢
  split
  · rfl
  · split
    · rfl
    · split
      · rfl
      · rename_i h1 h2 h3
        rw [if_neg h1, if_neg h2, if_neg h3] at he
        exact absurd rfl he
theorem place_ge12 {l : List Tm} {k : Int} (h : ∃ y ∈ l, y.2 = k) : 0 ≤ placeH l k := by
  obtain ⟨y, h1, h2⟩ := h
  refine Classical.byContradiction fun hc => ?_
  exact place_none.1 (by omega) y h1 h2
end Go.Proofs.Ytehpfpphpffniaa
