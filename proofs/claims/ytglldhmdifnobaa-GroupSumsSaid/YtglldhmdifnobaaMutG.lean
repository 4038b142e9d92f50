/- Layer 15: what the landed mutex's steps of unlocking, slices.Clone of waiters and of claims, and step.Own answer; for lists of up to 16384. -/
import Derived.Test.YtglldhmdifnobaaMutF
import Derived.Test.YtglldhmdifnobaaRo
namespace Go.Proofs.Ytglldhmdifnobaa
set_option linter.unusedVariables false
set_option linter.unusedSimpArgs false
open Go.RowKit
theorem dec_zero {x : Int} (h : IntKind.i64.wrap x = x) : (IntKind.i64.wrap (x - 1) == 0) = decide (x = 1) := by
  have h2 : IntKind.i64.wrap (x - 1) = 0 ↔ x = 1 := by rw [IntKind.wrap_i64] at h ⊢; omega
  by_cases h1 : x = 1
  · rw [decide_eq_true h1, h2.2 h1]; rfl
  · rw [decide_eq_false h1]; simpa using fun e => h1 (h2.1 e)
theorem dec_bit {x : Int} (h : hasBit x 0) : decide (hasBit (IntKind.i64.wrap (x - 1)) 2) = decide (hasBit x 2) := decide_eq_decide.2 (by rw [bit_wrap2, hasBit2, hasBit2]; rw [hasBit0] at h; omega)
theorem infoCl : (Try.prog.info? 54).map (fun i => (i.zero, i.size, i.bytes)) = some (some (.agg #[.int .i64 0, .int .i64 0]), 2, 16) := by kernel_rfl
/-- a row of the call's own, with the same cells; of none, none. -/
def NewRow (T : TypeId) (w : World) (A : Option Addr) (n : Nat) (cs : List Value) (e : Ending) (w' : World) : Prop :=
  ∃ B d, e = .returned (.slice B n d) ∧ w'.ownsRow w.heap.size T 2 (.slice B n d) n cs ∧ Below w.heap.size w w' ∧ (A = none → B = none ∧ d = 0)
set_option maxHeartbeats 1000000 in
theorem cloneW_any (A : Option Addr) (n c : Nat) (ws : List Wt) (w : World) (hx : Wts w A n c ws) (hn : n ≤ 16384) :
    Calls Try.prog 23 #[.slice A n c] w (NewRow 58 w A n (wtC ws)) := by
  cases A with
  | none =>
    have h0 : n = 0 := by
      rcases Nat.eq_zero_or_pos n with h0 | h0
      · exact h0
      · obtain ⟨b, off, e, _⟩ := Es.mem hx (by omega); cases e
    subst h0
    obtain rfl : ws = [] := List.eq_nil_of_length_eq_zero hx.len
    have hq : ∀ W : World, (binOp .eql 24 (.slice none 0 c) (.slice none 0 0)).run Try.prog W = .ok (.bool true) W := fun _ => by kernel_rfl
    go_enter Try.func23, Try.ntmps23
    go_wp2
    go_ret
    exact ⟨none, 0, rfl, World.ownsRow_nil _ _ _ _, Below.refl _ _, fun _ => ⟨rfl, rfl⟩⟩
  | some ad =>
    obtain ⟨i5, hi5, hz0, hz1, hz2⟩ := info_of infoWt
    have hown0 : (w.alloc (.cells #[] 58)).ownsRow w.heap.size 58 2 (.slice (some ⟨w.heap.size, 0, none⟩) 0 0) 0 [] := World.ownsRow_lit w #[] 0 (Nat.le_refl _) (by unfold maxLen; omega) (by simp)
    obtain ⟨v, w3, hap, hown, hgr, hvk⟩ := eapp_own (P := Try.prog) (w.alloc (.cells #[] 58)) w.heap.size 24 24 58 i5 _ 2 16 Try.underlying24 hi5 hz0 hz1 hz2 rfl (by decide) _ 0 _ hown0 (some ad) n c _ (Es.alloc hx _) (by unfold maxLen; omega) (by omega) (by simp)
    rw [Nat.zero_add, List.nil_append] at hown
    have hb3 : Below w.heap.size w w3 := ((Below.refl _ _).alloc (Nat.le_refl _) _).grown hgr (by simp) (by simp [Value.ownBlock])
    obtain ⟨B, d, rfl⟩ := (show ∃ B d, v = .slice B n d from by obtain ⟨B, d, h, _⟩ := Es.of_own hown (wtC_one _); exact ⟨B, d, h⟩)
    have HO := Lib.hid hown; have HB3 := Lib.hid hb3
    have hq : ∀ W : World, (binOp .eql 24 (.slice (some ad) n c) (.slice none 0 0)).run Try.prog W = .ok (.bool false) W := fun _ => by kernel_rfl
    clear hown hgr hb3 hown0 hx hi5 hz0 hz1 hz2 hvk
    go_enter Try.func23, Try.ntmps23
    go_wp2_with (at_builtin; refine eapp_run (by rfl) rfl rfl rfl hap ?_)
    go_ret
    exact ⟨_, _, rfl, HO.out, HB3.out, fun h => nomatch h⟩
set_option maxHeartbeats 1000000 in
theorem cloneC_any (A : Option Addr) (n c : Nat) (ws : List Cl) (w : World) (hx : Cls w A n c ws) (hn : n ≤ 16384) :
    Calls Try.prog 24 #[.slice A n c] w (NewRow 54 w A n (clC ws)) := by
  cases A with
  | none =>
    have h0 : n = 0 := by
      rcases Nat.eq_zero_or_pos n with h0 | h0
      · exact h0
      · obtain ⟨b, off, e, _⟩ := Es.mem hx (by omega); cases e
    subst h0
    obtain rfl : ws = [] := List.eq_nil_of_length_eq_zero hx.len
    have hq : ∀ W : World, (binOp .eql 27 (.slice none 0 c) (.slice none 0 0)).run Try.prog W = .ok (.bool true) W := fun _ => by kernel_rfl
    go_enter Try.func24, Try.ntmps24
    go_wp2
    go_ret
    exact ⟨none, 0, rfl, World.ownsRow_nil _ _ _ _, Below.refl _ _, fun _ => ⟨rfl, rfl⟩⟩
  | some ad =>
    obtain ⟨i5, hi5, hz0, hz1, hz2⟩ := info_of infoCl
    have hown0 : (w.alloc (.cells #[] 54)).ownsRow w.heap.size 54 2 (.slice (some ⟨w.heap.size, 0, none⟩) 0 0) 0 [] := World.ownsRow_lit w #[] 0 (Nat.le_refl _) (by unfold maxLen; omega) (by simp)
    obtain ⟨v, w3, hap, hown, hgr, hvk⟩ := eapp_own (P := Try.prog) (w.alloc (.cells #[] 54)) w.heap.size 27 27 54 i5 _ 2 16 Try.underlying27 hi5 hz0 hz1 hz2 rfl (by decide) _ 0 _ hown0 (some ad) n c _ (Es.alloc hx _) (by unfold maxLen; omega) (by omega) (by simp)
    rw [Nat.zero_add, List.nil_append] at hown
    have hb3 : Below w.heap.size w w3 := ((Below.refl _ _).alloc (Nat.le_refl _) _).grown hgr (by simp) (by simp [Value.ownBlock])
    obtain ⟨B, d, rfl⟩ := (show ∃ B d, v = .slice B n d from by obtain ⟨B, d, h, _⟩ := Es.of_own hown (clC_one _); exact ⟨B, d, h⟩)
    have HO := Lib.hid hown; have HB3 := Lib.hid hb3
    have hq : ∀ W : World, (binOp .eql 27 (.slice (some ad) n c) (.slice none 0 0)).run Try.prog W = .ok (.bool false) W := fun _ => by kernel_rfl
    clear hown hgr hb3 hown0 hx hi5 hz0 hz1 hz2 hvk
    go_enter Try.func24, Try.ntmps24
    go_wp2_with (at_builtin; refine eapp_run (by rfl) rfl rfl rfl hap ?_)
    go_ret
    exact ⟨_, _, rfl, HO.out, HB3.out, fun h => nomatch h⟩
/-- an object whose lists are the call's own. -/
def CopO (w : World) (kd o0 o1 o2 o3 o4 o5 wa to : Int) (A : Option Addr) (n : Nat) (B : Option Addr) (m : Nat) (nl : List Wt) (ll : List Cl) (e : Ending) (w' : World) : Prop :=
  ∃ A2 c2 B2 d2, e = .returned (obV kd o0 o1 o2 o3 o4 o5 wa to A2 n c2 B2 m d2) ∧ w'.ownsRow w.heap.size 58 2 (.slice A2 n c2) n (wtC nl) ∧ w'.ownsRow w.heap.size 54 2 (.slice B2 m d2) m (clC ll) ∧ Below w.heap.size w w' ∧ (A = none → A2 = none ∧ c2 = 0) ∧ (B = none → B2 = none ∧ d2 = 0)
theorem own_setCells {base b k n : Nat} {T T' : TypeId} {v : Value} {xs : List Value} (hT : T ≠ T') : ∀ (vs : List Value) (o : Nat) {w : World} {ys : List Value}, w.ownsRow base T k v n xs → w.heap[b]? = some (.cells ys.toArray T') → (w.setCells b o vs).ownsRow base T k v n xs
  | [], _, _, _, h, _ => h
  | u :: vs, o, w, ys, h, hs => own_setCells hT vs (o + 1) (own_set h hs hT) (blk_set (j := o) hs u)
theorem own_whole {base b k n o : Nat} {T T' : TypeId} {v : Value} {xs vs ys : List Value} {w w2 : World} (hT : T ≠ T') (h : w.ownsRow base T k v n xs) (hs : w.heap[b]? = some (.cells ys.toArray T')) (e : w.setCells b o vs = w2) : w2.ownsRow base T k v n xs := e ▸ own_setCells hT vs o h hs
set_option maxRecDepth 100000 in
set_option maxHeartbeats 16000000 in
theorem muCopied_any (kd o0 o1 o2 o3 o4 o5 wa to : Int) (A : Option Addr) (n c : Nat) (B : Option Addr) (m d : Nat) (nl : List Wt) (ll : List Cl) (w : World) (hx : Wts w A n c nl) (hy : Cls w B m d ll) (hn : n ≤ 16384) (hm : m ≤ 16384) : Calls Try.prog 15 #[.agg #[.int .i64 kd, .int .i64 o0, .int .i64 o1, .int .i64 o2, .int .i64 o3, .int .i64 o4, .int .i64 o5, .int .u32 wa, .int .u32 to, .slice A n c, .slice B m d]] w (CopO w kd o0 o1 o2 o3 o4 o5 wa to A n B m nl ll) := by
  have RX := Lib.hid hx; have RY := Lib.hid hy
  have CW := Lib.hid (fun (W : World) (h : Wts W A n c nl) => cloneW_any A n c nl W h hn)
  have CC := Lib.hid (fun (W : World) (h : Cls W B m d ll) => cloneC_any B m d ll W h hm)
  clear hx hy hn hm
  obtain ⟨v1, hv1, z1, v2, hv2, z2, F⟩ := boxes2 w (.cells #[.int .i64 kd, .int .i64 o0, .int .i64 o1, .int .i64 o2, .int .i64 o3, .int .i64 o4, .int .i64 o5, .int .u32 wa, .int .u32 to, .slice A n c, .slice B m d] 29) (.cells #[.int .i64 0, .int .i64 0, .int .i64 0, .int .i64 0, .int .i64 0, .int .i64 0, .int .i64 0, .int .u32 0, .int .u32 0, .slice none 0 0, .slice none 0 0] 29)
  generalize hq : w.heap.size = q at *
  have FR := Lib.hid F
  clear F
  go_enter Try.func15, Try.ntmps15
  have ac0 := row11 (b := q) (FR.out.at 0 rfl rfl)
  go_wp2_with fail
  refine (CW.out _ (FR.out.es RX.out)).mono ?_
  rintro e w3 ⟨A2, c2, rfl, hown, hb, hA⟩
  clear ac0
  have hsz := FR.out.sz
  simp only [List.length_set, List.length_cons, List.length_nil] at hsz
  replace FR := Lib.hid (FR.out.step hb)
  replace hown := own_base hown (show q ≤ _ by omega)
  have OW := Lib.hid hown
  have NW := Lib.hid hA
  clear hown hb hsz hA
  have bc0 := row11 (b := q) (FR.out.at 0 rfl rfl)
  have bf09 : w3.frozen? ⟨q, 9, none⟩ = false := FR.out.frozen 0 9 rfl rfl
  obtain ⟨w3p, hw3p⟩ : ∃ W, (w3.setCell ⟨q, 9, none⟩ (.slice A2 n c2)) = W := ⟨_, rfl⟩
  replace OW := Lib.hid (hw3p ▸ own_set (o := 9) (u := .slice A2 n c2) OW.out (FR.out.blk 0 _ rfl) (by decide))
  replace FR := Lib.hid (((FR.out.set 0 9 rfl rfl (.slice A2 n c2))).eqw hw3p)
  have cc0 := row11 (b := q) (FR.out.at 0 rfl rfl)
  go_wp2_with fail
  refine (CC.out _ (FR.out.es RY.out)).mono ?_
  rintro e w4 ⟨B2, d2, rfl, hown, hb, hB⟩
  clear bc0 bf09 cc0
  clear hw3p
  have hsz := FR.out.sz
  simp only [List.length_set, List.length_cons, List.length_nil] at hsz
  replace FR := Lib.hid (FR.out.step hb)
  replace OW := Lib.hid (own_below OW.out hb)
  replace hown := own_base hown (show q ≤ _ by omega)
  have OC := Lib.hid hown
  have NC := Lib.hid hB
  clear hown hb hsz hB
  have dc0 := row11 (b := q) (FR.out.at 0 rfl rfl)
  have df010 : w4.frozen? ⟨q, 10, none⟩ = false := FR.out.frozen 0 10 rfl rfl
  obtain ⟨w4p, hw4p⟩ : ∃ W, (w4.setCell ⟨q, 10, none⟩ (.slice B2 m d2)) = W := ⟨_, rfl⟩
  replace OW := Lib.hid (hw4p ▸ own_set (o := 10) (u := .slice B2 m d2) OW.out (FR.out.blk 0 _ rfl) (by decide))
  replace OC := Lib.hid (hw4p ▸ own_set (o := 10) (u := .slice B2 m d2) OC.out (FR.out.blk 0 _ rfl) (by decide))
  replace FR := Lib.hid (((FR.out.set 0 10 rfl rfl (.slice B2 m d2))).eqw hw4p)
  have ec0 := row11 (b := q) (FR.out.at 0 rfl rfl)
  have ac0 := row11 (b := q) (FR.out.at 0 rfl rfl)
  obtain ⟨mw5r, w5r, hw5r, hse, F⟩ := FR.out.put11 1 rfl (b := q + 1) rfl (.int .i64 kd) (.int .i64 o0) (.int .i64 o1) (.int .i64 o2) (.int .i64 o3) (.int .i64 o4) (.int .i64 o5) (.int .u32 wa) (.int .u32 to) (.slice A2 n c2) (.slice B2 m d2)
  replace OW := Lib.hid (own_whole (by decide) OW.out (FR.out.blk 1 _ rfl) hse)
  replace OC := Lib.hid (own_whole (by decide) OC.out (FR.out.blk 1 _ rfl) hse)
  replace FR := F
  clear F hse
  go_wp2
  refine bodyPost_ret (res_c Try.results15 (by rfl) (FR.out.load 1 rfl rfl Try.underlying29 (by kernel_rfl))) rfl ?_
  exact ⟨A2, c2, B2, d2, rfl, (by rw [hq]; exact OW.out), (by rw [hq]; exact OC.out), FR.out.out, NW.out, NC.out⟩
end Go.Proofs.Ytglldhmdifnobaa
