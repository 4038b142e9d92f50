/- Timers as cells; what the document's own Before, Copy, Place and Same of layer 12 answer; for lists of up to 16384. -/
import Derived.Test.YtehpfpphpffniaaTimN
import Derived.Test.YtehpfpphpffniaaFr
namespace Go.Proofs.Ytehpfpphpffniaa
set_option linter.unusedVariables false
set_option linter.unusedSimpArgs false
open Go.RowKit
/-- timers, as cells. -/
def tmC : List Tm → List Value
  | [] => []
  | x :: l => .int .i64 x.1 :: .int .i64 x.2 :: tmC l
theorem tmC_len : ∀ l, (tmC l).length = l.length * 2
  | [] => rfl
  | x :: l => by simp [tmC, tmC_len l]; omega
theorem tmC_one : ∀ l, ∀ u ∈ tmC l, u.oneCell' = true
  | [], u, h => by simp [tmC] at h
  | x :: l, u, h => by
    simp only [tmC, List.mem_cons] at h
    rcases h with rfl | rfl | h
    · rfl
    · rfl
    · exact tmC_one l u h
theorem tmC_app : ∀ a b, tmC (a ++ b) = tmC a ++ tmC b
  | [], b => rfl
  | x :: a, b => by simp [tmC, tmC_app a b]
theorem tmAt_cons (x : Tm) (l : List Tm) (i : Nat) : tmAt (x :: l) (i + 1) = tmAt l i := rfl
theorem tmC_at : ∀ (l : List Tm) (i : Nat), i < l.length → (tmC l)[i * 2]? = some (.int .i64 (tmAt l i).1) ∧ (tmC l)[i * 2 + 1]? = some (.int .i64 (tmAt l i).2)
  | [], i, h => by simp at h
  | x :: l, 0, _ => ⟨rfl, rfl⟩
  | x :: l, i + 1, h => by
    have := tmC_at l i (by simpa using h)
    rw [tmAt_cons, show (i + 1) * 2 = i * 2 + 2 by omega]
    exact this
theorem tmC_set : ∀ (l : List Tm) (i : Nat) (x : Tm), i < l.length → ((tmC l).set (i * 2) (.int .i64 x.1)).set (i * 2 + 1) (.int .i64 x.2) = tmC (l.set i x)
  | [], i, x, h => by simp at h
  | y :: l, 0, x, _ => rfl
  | y :: l, i + 1, x, h => by
    have := tmC_set l i x (by simpa using h)
    rw [show (i + 1) * 2 = i * 2 + 1 + 1 by omega]
    show .int .i64 y.1 :: .int .i64 y.2 :: ((tmC l).set (i * 2) (.int .i64 x.1)).set (i * 2 + 1) (.int .i64 x.2) = _
    rw [this]; rfl
/-- the slice '.slice A n c' reads as these timers. -/
def Tms (w : World) (A : Option Addr) (n c : Nat) (l : List Tm) : Prop := Es w A n c 2 (tmC l)
theorem Tms.len {w : World} {A : Option Addr} {n c : Nat} {l : List Tm} (h : Tms w A n c l) : l.length = n := by
  have := Es.len h; rw [tmC_len] at this; omega
theorem Tms.look {w : World} {A : Option Addr} {n c : Nat} {l : List Tm} (h : Tms w A n c l) (i : Nat) (hi : i < n) :
    ∃ b off, A = some ⟨b, off, none⟩ ∧ b < w.heap.size ∧ w.cell? ⟨b, off + i * 2, none⟩ = some (.int .i64 (tmAt l i).1) ∧ w.cell? ⟨b, off + i * 2 + 1, none⟩ = some (.int .i64 (tmAt l i).2) := by
  obtain ⟨b, off, e, hb, hc⟩ := Es.mem h (by omega)
  obtain ⟨h0, h1⟩ := tmC_at l i (by have := h.len; omega)
  exact ⟨b, off, e, hb, hc _ _ h0, by have := hc _ _ h1; rwa [← Nat.add_assoc] at this⟩
theorem tms_own {w : World} {base n d : Nat} {B : Option Addr} {l : List Tm} (h : w.ownsRow base 24 2 (.slice B n d) n (tmC l)) : Tms w B n d l := by
  obtain ⟨B', d', he, hrs⟩ := Es.of_own h (tmC_one _)
  injection he with he1 he2 he3; subst he1; subst he3; exact hrs
theorem infoTm : (Try.prog.info? 24).map (fun i => (i.zero, i.size, i.bytes)) = some (some (.agg #[.int .i64 0, .int .i64 0]), 2, 16) := by kernel_rfl
theorem tm_neq (x y : Tm) (W : World) : (binOp .neq 24 (.agg #[.int .i64 x.1, .int .i64 x.2]) (.agg #[.int .i64 y.1, .int .i64 y.2])).run Try.prog W = .ok (.bool (decide (x ≠ y))) W := by
  obtain ⟨a1, a2⟩ := x
  obtain ⟨b1, b2⟩ := y
  have hd : decide (((a1, a2) : Tm) ≠ (b1, b2)) = !(decide (a1 = b1) && decide (a2 = b2)) := by
    by_cases h1 : a1 = b1 <;> by_cases h2 : a2 = b2 <;> simp [h1, h2]
  rw [hd]
  go_simp
  (repeat' split) <;> simp_all
/-- a yes or a no. -/
def YesT (w : World) (b : Bool) (e : Ending) (w' : World) : Prop := e = .returned (.bool b) ∧ Below w.heap.size w w'
/-- timers whose row is the call's own. -/
def OwnT (w : World) (l : List Tm) (e : Ending) (w' : World) : Prop :=
  ∃ B n d, e = .returned (.slice B n d) ∧ w'.ownsRow w.heap.size 24 2 (.slice B n d) n (tmC l) ∧ Below w.heap.size w w'
set_option maxRecDepth 100000 in
set_option maxHeartbeats 4000000 in
theorem refBefore_any (a1 a2 b1 b2 : Int) (w : World) :
    Calls Try.prog 23 #[.agg #[.int .i64 a1, .int .i64 a2], .agg #[.int .i64 b1, .int .i64 b2]] w (YesT w (decide (befT (a1, a2) (b1, b2)))) := by
  obtain ⟨R, hR⟩ : ∃ R, decide (befT (a1, a2) (b1, b2)) = R := ⟨_, rfl⟩
  rw [hR]
  obtain ⟨v1, hv1⟩ : ∃ W, w.alloc (.cells #[.int .i64 a1, .int .i64 a2] 24) = W := ⟨_, rfl⟩
  have fr1 : Fr w v1 w.heap.size [.cells #[.int .i64 a1, .int .i64 a2] 24] := hv1 ▸ Fr.first w _
  have z1 : v1.heap.size = w.heap.size + 1 := by rw [← hv1, Fr.size1]
  obtain ⟨v2, hv2⟩ : ∃ W, v1.alloc (.cells #[.int .i64 b1, .int .i64 b2] 24) = W := ⟨_, rfl⟩
  have fr2 : Fr w v2 w.heap.size [.cells #[.int .i64 a1, .int .i64 a2] 24, .cells #[.int .i64 b1, .int .i64 b2] 24] := hv2 ▸ fr1.more z1 _
  have z2 : v2.heap.size = w.heap.size + 2 := by rw [← hv2, Fr.size1, z1]
  generalize hq : w.heap.size = q at *
  have FR := Lib.hid fr2
  clear fr1 fr2
  by_cases h1 : a1 < b1
  · have k1 : decide (a1 < b1) = true := by simpa using h1
    have HE := Lib.hid (show R = true from by rw [← hR]; exact decide_eq_true (Or.inl h1))
    clear h1 hR
    have c00 : v2.cell? ⟨q, 0, none⟩ = some (.int .i64 a1) := FR.out.cell 0 0 rfl rfl rfl
    have c01 : v2.cell? ⟨q, 1, none⟩ = some (.int .i64 a2) := FR.out.cell 0 1 rfl rfl rfl
    have c10 : v2.cell? ⟨q + 1, 0, none⟩ = some (.int .i64 b1) := FR.out.cell 1 0 rfl rfl rfl
    have c11 : v2.cell? ⟨q + 1, 1, none⟩ = some (.int .i64 b2) := FR.out.cell 1 1 rfl rfl rfl
    go_enter Try.func23, Try.ntmps23
    go_wp2
    go_ret
    rw [HE.out]
    exact ⟨rfl, FR.out.out⟩
  · have k1 : decide (a1 < b1) = false := by simpa using h1
    by_cases h2 : a1 = b1
    · have k2 : (a1 == b1) = true := by simpa using h2
      by_cases h3 : a2 < b2
      · have k3 : decide (a2 < b2) = true := by simpa using h3
        have HE := Lib.hid (show R = true from by rw [← hR]; exact decide_eq_true (Or.inr ⟨h2, h3⟩))
        clear h1 h2 h3 hR
        have c00 : v2.cell? ⟨q, 0, none⟩ = some (.int .i64 a1) := FR.out.cell 0 0 rfl rfl rfl
        have c01 : v2.cell? ⟨q, 1, none⟩ = some (.int .i64 a2) := FR.out.cell 0 1 rfl rfl rfl
        have c10 : v2.cell? ⟨q + 1, 0, none⟩ = some (.int .i64 b1) := FR.out.cell 1 0 rfl rfl rfl
        have c11 : v2.cell? ⟨q + 1, 1, none⟩ = some (.int .i64 b2) := FR.out.cell 1 1 rfl rfl rfl
        go_enter Try.func23, Try.ntmps23
        go_wp2
        go_ret
        rw [HE.out]
        exact ⟨rfl, FR.out.out⟩
      · have k3 : decide (a2 < b2) = false := by simpa using h3
        have HE := Lib.hid (show R = false from by rw [← hR]; exact decide_eq_false (fun h => h.elim h1 (fun h4 => h3 h4.2)))
        clear h1 h2 h3 hR
        have c00 : v2.cell? ⟨q, 0, none⟩ = some (.int .i64 a1) := FR.out.cell 0 0 rfl rfl rfl
        have c01 : v2.cell? ⟨q, 1, none⟩ = some (.int .i64 a2) := FR.out.cell 0 1 rfl rfl rfl
        have c10 : v2.cell? ⟨q + 1, 0, none⟩ = some (.int .i64 b1) := FR.out.cell 1 0 rfl rfl rfl
        have c11 : v2.cell? ⟨q + 1, 1, none⟩ = some (.int .i64 b2) := FR.out.cell 1 1 rfl rfl rfl
        go_enter Try.func23, Try.ntmps23
        go_wp2
        go_ret
        rw [HE.out]
        exact ⟨rfl, FR.out.out⟩
    · have k2 : (a1 == b1) = false := by simpa using h2
      have HE := Lib.hid (show R = false from by rw [← hR]; exact decide_eq_false (fun h => h.elim h1 (fun h4 => h2 h4.1)))
      clear h1 h2 hR
      have c00 : v2.cell? ⟨q, 0, none⟩ = some (.int .i64 a1) := FR.out.cell 0 0 rfl rfl rfl
      have c01 : v2.cell? ⟨q, 1, none⟩ = some (.int .i64 a2) := FR.out.cell 0 1 rfl rfl rfl
      have c10 : v2.cell? ⟨q + 1, 0, none⟩ = some (.int .i64 b1) := FR.out.cell 1 0 rfl rfl rfl
      have c11 : v2.cell? ⟨q + 1, 1, none⟩ = some (.int .i64 b2) := FR.out.cell 1 1 rfl rfl rfl
      go_enter Try.func23, Try.ntmps23
      go_wp2
      go_ret
      rw [HE.out]
      exact ⟨rfl, FR.out.out⟩
set_option maxRecDepth 100000 in
set_option maxHeartbeats 4000000 in
theorem refCopy12_any (A : Option Addr) (n c : Nat) (h : List Tm) (w : World) (hx : Tms w A n c h) (hn : n ≤ 16384) :
    Calls Try.prog 8 #[.slice A n c] w (OwnT w h) := by
  obtain ⟨i5, hi5, hz0, hz1, hz2⟩ := info_of infoTm
  have own0 : (w.alloc (.cells #[] 24)).ownsRow w.heap.size 24 2 (.slice (some ⟨w.heap.size, 0, none⟩) 0 0) 0 [] := World.ownsRow_lit w #[] 0 (Nat.le_refl _) (by unfold maxLen; omega) (by simp)
  obtain ⟨v, w3, hap, hown, hgr, hvk⟩ := eapp_own (P := Try.prog) (w.alloc (.cells #[] 24)) w.heap.size 22 22 24 i5 _ 2 16 Try.underlying22 hi5 hz0 hz1 hz2 rfl (by decide) _ 0 _ own0 A n c _ (Es.alloc hx _) (by unfold maxLen; omega) (by omega) (by simp)
  rw [Nat.zero_add, List.nil_append] at hown
  have hb3 : Below w.heap.size w w3 := ((Below.refl _ _).alloc (Nat.le_refl _) _).grown hgr (by simp) (by simp [Value.ownBlock])
  obtain ⟨B, d, rfl, _⟩ := (show ∃ B d, v = .slice B n d ∧ True from by obtain ⟨B, d, h, _⟩ := Es.of_own hown (tmC_one _); exact ⟨B, d, h, trivial⟩)
  have OW := Lib.hid hown; have HB3 := Lib.hid hb3
  clear hown hgr hb3 own0 hi5 hz0 hz1 hz2 hvk hx
  go_enter Try.func8, Try.ntmps8
  go_wp2_with (at_builtin; refine eapp_run (by rfl) rfl rfl rfl hap ?_)
  go_ret
  exact ⟨B, n, d, rfl, OW.out, HB3.out⟩
set_option maxRecDepth 100000 in
set_option maxHeartbeats 4000000 in
theorem refPlace_any (A : Option Addr) (n c : Nat) (h : List Tm) (k : Int) (w : World) (hx : Tms w A n c h) (hn : n ≤ 16384) :
    Calls Try.prog 24 #[.slice A n c, .int .i64 k] w (fun e w' => e = .returned (.int .i64 (placeH h k)) ∧ w' = w) := by
  have hlen : h.length = n := hx.len
  have RX := Lib.hid hx
  have HL := Lib.hid hlen
  obtain ⟨R, hR⟩ : ∃ R, placeH h k = R := ⟨_, rfl⟩
  rw [hR]
  clear hx hlen
  go_enter Try.func24, Try.ntmps24
  go_wp2
  go_loopw [5] (fun iv wr => ∃ (i : Nat), iv = .int .i64 (i : Int) ∧ i ≤ n ∧ Hid (plT k (h.drop i) i = R) ∧ wr = w) (fun iv _ => n - (intOf iv).toNat)
  case atStart => exact ⟨0, rfl, by omega, hR, by first | trivial | rfl⟩
  case round =>
    clear hR
    obtain ⟨i, rfl, hi, HNI, hwr⟩ := hrel
    subst hwr
    by_cases hlt : i < n
    · have c1 : decide ((i : Int) < (n : Int)) = true := by simpa using hlt
      have i0 : (0 : Int) ≤ (i : Int) := by omega
      have i1 : (i : Int) < (n : Int) := by omega
      obtain ⟨b, off, rfl, _, k0, k1⟩ := RX.out.look i hlt
      have hdr : h.drop i = tmAt h i :: h.drop (i + 1) := by rw [tmAt_get (by have := HL.out; omega)]; exact List.drop_eq_getElem_cons (by have := HL.out; omega)
      have hpl := HNI.out
      rw [hdr] at hpl
      unfold plT at hpl
      obtain ⟨⟨tw, tk⟩, htk⟩ : ∃ x, tmAt h i = x := ⟨_, rfl⟩
      rw [htk] at k0 k1 hpl
      simp only at k0 k1 hpl
      clear htk hdr HNI
      by_cases h2 : tk = k
      · have c2 : (tk == k) = true := by simp [h2]
        rw [if_pos h2] at hpl
        have HE := Lib.hid hpl
        clear hpl h2
        go_wp2
        go_ret
        rw [← HE.out]
        exact ⟨rfl, rfl⟩
      · have c2 : (tk == k) = false := by simp [h2]
        rw [if_neg h2] at hpl
        have HE := Lib.hid hpl
        clear hpl h2
        go_wp2
        go_roundw
        case rel => exact ⟨i + 1, by go_num, by omega, HE.out, by first | trivial | rfl⟩
        case measure => simp [intOf]; omega
    · have en : i = n := by omega
      have c1 : decide ((i : Int) < (n : Int)) = false := by simp; omega
      have c1n : decide (i < n) = false := by simp; omega
      have HE := Lib.hid (show R = -1 from by rw [← HNI.out, List.drop_eq_nil_of_le (by have := HL.out; omega)]; rfl)
      clear en hlt hi HNI
      go_wp2
      go_ret
      rw [HE.out]
      exact ⟨rfl, rfl⟩
set_option maxRecDepth 100000 in
set_option maxHeartbeats 4000000 in
theorem refSame12_any (A : Option Addr) (n c : Nat) (h : List Tm) (B : Option Addr) (m d : Nat) (g : List Tm) (w : World) (hx : Tms w A n c h) (hy : Tms w B m d g) (hn : n ≤ 16384) (hm : m ≤ 16384) :
    Calls Try.prog 15 #[.slice A n c, .slice B m d] w (YesT w (decide (h = g))) := by
  have hlen : h.length = n := hx.len
  have hlen2 : g.length = m := hy.len
  have RX := Lib.hid hx; have RY := Lib.hid hy
  have HL := Lib.hid hlen; have HL2 := Lib.hid hlen2
  obtain ⟨R, hR⟩ : ∃ R, decide (h = g) = R := ⟨_, rfl⟩
  rw [hR]
  clear hx hy
  by_cases hnm : n = m
  · subst hnm
    have c2 : ((n : Int) != (n : Int)) = false := by simp
    have c2n : (n != n) = false := by simp
    clear hlen hlen2
    go_enter Try.func15, Try.ntmps15
    go_wp2
    go_loopw [5] (fun iv wr => ∃ (i : Nat), iv = .int .i64 (i : Int) ∧ i ≤ n ∧ Hid (∀ j : Nat, j < i → tmAt h j = tmAt g j) ∧ Hid (Below w.heap.size w wr)) (fun iv _ => n - (intOf iv).toNat)
    case atStart => exact ⟨0, rfl, by omega, fun j hj => by omega, Below.refl _ _⟩
    case round =>
      obtain ⟨i, rfl, hi, HEQ, HB⟩ := hrel
      by_cases hlt : i < n
      · have c1 : decide ((i : Int) < (n : Int)) = true := by simpa using hlt
        have i0 : (0 : Int) ≤ (i : Int) := by omega
        have i1 : (i : Int) < (n : Int) := by omega
        obtain ⟨b, off, rfl, _, k0, k1⟩ := Tms.look (Es.below RX.out HB.out) i hlt
        obtain ⟨b2, off2, rfl, _, g0, g1⟩ := Tms.look (Es.below RY.out HB.out) i hlt
        have hne := tm_neq (tmAt h i) (tmAt g i)
        by_cases he : tmAt h i = tmAt g i
        · rw [decide_eq_false (fun h5 => h5 he)] at hne
          have HQ := Lib.hid (show ∀ j : Nat, j < i + 1 → tmAt h j = tmAt g j from fun j hj => by
            rcases Nat.lt_or_ge j i with h8 | h8
            · exact HEQ.out j h8
            · have : j = i := by omega
              subst this; exact he)
          clear he HEQ
          generalize tmAt h i = r at *
          generalize tmAt g i = r2 at *
          go_wp2
          go_quiet (fail)
          go_wp2
          go_roundw
          case rel => exact ⟨i + 1, by go_num, by omega, HQ.out, bel_drewN HB.out _⟩
          case measure => simp [intOf]; omega
        · rw [decide_eq_true he] at hne
          have HE := Lib.hid (show R = false from by rw [← hR]; exact decide_eq_false (fun h5 => he (by rw [h5])))
          clear he HEQ hR
          generalize tmAt h i = r at *
          generalize tmAt g i = r2 at *
          go_wp2
          go_quiet (fail)
          go_wp2
          go_ret
          rw [HE.out]
          exact ⟨rfl, bel_drewN HB.out _⟩
      · have en : i = n := by omega
        have c1 : decide ((i : Int) < (n : Int)) = false := by simp; omega
        have c1n : decide (i < n) = false := by simp; omega
        have HE := Lib.hid (show R = true from by rw [← hR]; exact decide_eq_true (tms_ext (by rw [HL.out, HL2.out]) (fun j hj => HEQ.out j (by have := HL.out; omega))))
        clear en hlt hi HEQ hR
        go_wp2
        go_ret
        rw [HE.out]
        exact ⟨rfl, HB.out⟩
  · have c2 : ((n : Int) != (m : Int)) = true := by simp; omega
    have c2n : (n != m) = true := by simp; omega
    have HE := Lib.hid (show R = false from by rw [← hR]; exact decide_eq_false (fun h5 => hnm (by rw [← hlen, ← hlen2, h5])))
    clear hlen hlen2 hnm hR
    go_enter Try.func15, Try.ntmps15
    go_wp2
    go_ret
    rw [HE.out]
    exact ⟨rfl, Below.refl _ _⟩
end Go.Proofs.Ytehpfpphpffniaa
