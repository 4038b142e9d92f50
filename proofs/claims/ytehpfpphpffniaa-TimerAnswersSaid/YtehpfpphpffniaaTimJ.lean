/- What the document's own Sorted of layer 12 answers; for lists of up to 16384. -/
import Derived.Test.YtehpfpphpffniaaTimF
namespace Go.Proofs.Ytehpfpphpffniaa
set_option linter.unusedVariables false
set_option linter.unusedSimpArgs false
open Go.RowKit
theorem ins_split {x : Tm} : ∀ {l : List Tm} {k : Nat}, k ≤ l.length → (∀ j : Nat, j < k → ¬ befT x (tmAt l j)) → (k < l.length → befT x (tmAt l k)) → insT12 x l = l.take k ++ x :: l.drop k
  | [], k, hk, _, _ => by
    have : k = 0 := by simpa using hk
    subst this; rfl
  | y :: l, 0, _, _, h => by
    have h0 : befT x y := h (by simp)
    unfold insT12
    rw [if_pos h0]; rfl
  | y :: l, k + 1, hk, hj, h => by
    have h0 : ¬ befT x y := hj 0 (by omega)
    unfold insT12
    rw [if_neg h0, ins_split (k := k) (by simpa using hk) (fun j h2 => hj (j + 1) (by omega)) (fun h2 => h (by simpa using h2))]
    rfl
theorem srt_lo {l : List Tm} (hs : Srt l) {x : Tm} {k : Nat} (hk : k < l.length) (hn : ¬ befT x (tmAt l k)) (j : Nat) (hj : j ≤ k) : ¬ befT x (tmAt l j) := by
  intro hb
  rcases Nat.lt_or_ge j k with h1 | h1
  · have h2 := (List.pairwise_iff_getElem.1 hs) j k (by omega) hk h1
    rw [← tmAt_get, ← tmAt_get] at h2
    exact hn (befT_trans hb h2)
  · have : j = k := by omega
    subst this; exact hn hb
theorem app_tms (W : World) (base : Nat) (v : Value) (n : Nat) (T : List Tm) (hown : W.ownsRow base 24 2 v n (tmC T)) (A : Option Addr) (m c : Nat) (xs : List Tm) (h : Tms W A m c xs) (hn : n + m ≤ 40000) (hb : base ≤ W.heap.size) :
    ∃ A' c' w', (Builtin.append_ #[22, 22] 22 #[v, .slice A m c]).run Try.prog W = .ok (.slice A' (n + m) c') w' ∧ w'.ownsRow base 24 2 (.slice A' (n + m) c') (n + m) (tmC (T ++ xs)) ∧ W.grownBy w' v.ownBlock := by
  obtain ⟨i5, hi5, hz0, hz1, hz2⟩ := info_of infoTm
  obtain ⟨v', w', hr, h2, h3, h4⟩ := eapp_own (P := Try.prog) W base 22 22 24 i5 _ 2 _ Try.underlying22 hi5 hz0 hz1 hz2 rfl (by decide) v n _ hown A m c _ h (by unfold maxLen; omega) (by omega) hb
  rw [← tmC_app] at h2
  obtain ⟨A', c', rfl, hb'⟩ := Es.of_own h2 (tmC_one _)
  exact ⟨A', c', w', hr, h2, h3⟩
theorem lit_tms (W : World) {base : Nat} (hb : base ≤ W.heap.size) : (W.alloc (.cells #[] 24)).ownsRow base 24 2 (.slice (some ⟨W.heap.size, 0, none⟩) 0 0) 0 (tmC []) := World.ownsRow_lit W #[] 0 hb (by unfold maxLen; omega) (by simp)
theorem tms_blk {w : World} {b : Nat} {x y : Int} (h : w.heap[b]? = some (.cells #[.int .i64 x, .int .i64 y] 24)) : Tms w (some ⟨b, 0, none⟩) 1 1 [(x, y)] := by
  refine ⟨rfl, Nat.le_refl _, tmC_one _, fun _ => ⟨b, 0, rfl, blk_lt h, fun j v hj => ?_⟩⟩
  rw [Nat.zero_add, blk_cell h]; simpa [tmC] using hj
set_option maxRecDepth 100000 in
set_option maxHeartbeats 8000000 in
theorem refSorted12_any (A : Option Addr) (n c : Nat) (h : List Tm) (w : World) (hx : Tms w A n c h) (hn : n ≤ 16384) :
    Calls Try.prog 22 #[.slice A n c] w (OwnT w (sortH h)) := by
  have hlen : h.length = n := hx.len
  have RX := Lib.hid hx
  have RT := fun (W : World) (hw : Tms W A n c h) => refRight12_any A n c h W hw hn
  have HF := Lib.hid (fun (a1 a2 b1 b2 : Int) (W : World) => refBefore_any a1 a2 b1 b2 W)
  obtain ⟨R, hR⟩ : ∃ R, sortH h = R := ⟨_, rfl⟩
  rw [hR]
  cases hr : rightH h
  · rw [hr] at RT
    replace RT := Lib.hid RT
    have HE := Lib.hid (show R = [] by rw [← hR]; unfold sortH; rw [if_neg (by rw [hr]; simp)])
    clear hr hR hlen hx
    go_enter Try.func22, Try.ntmps22
    go_wp2_with fail
    refine (RT.out w RX.out).mono ?_
    rintro e w1 ⟨rfl, hb⟩
    have HB := Lib.hid hb
    clear hb RT
    go_wp2
    go_ret
    rw [HE.out]
    exact ⟨none, 0, 0, rfl, World.ownsRow_nil _ _ _ _, HB.out⟩
  · rw [hr] at RT
    replace RT := Lib.hid RT
    have hr1 := rt_iff.1 hr
    have HE := Lib.hid (show R = sortF h n by rw [← hR]; unfold sortH; rw [if_pos hr, hlen])
    have n12 : n ≤ 12 := by have := hr1.len; omega
    have HSO := Lib.hid (fun (k : Nat) (hk : k ≤ n) => sortF_ok hr1.un k (by rw [hlen]; exact hk))
    clear hr hR hlen hx hr1
    go_enter Try.func22, Try.ntmps22
    go_wp2_with fail
    refine (RT.out w RX.out).mono ?_
    rintro e w1 ⟨rfl, hb⟩
    have HB := Lib.hid hb
    clear hb RT
    go_wp2
    go_loopw [3, 4, 5] (fun ov iv kv wr => ∃ (i o d : Nat) (B : Option Addr), ov = .slice B o d ∧ iv = .int .i64 (i : Int) ∧ i ≤ n ∧ o ≤ n ∧ Hid (wr.ownsRow w.heap.size 24 2 (.slice B o d) o (tmC (sortF h i))) ∧ Hid (Below w.heap.size w wr)) (fun _ iv _ _ => n - (intOf iv).toNat)
    case atStart => exact ⟨0, 0, 0, none, rfl, rfl, by omega, by omega, World.ownsRow_nil _ _ _ _, HB⟩
    case round =>
      clear HB
      obtain ⟨i, o, d, B, rfl, rfl, hi, ho, OW, HB⟩ := hrel
      by_cases hlt : i < n
      · have c1 : decide ((i : Int) < (n : Int)) = true := by simpa using hlt
        have i0 : (0 : Int) ≤ (i : Int) := by omega
        have i1 : (i : Int) < (n : Int) := by omega
        obtain ⟨b, off, rfl, hb0, k0, k1⟩ := RX.out.look i hlt
        obtain ⟨⟨tw, tk⟩, ht⟩ : ∃ x, tmAt h i = x := ⟨_, rfl⟩
        rw [ht] at k0 k1
        simp only at k0 k1
        have HB0 := Lib.hid hb0; have K0 := Lib.hid k0; have K1 := Lib.hid k1
        obtain ⟨s1, s2, s3⟩ := HSO.out i hi
        have hK : sortF h (i + 1) = insT12 (tw, tk) (sortF h i) := by rw [← ht]; rfl
        have hoi : o = i := by have := (own_n12 OW.out).2; rw [s2] at this; exact this
        obtain ⟨out, hout⟩ : ∃ out, sortF h i = out := ⟨_, rfl⟩
        rw [hout] at s1 s2 hK OW
        have HK := Lib.hid hK; have SR := Lib.hid s1; have HOL := Lib.hid (show out.length = o by omega)
        have HOI := Lib.hid hoi
        have IO := Lib.hid (tms_own OW.out)
        have HGB := Lib.hid HB.out.size
        clear hK s1 s2 s3 hout hoi ht hb0 k0 k1
        go_wp2
        obtain ⟨wo, hwo⟩ : ∃ x, x = wr := ⟨_, rfl⟩
        subst hwo
        go_loopw [5] (fun kv wr => ∃ (k : Nat), kv = .int .i64 (k : Int) ∧ k ≤ o ∧ Hid (∀ j : Nat, k ≤ j → j < o → befT (tw, tk) (tmAt out j)) ∧ Hid (Below wo.heap.size wo wr)) (fun kv _ => (intOf kv).toNat)
        case atStart => exact ⟨o, rfl, by omega, fun j h1 h2 => by omega, Below.refl _ _⟩
        case round =>
          obtain ⟨k, rfl, hk, HJ, hb⟩ := hrel
          have IO2 := Lib.hid (Es.below IO.out hb.out)
          have HBr := Lib.hid (HB.out.trans (hb.out.mono HB.out.size))
          by_cases h0 : 0 < k
          · have c2 : decide ((0 : Int) < (k : Int)) = true := by simpa using h0
            have c2n : decide (0 < k) = true := by simpa using h0
            obtain ⟨l, hl⟩ : ∃ l, k - 1 = l := ⟨_, rfl⟩
            have hl1 : (k : Int) - 1 = (l : Int) := by omega
            have hl2 : IntKind.i64.wrap (l : Int) = (l : Int) := by rw [IntKind.wrap_i64]; omega
            have l0 : (0 : Int) ≤ (l : Int) := by omega
            have l1 : (l : Int) < (o : Int) := by omega
            obtain ⟨b2, off2, rfl, hbq, g0, g1⟩ := (show Tms wr B o d out from IO2.out).look l (by omega)
            obtain ⟨⟨pw, pk⟩, hpt⟩ : ∃ x, tmAt out l = x := ⟨_, rfl⟩
            rw [hpt] at g0 g1
            simp only at g0 g1
            have G0 := Lib.hid g0; have G1 := Lib.hid g1; have HBQ := Lib.hid hbq
            have BF := Lib.hid (fun W => HF.out tw tk pw pk W)
            have PT := Lib.hid hpt
            clear g0 g1 hbq hpt
            by_cases hbe : befT (tw, tk) (pw, pk)
            · have HJ2 := Lib.hid (show ∀ j : Nat, l ≤ j → j < o → befT (tw, tk) (tmAt out j) from fun j h1 h2 => by
                rcases Nat.lt_or_ge j k with h3 | h3
                · obtain rfl : j = l := by omega
                  rw [PT.out]; exact hbe
                · exact HJ.out j h3 h2)
              rw [decide_eq_true hbe] at BF
              replace BF := Lib.hid BF.out
              clear hbe HJ
              go_upto_region 8 with fail
              refine wp_region_noPanic ?_
              refine wp_region_held_drew (S := (fun wv => Hid (Below wr.heap.size wr wv))) (by kernel_rfl) (Lib.hid (Below.refl _ wr).drew) (fun hS => ?_)
              refine wpAnyH_take (i := 0) (oi := ⟨some 17, .move (.tmp 5), 3, "ref.go:139", #[], none⟩) (v := ?_) rfl (by kernel_rfl) (by kernel_rfl) (by kernel_rfl) (fun _ _ _ h => h) (Or.inl ⟨by rfl, ?_⟩) hS ?_
              rotate_left
              · intro wv _; go_simp; try with_reducible rfl
              try simp only [Act.put, List.setIfInBounds_toArray, List.set_cons_zero, List.set_cons_succ]
              refine wpAnyH_take (i := 1) (oi := ⟨some 18, .binOp .gtr 3 (.tmp 17) (.const (Value.int IntKind.i64 0)) 3, 4, "ref.go:139", #[⟨0, .data⟩], none⟩) (v := ?_) rfl (by kernel_rfl) (by kernel_rfl) (by kernel_rfl) (fun _ _ _ h => h) (Or.inl ⟨by rfl, ?_⟩) hS ?_
              rotate_left
              · intro wv _; go_simp; try with_reducible rfl
              try simp only [Act.put, List.setIfInBounds_toArray, List.set_cons_zero, List.set_cons_succ]
              refine wpAnyH_take (i := 2) (oi := ⟨some 19, .move (.tmp 18), 4, "ref.go:139", #[⟨1, .data⟩], none⟩) (v := ?_) rfl (by kernel_rfl) (by kernel_rfl) (by kernel_rfl) (fun _ _ _ h => h) (Or.inl ⟨by rfl, ?_⟩) hS ?_
              rotate_left
              · intro wv _; go_simp; try with_reducible rfl
              try simp only [Act.put, List.setIfInBounds_toArray, List.set_cons_zero, List.set_cons_succ]
              refine wpAnyH_take (i := 3) (oi := ⟨some 20, .move (.tmp 0), 22, "ref.go:139", #[⟨2, .guard⟩], some (2, true)⟩) (v := ?_) rfl (by kernel_rfl) (by kernel_rfl) (by kernel_rfl) (fun _ _ _ h => h) (Or.inl ⟨by rfl, ?_⟩) hS ?_
              rotate_left
              · intro wv _; go_simp; try with_reducible rfl
              try simp only [Act.put, List.setIfInBounds_toArray, List.set_cons_zero, List.set_cons_succ]
              refine wpAnyH_take (i := 4) (oi := ⟨some 21, .move (.tmp 4), 3, "ref.go:139", #[⟨2, .guard⟩], some (2, true)⟩) (v := ?_) rfl (by kernel_rfl) (by kernel_rfl) (by kernel_rfl) (fun _ _ _ h => h) (Or.inl ⟨by rfl, ?_⟩) hS ?_
              rotate_left
              · intro wv _; go_simp; try with_reducible rfl
              try simp only [Act.put, List.setIfInBounds_toArray, List.set_cons_zero, List.set_cons_succ]
              refine wpAnyH_take (i := 5) (oi := ⟨some 22, .indexAddr 22 (.tmp 20) (.tmp 21), 0, "ref.go:139", #[⟨3, .data⟩, ⟨4, .data⟩, ⟨2, .guard⟩], some (2, true)⟩) (v := ?_) rfl (by kernel_rfl) (by kernel_rfl) (by kernel_rfl) (fun _ _ _ h => h) (Or.inl ⟨by rfl, ?_⟩) hS ?_
              rotate_left
              · intro wv _; go_simp; try with_reducible rfl
              try simp only [Act.put, List.setIfInBounds_toArray, List.set_cons_zero, List.set_cons_succ]
              refine wpAnyH_take (i := 6) (oi := ⟨some 23, .load 24 (.tmp 22), 24, "ref.go:139", #[⟨5, .data⟩, ⟨2, .guard⟩], some (2, true)⟩) (v := .agg (([.int .i64 tw, .int .i64 tk] : List Value)).toArray) rfl (by kernel_rfl) (by kernel_rfl) (by kernel_rfl) (fun _ _ _ h => h) (yieldsIf_load_mid (by rfl) _ _ (by rfl) (b) (off + i * 2) (by rfl) (([.int .i64 tw, .int .i64 tk] : List Value)) _ (fun wv hS => tm_range ((hS.out.cell (p := ⟨b, off + i * 2, none⟩) (Nat.lt_of_lt_of_le HB0.out HBr.out.size)).trans ((HBr.out.cell (p := ⟨b, off + i * 2, none⟩) HB0.out).trans K0.out)) ((hS.out.cell (p := ⟨b, off + i * 2 + 1, none⟩) (Nat.lt_of_lt_of_le HB0.out HBr.out.size)).trans ((HBr.out.cell (p := ⟨b, off + i * 2 + 1, none⟩) HB0.out).trans K1.out))) Try.underlying24 (by rfl) (by kernel_rfl)) hS ?_
              try simp only [Act.put, List.setIfInBounds_toArray, List.set_cons_zero, List.set_cons_succ]
              refine wpAnyH_take (i := 7) (oi := ⟨some 24, .move (.tmp 3), 22, "ref.go:139", #[⟨2, .guard⟩], some (2, true)⟩) (v := ?_) rfl (by kernel_rfl) (by kernel_rfl) (by kernel_rfl) (fun _ _ _ h => h) (Or.inl ⟨by rfl, ?_⟩) hS ?_
              rotate_left
              · intro wv _; go_simp; try with_reducible rfl
              try simp only [Act.put, List.setIfInBounds_toArray, List.set_cons_zero, List.set_cons_succ]
              refine wpAnyH_take (i := 8) (oi := ⟨some 25, .move (.tmp 5), 3, "ref.go:139", #[⟨2, .guard⟩], some (2, true)⟩) (v := ?_) rfl (by kernel_rfl) (by kernel_rfl) (by kernel_rfl) (fun _ _ _ h => h) (Or.inl ⟨by rfl, ?_⟩) hS ?_
              rotate_left
              · intro wv _; go_simp; try with_reducible rfl
              try simp only [Act.put, List.setIfInBounds_toArray, List.set_cons_zero, List.set_cons_succ]
              refine wpAnyH_take (i := 9) (oi := ⟨some 26, .binOp .sub 3 (.tmp 25) (.const (Value.int IntKind.i64 1)) 3, 3, "ref.go:139", #[⟨8, .data⟩, ⟨2, .guard⟩], some (2, true)⟩) (v := ?_) rfl (by kernel_rfl) (by kernel_rfl) (by kernel_rfl) (fun _ _ _ h => h) (Or.inl ⟨by rfl, ?_⟩) hS ?_
              rotate_left
              · intro wv _; go_simp; try with_reducible rfl
              try simp only [Act.put, List.setIfInBounds_toArray, List.set_cons_zero, List.set_cons_succ]
              refine wpAnyH_take (i := 10) (oi := ⟨some 27, .indexAddr 22 (.tmp 24) (.tmp 26), 0, "ref.go:139", #[⟨7, .data⟩, ⟨9, .data⟩, ⟨2, .guard⟩], some (2, true)⟩) (v := ?_) rfl (by kernel_rfl) (by kernel_rfl) (by kernel_rfl) (fun _ _ _ h => h) (Or.inl ⟨by rfl, ?_⟩) hS ?_
              rotate_left
              · intro wv _; go_simp; try with_reducible rfl
              try simp only [Act.put, List.setIfInBounds_toArray, List.set_cons_zero, List.set_cons_succ]
              refine wpAnyH_take (i := 11) (oi := ⟨some 28, .load 24 (.tmp 27), 24, "ref.go:139", #[⟨10, .data⟩, ⟨2, .guard⟩], some (2, true)⟩) (v := .agg (([.int .i64 pw, .int .i64 pk] : List Value)).toArray) rfl (by kernel_rfl) (by kernel_rfl) (by kernel_rfl) (fun _ _ _ h => h) (yieldsIf_load_mid (by rfl) _ _ (by rfl) (b2) (off2 + l * 2) (by rfl) (([.int .i64 pw, .int .i64 pk] : List Value)) _ (fun wv hS => tm_range ((hS.out.cell (p := ⟨b2, off2 + l * 2, none⟩) HBQ.out).trans G0.out) ((hS.out.cell (p := ⟨b2, off2 + l * 2 + 1, none⟩) HBQ.out).trans G1.out)) Try.underlying24 (by rfl) (by kernel_rfl)) hS ?_
              try simp only [Act.put, List.setIfInBounds_toArray, List.set_cons_zero, List.set_cons_succ]
              refine wpAnyH_ready (rs := [12]) (by kernel_rfl) (by simp) (AllReadyH.cons (o := ⟨some 29, .call { callee := .value (.func 23), args := #[.tmp 23, .tmp 28], argTypes := #[24, 24] }, 4, "ref.go:139", #[⟨6, .data⟩, ⟨11, .data⟩, ⟨2, .chain⟩, ⟨2, .guard⟩], some (2, true)⟩) rfl (fun K hK => ?_) AllReadyH.nil)
              go_simp
              refine (BF.out _).mono ?_; rintro e wa ⟨rfl, hbb⟩
              replace hS := Lib.hid (hS.out.trans (hbb.mono hS.out.size))
              clear hbb
              go_wp2_with fail
              refine Shut.out hK _ _ hS (fun _ => ?_)
              clear hK K
              try simp only [Act.put, List.setIfInBounds_toArray, List.set_cons_zero, List.set_cons_succ]
              refine wpAnyH_take (i := 13) (oi := ⟨some 30, .pick (.tmp 19) (.tmp 29) (.const (Value.bool false)), 4, "ref.go:139", #[⟨2, .data⟩, ⟨12, .data⟩], none⟩) (v := ?_) rfl (by kernel_rfl) (by kernel_rfl) (by kernel_rfl) (fun _ _ _ h => h) (Or.inl ⟨by rfl, ?_⟩) hS ?_
              rotate_left
              · intro wv _; go_simp; try with_reducible rfl
              try simp only [Act.put, List.setIfInBounds_toArray, List.set_cons_zero, List.set_cons_succ]
              refine wpAnyH_done (by kernel_rfl) ?_ _
              refine NoPanic.normal ?_
              go_wp2
              go_roundw
              case rel => exact ⟨l, rfl, by omega, HJ2, Lib.hid (hb.out.trans (hS.out.mono hb.out.size))⟩
              case measure => simp [intOf]; omega
            · have HSP := Lib.hid (show insT12 (tw, tk) out = out.take k ++ (tw, tk) :: out.drop k from ins_split (by have := HOL.out; omega) (fun j hj => srt_lo SR.out (k := l) (by have := HOL.out; omega) (by rw [PT.out]; exact hbe) j (by omega)) (fun h5 => HJ.out k (Nat.le_refl _) (by have := HOL.out; omega)))
              rw [decide_eq_false hbe] at BF
              replace BF := Lib.hid BF.out
              clear hbe
              go_upto_region 8 with fail
              refine wp_region_noPanic ?_
              refine wp_region_held_drew (S := (fun wv => Hid (Below wr.heap.size wr wv))) (by kernel_rfl) (Lib.hid (Below.refl _ wr).drew) (fun hS => ?_)
              refine wpAnyH_take (i := 0) (oi := ⟨some 17, .move (.tmp 5), 3, "ref.go:139", #[], none⟩) (v := ?_) rfl (by kernel_rfl) (by kernel_rfl) (by kernel_rfl) (fun _ _ _ h => h) (Or.inl ⟨by rfl, ?_⟩) hS ?_
              rotate_left
              · intro wv _; go_simp; try with_reducible rfl
              try simp only [Act.put, List.setIfInBounds_toArray, List.set_cons_zero, List.set_cons_succ]
              refine wpAnyH_take (i := 1) (oi := ⟨some 18, .binOp .gtr 3 (.tmp 17) (.const (Value.int IntKind.i64 0)) 3, 4, "ref.go:139", #[⟨0, .data⟩], none⟩) (v := ?_) rfl (by kernel_rfl) (by kernel_rfl) (by kernel_rfl) (fun _ _ _ h => h) (Or.inl ⟨by rfl, ?_⟩) hS ?_
              rotate_left
              · intro wv _; go_simp; try with_reducible rfl
              try simp only [Act.put, List.setIfInBounds_toArray, List.set_cons_zero, List.set_cons_succ]
              refine wpAnyH_take (i := 2) (oi := ⟨some 19, .move (.tmp 18), 4, "ref.go:139", #[⟨1, .data⟩], none⟩) (v := ?_) rfl (by kernel_rfl) (by kernel_rfl) (by kernel_rfl) (fun _ _ _ h => h) (Or.inl ⟨by rfl, ?_⟩) hS ?_
              rotate_left
              · intro wv _; go_simp; try with_reducible rfl
              try simp only [Act.put, List.setIfInBounds_toArray, List.set_cons_zero, List.set_cons_succ]
              refine wpAnyH_take (i := 3) (oi := ⟨some 20, .move (.tmp 0), 22, "ref.go:139", #[⟨2, .guard⟩], some (2, true)⟩) (v := ?_) rfl (by kernel_rfl) (by kernel_rfl) (by kernel_rfl) (fun _ _ _ h => h) (Or.inl ⟨by rfl, ?_⟩) hS ?_
              rotate_left
              · intro wv _; go_simp; try with_reducible rfl
              try simp only [Act.put, List.setIfInBounds_toArray, List.set_cons_zero, List.set_cons_succ]
              refine wpAnyH_take (i := 4) (oi := ⟨some 21, .move (.tmp 4), 3, "ref.go:139", #[⟨2, .guard⟩], some (2, true)⟩) (v := ?_) rfl (by kernel_rfl) (by kernel_rfl) (by kernel_rfl) (fun _ _ _ h => h) (Or.inl ⟨by rfl, ?_⟩) hS ?_
              rotate_left
              · intro wv _; go_simp; try with_reducible rfl
              try simp only [Act.put, List.setIfInBounds_toArray, List.set_cons_zero, List.set_cons_succ]
              refine wpAnyH_take (i := 5) (oi := ⟨some 22, .indexAddr 22 (.tmp 20) (.tmp 21), 0, "ref.go:139", #[⟨3, .data⟩, ⟨4, .data⟩, ⟨2, .guard⟩], some (2, true)⟩) (v := ?_) rfl (by kernel_rfl) (by kernel_rfl) (by kernel_rfl) (fun _ _ _ h => h) (Or.inl ⟨by rfl, ?_⟩) hS ?_
              rotate_left
              · intro wv _; go_simp; try with_reducible rfl
              try simp only [Act.put, List.setIfInBounds_toArray, List.set_cons_zero, List.set_cons_succ]
              refine wpAnyH_take (i := 6) (oi := ⟨some 23, .load 24 (.tmp 22), 24, "ref.go:139", #[⟨5, .data⟩, ⟨2, .guard⟩], some (2, true)⟩) (v := .agg (([.int .i64 tw, .int .i64 tk] : List Value)).toArray) rfl (by kernel_rfl) (by kernel_rfl) (by kernel_rfl) (fun _ _ _ h => h) (yieldsIf_load_mid (by rfl) _ _ (by rfl) (b) (off + i * 2) (by rfl) (([.int .i64 tw, .int .i64 tk] : List Value)) _ (fun wv hS => tm_range ((hS.out.cell (p := ⟨b, off + i * 2, none⟩) (Nat.lt_of_lt_of_le HB0.out HBr.out.size)).trans ((HBr.out.cell (p := ⟨b, off + i * 2, none⟩) HB0.out).trans K0.out)) ((hS.out.cell (p := ⟨b, off + i * 2 + 1, none⟩) (Nat.lt_of_lt_of_le HB0.out HBr.out.size)).trans ((HBr.out.cell (p := ⟨b, off + i * 2 + 1, none⟩) HB0.out).trans K1.out))) Try.underlying24 (by rfl) (by kernel_rfl)) hS ?_
              try simp only [Act.put, List.setIfInBounds_toArray, List.set_cons_zero, List.set_cons_succ]
              refine wpAnyH_take (i := 7) (oi := ⟨some 24, .move (.tmp 3), 22, "ref.go:139", #[⟨2, .guard⟩], some (2, true)⟩) (v := ?_) rfl (by kernel_rfl) (by kernel_rfl) (by kernel_rfl) (fun _ _ _ h => h) (Or.inl ⟨by rfl, ?_⟩) hS ?_
              rotate_left
              · intro wv _; go_simp; try with_reducible rfl
              try simp only [Act.put, List.setIfInBounds_toArray, List.set_cons_zero, List.set_cons_succ]
              refine wpAnyH_take (i := 8) (oi := ⟨some 25, .move (.tmp 5), 3, "ref.go:139", #[⟨2, .guard⟩], some (2, true)⟩) (v := ?_) rfl (by kernel_rfl) (by kernel_rfl) (by kernel_rfl) (fun _ _ _ h => h) (Or.inl ⟨by rfl, ?_⟩) hS ?_
              rotate_left
              · intro wv _; go_simp; try with_reducible rfl
              try simp only [Act.put, List.setIfInBounds_toArray, List.set_cons_zero, List.set_cons_succ]
              refine wpAnyH_take (i := 9) (oi := ⟨some 26, .binOp .sub 3 (.tmp 25) (.const (Value.int IntKind.i64 1)) 3, 3, "ref.go:139", #[⟨8, .data⟩, ⟨2, .guard⟩], some (2, true)⟩) (v := ?_) rfl (by kernel_rfl) (by kernel_rfl) (by kernel_rfl) (fun _ _ _ h => h) (Or.inl ⟨by rfl, ?_⟩) hS ?_
              rotate_left
              · intro wv _; go_simp; try with_reducible rfl
              try simp only [Act.put, List.setIfInBounds_toArray, List.set_cons_zero, List.set_cons_succ]
              refine wpAnyH_take (i := 10) (oi := ⟨some 27, .indexAddr 22 (.tmp 24) (.tmp 26), 0, "ref.go:139", #[⟨7, .data⟩, ⟨9, .data⟩, ⟨2, .guard⟩], some (2, true)⟩) (v := ?_) rfl (by kernel_rfl) (by kernel_rfl) (by kernel_rfl) (fun _ _ _ h => h) (Or.inl ⟨by rfl, ?_⟩) hS ?_
              rotate_left
              · intro wv _; go_simp; try with_reducible rfl
              try simp only [Act.put, List.setIfInBounds_toArray, List.set_cons_zero, List.set_cons_succ]
              refine wpAnyH_take (i := 11) (oi := ⟨some 28, .load 24 (.tmp 27), 24, "ref.go:139", #[⟨10, .data⟩, ⟨2, .guard⟩], some (2, true)⟩) (v := .agg (([.int .i64 pw, .int .i64 pk] : List Value)).toArray) rfl (by kernel_rfl) (by kernel_rfl) (by kernel_rfl) (fun _ _ _ h => h) (yieldsIf_load_mid (by rfl) _ _ (by rfl) (b2) (off2 + l * 2) (by rfl) (([.int .i64 pw, .int .i64 pk] : List Value)) _ (fun wv hS => tm_range ((hS.out.cell (p := ⟨b2, off2 + l * 2, none⟩) HBQ.out).trans G0.out) ((hS.out.cell (p := ⟨b2, off2 + l * 2 + 1, none⟩) HBQ.out).trans G1.out)) Try.underlying24 (by rfl) (by kernel_rfl)) hS ?_
              try simp only [Act.put, List.setIfInBounds_toArray, List.set_cons_zero, List.set_cons_succ]
              refine wpAnyH_ready (rs := [12]) (by kernel_rfl) (by simp) (AllReadyH.cons (o := ⟨some 29, .call { callee := .value (.func 23), args := #[.tmp 23, .tmp 28], argTypes := #[24, 24] }, 4, "ref.go:139", #[⟨6, .data⟩, ⟨11, .data⟩, ⟨2, .chain⟩, ⟨2, .guard⟩], some (2, true)⟩) rfl (fun K hK => ?_) AllReadyH.nil)
              go_simp
              refine (BF.out _).mono ?_; rintro e wa ⟨rfl, hbb⟩
              replace hS := Lib.hid (hS.out.trans (hbb.mono hS.out.size))
              clear hbb
              go_wp2_with fail
              refine Shut.out hK _ _ hS (fun _ => ?_)
              clear hK K
              try simp only [Act.put, List.setIfInBounds_toArray, List.set_cons_zero, List.set_cons_succ]
              refine wpAnyH_take (i := 13) (oi := ⟨some 30, .pick (.tmp 19) (.tmp 29) (.const (Value.bool false)), 4, "ref.go:139", #[⟨2, .data⟩, ⟨12, .data⟩], none⟩) (v := ?_) rfl (by kernel_rfl) (by kernel_rfl) (by kernel_rfl) (fun _ _ _ h => h) (Or.inl ⟨by rfl, ?_⟩) hS ?_
              rotate_left
              · intro wv _; go_simp; try with_reducible rfl
              try simp only [Act.put, List.setIfInBounds_toArray, List.set_cons_zero, List.set_cons_succ]
              refine wpAnyH_done (by kernel_rfl) ?_ _
              refine NoPanic.normal ?_
              have HBX := Lib.hid (HBr.out.trans (hS.out.mono HBr.out.size))
              have IOX := Es.below IO2.out hS.out
              have HOX := Lib.hid (hb.out.trans (hS.out.mono hb.out.size))
              clear IO2 HBr hS hb HJ IO
              replace K0 := Lib.hid ((HBX.out.cell (p := ⟨b, off + i * 2, none⟩) HB0.out).trans K0.out)
              replace K1 := Lib.hid ((HBX.out.cell (p := ⟨b, off + i * 2 + 1, none⟩) HB0.out).trans K1.out)
              generalize wa = wx at *
              clear G0 G1 HBQ
              obtain ⟨wv, hwv⟩ : ∃ x, x = wr := ⟨_, rfl⟩
              subst hwv
              obtain ⟨wr, hwr⟩ : ∃ x, x = wx := ⟨_, rfl⟩
              subst hwr
              obtain ⟨Ch, ch, hsh, hih⟩ := tms_take (P := Try.prog) IOX 22 unTms szTms (k : Int) k rfl (by omega)
              obtain ⟨Ct, ct, hst, hit⟩ := tms_drop (P := Try.prog) IOX 22 unTms szTms (k : Int) k rfl (by omega)
              have IH := Lib.hid hih; have IT := Lib.hid hit
              have hgz : w.heap.size ≤ wr.heap.size := HBX.out.size
              have HBW := Lib.hid (show b < wr.heap.size from Nat.lt_of_lt_of_le HB0.out hgz)
              clear hih hit IOX
              have b3 : k ≤ o := hk
              have k0' : (0 : Int) ≤ (k : Int) := by omega
              have k1' : (k : Int) ≤ (o : Int) := by omega
              generalize hzz : wr.heap.size = zz at *
              have BZ := Lib.hid (show ∀ X, Below zz wr X → Below wr.heap.size wr X from fun X h => by rw [hzz]; exact h)
              have HS : Below zz wr wr := by have h := Below.refl wr.heap.size wr; rwa [hzz] at h
              go_wp2
              refine wp_region_noPanic ?_
              refine wp_region_held_drew (S := (fun wv => Below zz wr wv)) (by kernel_rfl) (HS.drew) (fun hS => ?_)
              refine wpAnyH_take (i := 1) (oi := ⟨some 34, .move (.tmp 3), 22, "ref.go:142", #[], none⟩) (v := ?_) rfl (by kernel_rfl) (by kernel_rfl) (by kernel_rfl) (fun _ _ _ h => h) (Or.inl ⟨by rfl, ?_⟩) hS ?_
              rotate_left
              · intro wv _; go_simp; try with_reducible rfl
              try simp only [Act.put, List.setIfInBounds_toArray, List.set_cons_zero, List.set_cons_succ]
              refine wpAnyH_take (i := 2) (oi := ⟨some 35, .move (.tmp 5), 3, "ref.go:142", #[], none⟩) (v := ?_) rfl (by kernel_rfl) (by kernel_rfl) (by kernel_rfl) (fun _ _ _ h => h) (Or.inl ⟨by rfl, ?_⟩) hS ?_
              rotate_left
              · intro wv _; go_simp; try with_reducible rfl
              try simp only [Act.put, List.setIfInBounds_toArray, List.set_cons_zero, List.set_cons_succ]
              refine wpAnyH_take (i := 3) (oi := ⟨some 36, .slice 22 (.tmp 34) none (some (.tmp 35)) none, 22, "ref.go:142", #[⟨1, .data⟩, ⟨2, .data⟩], none⟩) (v := ?_) rfl (by kernel_rfl) (by kernel_rfl) (by kernel_rfl) (fun _ _ _ h => h) (Or.inl ⟨by rfl, ?_⟩) hS ?_
              rotate_left
              · intro wv _; go_simp; try with_reducible rfl
              try simp only [Act.put, List.setIfInBounds_toArray, List.set_cons_zero, List.set_cons_succ]
              refine wpAnyH_take (i := 5) (oi := ⟨some 38, .move (.tmp 0), 22, "ref.go:142", #[], none⟩) (v := ?_) rfl (by kernel_rfl) (by kernel_rfl) (by kernel_rfl) (fun _ _ _ h => h) (Or.inl ⟨by rfl, ?_⟩) hS ?_
              rotate_left
              · intro wv _; go_simp; try with_reducible rfl
              try simp only [Act.put, List.setIfInBounds_toArray, List.set_cons_zero, List.set_cons_succ]
              refine wpAnyH_take (i := 6) (oi := ⟨some 39, .move (.tmp 4), 3, "ref.go:142", #[], none⟩) (v := ?_) rfl (by kernel_rfl) (by kernel_rfl) (by kernel_rfl) (fun _ _ _ h => h) (Or.inl ⟨by rfl, ?_⟩) hS ?_
              rotate_left
              · intro wv _; go_simp; try with_reducible rfl
              try simp only [Act.put, List.setIfInBounds_toArray, List.set_cons_zero, List.set_cons_succ]
              refine wpAnyH_take (i := 7) (oi := ⟨some 40, .indexAddr 22 (.tmp 38) (.tmp 39), 0, "ref.go:142", #[⟨5, .data⟩, ⟨6, .data⟩], none⟩) (v := ?_) rfl (by kernel_rfl) (by kernel_rfl) (by kernel_rfl) (fun _ _ _ h => h) (Or.inl ⟨by rfl, ?_⟩) hS ?_
              rotate_left
              · intro wv _; go_simp; try with_reducible rfl
              try simp only [Act.put, List.setIfInBounds_toArray, List.set_cons_zero, List.set_cons_succ]
              refine wpAnyH_take (i := 8) (oi := ⟨some 41, .load 24 (.tmp 40), 24, "ref.go:142", #[⟨7, .data⟩], none⟩) (v := .agg (([.int .i64 tw, .int .i64 tk] : List Value)).toArray) rfl (by kernel_rfl) (by kernel_rfl) (by kernel_rfl) (fun _ _ _ h => h) (yieldsIf_load_mid (by rfl) _ _ (by rfl) (b) (off + i * 2) (by rfl) (([.int .i64 tw, .int .i64 tk] : List Value)) _ (fun wv hS => tm_range ((hS.cell (p := ⟨b, off + i * 2, none⟩) (by have := HBW.out; show b < _; omega)).trans K0.out) ((hS.cell (p := ⟨b, off + i * 2 + 1, none⟩) (by have := HBW.out; show b < _; omega)).trans K1.out)) Try.underlying24 (by rfl) (by kernel_rfl)) hS ?_
              try simp only [Act.put, List.setIfInBounds_toArray, List.set_cons_zero, List.set_cons_succ]
              refine wpAnyH_take (i := 11) (oi := ⟨some 44, .move (.tmp 3), 22, "ref.go:142", #[], none⟩) (v := ?_) rfl (by kernel_rfl) (by kernel_rfl) (by kernel_rfl) (fun _ _ _ h => h) (Or.inl ⟨by rfl, ?_⟩) hS ?_
              rotate_left
              · intro wv _; go_simp; try with_reducible rfl
              try simp only [Act.put, List.setIfInBounds_toArray, List.set_cons_zero, List.set_cons_succ]
              refine wpAnyH_take (i := 12) (oi := ⟨some 45, .move (.tmp 5), 3, "ref.go:142", #[], none⟩) (v := ?_) rfl (by kernel_rfl) (by kernel_rfl) (by kernel_rfl) (fun _ _ _ h => h) (Or.inl ⟨by rfl, ?_⟩) hS ?_
              rotate_left
              · intro wv _; go_simp; try with_reducible rfl
              try simp only [Act.put, List.setIfInBounds_toArray, List.set_cons_zero, List.set_cons_succ]
              refine wpAnyH_take (i := 13) (oi := ⟨some 46, .slice 22 (.tmp 44) (some (.tmp 45)) none none, 22, "ref.go:142", #[⟨11, .data⟩, ⟨12, .data⟩], none⟩) (v := ?_) rfl (by kernel_rfl) (by kernel_rfl) (by kernel_rfl) (fun _ _ _ h => h) (Or.inl ⟨by rfl, ?_⟩) hS ?_
              rotate_left
              · intro wv _; go_simp; try with_reducible rfl
              try simp only [Act.put, List.setIfInBounds_toArray, List.set_cons_zero, List.set_cons_succ]
              refine wpAnyH_ready (rs := [0, 9]) (by kernel_rfl) (by simp) (AllReadyH.cons (o := ⟨some 33, .buildSlice 22 0 #[], 22, "ref.go:142", #[], none⟩) rfl (fun K hK => ?_) (AllReadyH.cons (o := ⟨some 42, .buildSlice 22 1 #[(0, .tmp 41)], 22, "ref.go:142", #[⟨8, .data⟩], none⟩) rfl (fun K hK => ?_) AllReadyH.nil))
              ·
               go_simp
               have zs : zz ≤ zz := Nat.le_refl _
               have bd : Below zz wr (wr.alloc (.cells #[] 24)) := by have h := (Below.refl wr.heap.size wr).alloc (Nat.le_refl _) (.cells #[] 24); rwa [hzz] at h
               have OX : (wr.alloc (.cells #[] 24)).ownsRow zz 24 2 (.slice (some ⟨zz, 0, none⟩) 0 0) 0 (tmC []) := by have h := lit_tms (base := zz) wr (Nat.le_of_eq hzz.symm); rw [hzz] at h; exact h
               replace HS := HS.trans (bd.mono zs)
               clear bd zs
               generalize wr.alloc (.cells #[] 24) = y1_ at *
               replace hS := HS.drew
               refine Shut.out hK _ _ hS (fun _ => ?_)
               clear hK K
               try simp only [Act.put, List.setIfInBounds_toArray, List.set_cons_zero, List.set_cons_succ]
               refine wpAnyH_ready (rs := [4, 9]) (by kernel_rfl) (by simp) (AllReadyH.cons (o := ⟨some 37, .call { callee := .builtin .append, args := #[.tmp 33, .tmp 36], argTypes := #[22, 22] }, 22, "ref.go:142", #[⟨0, .data⟩, ⟨3, .data⟩], none⟩) rfl (fun K hK => ?_) (AllReadyH.cons (o := ⟨some 42, .buildSlice 22 1 #[(0, .tmp 41)], 22, "ref.go:142", #[⟨8, .data⟩], none⟩) rfl (fun K hK => ?_) AllReadyH.nil))
               ·
                replace HS := HS.drew
                replace OX : y1_.drew.ownsRow zz 24 2 _ _ _ := ⟨OX.1, OX.2⟩
                have zs : zz ≤ y1_.drew.heap.size := by have h1 := HS.size; rw [hzz] at h1; exact h1
                obtain ⟨A3_, c3_, w3_, hap, hown, hgr⟩ := app_tms y1_.drew zz _ (0) [] OX Ch k ch _ (Es.below IH.out (BZ.out _ HS)) (by omega) zs
                rw [Nat.zero_add] at hap hown
                rw [List.nil_append] at hown
                refine op_app_run7 (by rfl) rfl rfl rfl hap ?_
                have bg : Below zz y1_.drew w3_ := (Below.refl _ _).grown hgr zs (fun k hk => (OX.lt k hk).1)
                replace HS := HS.trans bg
                replace OX := hown
                clear hap hgr hown bg zs
                replace hS := HS
                refine Shut.out hK _ _ hS (fun _ => ?_)
                clear hK K
                try simp only [Act.put, List.setIfInBounds_toArray, List.set_cons_zero, List.set_cons_succ]
                refine wpAnyH_ready (rs := [9]) (by kernel_rfl) (by simp) (AllReadyH.cons (o := ⟨some 42, .buildSlice 22 1 #[(0, .tmp 41)], 22, "ref.go:142", #[⟨8, .data⟩], none⟩) rfl (fun K hK => ?_) AllReadyH.nil)
                go_simp
                have zs : zz ≤ w3_.heap.size := by have h1 := HS.size; rw [hzz] at h1; exact h1
                have bd : Below w3_.heap.size w3_ (w3_.alloc (.cells #[.int .i64 tw, .int .i64 tk] 24)) := (Below.refl _ _).alloc (Nat.le_refl _) _
                have NE := fun k hk => Nat.ne_of_lt (OX.lt k hk).2
                replace OX := own_below OX bd
                have VL : (w3_.alloc (.cells #[.int .i64 tw, .int .i64 tk] 24)).heap[w3_.heap.size]? = some (.cells #[.int .i64 tw, .int .i64 tk] 24) := heap_alloc_new _ _
                replace HS := HS.trans (bd.mono zs)
                clear bd zs
                generalize w3_.alloc (.cells #[.int .i64 tw, .int .i64 tk] 24) = y2_ at *
                generalize hs2_ : w3_.heap.size = s2_ at *
                replace hS := HS
                refine Shut.out hK _ _ hS (fun _ => ?_)
                clear hK K
                try simp only [Act.put, List.setIfInBounds_toArray, List.set_cons_zero, List.set_cons_succ]
                refine wpAnyH_ready (rs := [10]) (by kernel_rfl) (by simp) (AllReadyH.cons (o := ⟨some 43, .call { callee := .builtin .append, args := #[.tmp 37, .tmp 42], argTypes := #[22, 22] }, 22, "ref.go:142", #[⟨4, .data⟩, ⟨9, .data⟩, ⟨4, .chain⟩], none⟩) rfl (fun K hK => ?_) AllReadyH.nil)
                have zs : zz ≤ y2_.heap.size := by have h1 := HS.size; rw [hzz] at h1; exact h1
                obtain ⟨A4_, c4_, w4_, hap, hown, hgr⟩ := app_tms y2_ zz _ (k) (out.take k) OX (some ⟨s2_, 0, none⟩) 1 1 [(tw, tk)] (tms_blk VL) (by omega) zs
                refine op_app_run7 (by rfl) rfl rfl rfl hap ?_
                have bg : Below zz y2_ w4_ := (Below.refl _ _).grown hgr zs (fun k hk => (OX.lt k hk).1)
                replace HS := HS.trans bg
                replace OX := hown
                clear hap hgr hown bg zs
                replace hS := HS
                refine Shut.out hK _ _ hS (fun _ => ?_)
                clear hK K
                try simp only [Act.put, List.setIfInBounds_toArray, List.set_cons_zero, List.set_cons_succ]
                refine wpAnyH_ready (rs := [14]) (by kernel_rfl) (by simp) (AllReadyH.cons (o := ⟨some 47, .call { callee := .builtin .append, args := #[.tmp 43, .tmp 46], argTypes := #[22, 22] }, 22, "ref.go:142", #[⟨10, .data⟩, ⟨13, .data⟩, ⟨10, .chain⟩], none⟩) rfl (fun K hK => ?_) AllReadyH.nil)
                have zs : zz ≤ w4_.heap.size := by have h1 := HS.size; rw [hzz] at h1; exact h1
                obtain ⟨A5_, c5_, w5_, hap, hown, hgr⟩ := app_tms w4_ zz _ (k + 1) (out.take k ++ [(tw, tk)]) OX Ct (o - k) ct _ (Es.below IT.out (BZ.out _ HS)) (by omega) zs
                refine op_app_run7 (by rfl) rfl rfl rfl hap ?_
                have bg : Below zz w4_ w5_ := (Below.refl _ _).grown hgr zs (fun k hk => (OX.lt k hk).1)
                replace HS := HS.trans bg
                replace OX := hown
                clear hap hgr hown bg zs
                replace hS := HS
                refine Shut.out hK _ _ hS (fun _ => ?_)
                clear hK K
                try simp only [Act.put, List.setIfInBounds_toArray, List.set_cons_zero, List.set_cons_succ]
                refine wpAnyH_take (i := 15) (oi := ⟨some 3, .assign (.tmp 47), 22, "ref.go:142", #[⟨14, .data⟩, ⟨14, .chain⟩, ⟨0, .phase⟩, ⟨1, .phase⟩, ⟨2, .phase⟩, ⟨3, .phase⟩, ⟨4, .phase⟩, ⟨5, .phase⟩, ⟨6, .phase⟩, ⟨7, .phase⟩, ⟨8, .phase⟩, ⟨9, .phase⟩, ⟨10, .phase⟩, ⟨11, .phase⟩, ⟨12, .phase⟩, ⟨13, .phase⟩, ⟨14, .phase⟩], none⟩) (v := ?_) rfl (by kernel_rfl) (by kernel_rfl) (by kernel_rfl) (fun _ _ _ h => h) (Or.inl ⟨by rfl, ?_⟩) hS ?_
                rotate_left
                · intro wv _; go_simp; try with_reducible rfl
                try simp only [Act.put, List.setIfInBounds_toArray, List.set_cons_zero, List.set_cons_succ]
                refine wpAnyH_done (by kernel_rfl) ?_ _
                refine NoPanic.normal ?_
                go_wp2
                go_roundw
                case rel => exact ⟨i + 1, k + 1 + (o - k), c5_, A5_, rfl, by go_num, by omega, by have := HOI.out; omega, Lib.hid (show World.ownsRow _ w.heap.size 24 2 _ _ (tmC (sortF h (i + 1))) by rw [HK.out, HSP.out]; have h := own_base OX hgz; rw [List.append_assoc] at h; exact h), Lib.hid (HBX.out.trans (HS.mono hgz))⟩
                case measure => simp [intOf]; omega
               ·
                go_simp
                have zs : zz ≤ y1_.heap.size := by have h1 := HS.size; rw [hzz] at h1; exact h1
                have bd : Below y1_.heap.size y1_ (y1_.alloc (.cells #[.int .i64 tw, .int .i64 tk] 24)) := (Below.refl _ _).alloc (Nat.le_refl _) _
                have NE := fun k hk => Nat.ne_of_lt (OX.lt k hk).2
                replace OX := own_below OX bd
                have VL : (y1_.alloc (.cells #[.int .i64 tw, .int .i64 tk] 24)).heap[y1_.heap.size]? = some (.cells #[.int .i64 tw, .int .i64 tk] 24) := heap_alloc_new _ _
                replace HS := HS.trans (bd.mono zs)
                clear bd zs
                generalize y1_.alloc (.cells #[.int .i64 tw, .int .i64 tk] 24) = y2_ at *
                generalize hs2_ : y1_.heap.size = s2_ at *
                replace hS := HS.drew
                refine Shut.out hK _ _ hS (fun _ => ?_)
                clear hK K
                try simp only [Act.put, List.setIfInBounds_toArray, List.set_cons_zero, List.set_cons_succ]
                refine wpAnyH_ready (rs := [4]) (by kernel_rfl) (by simp) (AllReadyH.cons (o := ⟨some 37, .call { callee := .builtin .append, args := #[.tmp 33, .tmp 36], argTypes := #[22, 22] }, 22, "ref.go:142", #[⟨0, .data⟩, ⟨3, .data⟩], none⟩) rfl (fun K hK => ?_) AllReadyH.nil)
                replace HS := HS.drew
                replace OX : y2_.drew.ownsRow zz 24 2 _ _ _ := ⟨OX.1, OX.2⟩
                replace VL : y2_.drew.heap[_]? = _ := VL
                have zs : zz ≤ y2_.drew.heap.size := by have h1 := HS.size; rw [hzz] at h1; exact h1
                obtain ⟨A3_, c3_, w3_, hap, hown, hgr⟩ := app_tms y2_.drew zz _ (0) [] OX Ch k ch _ (Es.below IH.out (BZ.out _ HS)) (by omega) zs
                rw [Nat.zero_add] at hap hown
                rw [List.nil_append] at hown
                refine op_app_run7 (by rfl) rfl rfl rfl hap ?_
                replace VL := blk_grown VL hgr NE
                clear NE
                have bg : Below zz y2_.drew w3_ := (Below.refl _ _).grown hgr zs (fun k hk => (OX.lt k hk).1)
                replace HS := HS.trans bg
                replace OX := hown
                clear hap hgr hown bg zs
                replace hS := HS
                refine Shut.out hK _ _ hS (fun _ => ?_)
                clear hK K
                try simp only [Act.put, List.setIfInBounds_toArray, List.set_cons_zero, List.set_cons_succ]
                refine wpAnyH_ready (rs := [10]) (by kernel_rfl) (by simp) (AllReadyH.cons (o := ⟨some 43, .call { callee := .builtin .append, args := #[.tmp 37, .tmp 42], argTypes := #[22, 22] }, 22, "ref.go:142", #[⟨4, .data⟩, ⟨9, .data⟩, ⟨4, .chain⟩], none⟩) rfl (fun K hK => ?_) AllReadyH.nil)
                have zs : zz ≤ w3_.heap.size := by have h1 := HS.size; rw [hzz] at h1; exact h1
                obtain ⟨A4_, c4_, w4_, hap, hown, hgr⟩ := app_tms w3_ zz _ (k) (out.take k) OX (some ⟨s2_, 0, none⟩) 1 1 [(tw, tk)] (tms_blk VL) (by omega) zs
                refine op_app_run7 (by rfl) rfl rfl rfl hap ?_
                have bg : Below zz w3_ w4_ := (Below.refl _ _).grown hgr zs (fun k hk => (OX.lt k hk).1)
                replace HS := HS.trans bg
                replace OX := hown
                clear hap hgr hown bg zs
                replace hS := HS
                refine Shut.out hK _ _ hS (fun _ => ?_)
                clear hK K
                try simp only [Act.put, List.setIfInBounds_toArray, List.set_cons_zero, List.set_cons_succ]
                refine wpAnyH_ready (rs := [14]) (by kernel_rfl) (by simp) (AllReadyH.cons (o := ⟨some 47, .call { callee := .builtin .append, args := #[.tmp 43, .tmp 46], argTypes := #[22, 22] }, 22, "ref.go:142", #[⟨10, .data⟩, ⟨13, .data⟩, ⟨10, .chain⟩], none⟩) rfl (fun K hK => ?_) AllReadyH.nil)
                have zs : zz ≤ w4_.heap.size := by have h1 := HS.size; rw [hzz] at h1; exact h1
                obtain ⟨A5_, c5_, w5_, hap, hown, hgr⟩ := app_tms w4_ zz _ (k + 1) (out.take k ++ [(tw, tk)]) OX Ct (o - k) ct _ (Es.below IT.out (BZ.out _ HS)) (by omega) zs
                refine op_app_run7 (by rfl) rfl rfl rfl hap ?_
                have bg : Below zz w4_ w5_ := (Below.refl _ _).grown hgr zs (fun k hk => (OX.lt k hk).1)
                replace HS := HS.trans bg
                replace OX := hown
                clear hap hgr hown bg zs
                replace hS := HS
                refine Shut.out hK _ _ hS (fun _ => ?_)
                clear hK K
                try simp only [Act.put, List.setIfInBounds_toArray, List.set_cons_zero, List.set_cons_succ]
                refine wpAnyH_take (i := 15) (oi := ⟨some 3, .assign (.tmp 47), 22, "ref.go:142", #[⟨14, .data⟩, ⟨14, .chain⟩, ⟨0, .phase⟩, ⟨1, .phase⟩, ⟨2, .phase⟩, ⟨3, .phase⟩, ⟨4, .phase⟩, ⟨5, .phase⟩, ⟨6, .phase⟩, ⟨7, .phase⟩, ⟨8, .phase⟩, ⟨9, .phase⟩, ⟨10, .phase⟩, ⟨11, .phase⟩, ⟨12, .phase⟩, ⟨13, .phase⟩, ⟨14, .phase⟩], none⟩) (v := ?_) rfl (by kernel_rfl) (by kernel_rfl) (by kernel_rfl) (fun _ _ _ h => h) (Or.inl ⟨by rfl, ?_⟩) hS ?_
                rotate_left
                · intro wv _; go_simp; try with_reducible rfl
                try simp only [Act.put, List.setIfInBounds_toArray, List.set_cons_zero, List.set_cons_succ]
                refine wpAnyH_done (by kernel_rfl) ?_ _
                refine NoPanic.normal ?_
                go_wp2
                go_roundw
                case rel => exact ⟨i + 1, k + 1 + (o - k), c5_, A5_, rfl, by go_num, by omega, by have := HOI.out; omega, Lib.hid (show World.ownsRow _ w.heap.size 24 2 _ _ (tmC (sortF h (i + 1))) by rw [HK.out, HSP.out]; have h := own_base OX hgz; rw [List.append_assoc] at h; exact h), Lib.hid (HBX.out.trans (HS.mono hgz))⟩
                case measure => simp [intOf]; omega
              ·
               go_simp
               have zs : zz ≤ zz := Nat.le_refl _
               have bd : Below zz wr (wr.alloc (.cells #[.int .i64 tw, .int .i64 tk] 24)) := by have h := (Below.refl wr.heap.size wr).alloc (Nat.le_refl _) (.cells #[.int .i64 tw, .int .i64 tk] 24); rwa [hzz] at h
               have VL : (wr.alloc (.cells #[.int .i64 tw, .int .i64 tk] 24)).heap[zz]? = some (.cells #[.int .i64 tw, .int .i64 tk] 24) := by have h := heap_alloc_new wr (.cells #[.int .i64 tw, .int .i64 tk] 24); rw [hzz] at h; exact h
               replace HS := HS.trans (bd.mono zs)
               clear bd zs
               generalize wr.alloc (.cells #[.int .i64 tw, .int .i64 tk] 24) = y1_ at *
               replace hS := HS.drew
               refine Shut.out hK _ _ hS (fun _ => ?_)
               clear hK K
               try simp only [Act.put, List.setIfInBounds_toArray, List.set_cons_zero, List.set_cons_succ]
               refine wpAnyH_ready (rs := [0]) (by kernel_rfl) (by simp) (AllReadyH.cons (o := ⟨some 33, .buildSlice 22 0 #[], 22, "ref.go:142", #[], none⟩) rfl (fun K hK => ?_) AllReadyH.nil)
               go_simp
               have zs : zz ≤ y1_.heap.size := by have h1 := HS.size; rw [hzz] at h1; exact h1
               have bd : Below y1_.heap.size y1_ (y1_.alloc (.cells #[] 24)) := (Below.refl _ _).alloc (Nat.le_refl _) _
               have ltl := blk_lt VL
               replace VL := blk_below VL bd ltl
               have OX : (y1_.alloc (.cells #[] 24)).ownsRow zz 24 2 (.slice (some ⟨y1_.heap.size, 0, none⟩) 0 0) 0 (tmC []) := lit_tms y1_ zs
               have NE : ∀ k, (Value.slice (some ⟨y1_.heap.size, 0, none⟩) 0 0).ownBlock = some k → k ≠ zz := fun k hk => by simp [Value.ownBlock] at hk; subst hk; exact (Nat.ne_of_lt ltl).symm
               clear ltl
               replace HS := HS.trans (bd.mono zs)
               clear bd zs
               generalize y1_.alloc (.cells #[] 24) = y2_ at *
               generalize hs2_ : y1_.heap.size = s2_ at *
               replace hS := HS.drew
               refine Shut.out hK _ _ hS (fun _ => ?_)
               clear hK K
               try simp only [Act.put, List.setIfInBounds_toArray, List.set_cons_zero, List.set_cons_succ]
               refine wpAnyH_ready (rs := [4]) (by kernel_rfl) (by simp) (AllReadyH.cons (o := ⟨some 37, .call { callee := .builtin .append, args := #[.tmp 33, .tmp 36], argTypes := #[22, 22] }, 22, "ref.go:142", #[⟨0, .data⟩, ⟨3, .data⟩], none⟩) rfl (fun K hK => ?_) AllReadyH.nil)
               replace HS := HS.drew
               replace OX : y2_.drew.ownsRow zz 24 2 _ _ _ := ⟨OX.1, OX.2⟩
               replace VL : y2_.drew.heap[_]? = _ := VL
               have zs : zz ≤ y2_.drew.heap.size := by have h1 := HS.size; rw [hzz] at h1; exact h1
               obtain ⟨A3_, c3_, w3_, hap, hown, hgr⟩ := app_tms y2_.drew zz _ (0) [] OX Ch k ch _ (Es.below IH.out (BZ.out _ HS)) (by omega) zs
               rw [Nat.zero_add] at hap hown
               rw [List.nil_append] at hown
               refine op_app_run7 (by rfl) rfl rfl rfl hap ?_
               replace VL := blk_grown VL hgr NE
               clear NE
               have bg : Below zz y2_.drew w3_ := (Below.refl _ _).grown hgr zs (fun k hk => (OX.lt k hk).1)
               replace HS := HS.trans bg
               replace OX := hown
               clear hap hgr hown bg zs
               replace hS := HS
               refine Shut.out hK _ _ hS (fun _ => ?_)
               clear hK K
               try simp only [Act.put, List.setIfInBounds_toArray, List.set_cons_zero, List.set_cons_succ]
               refine wpAnyH_ready (rs := [10]) (by kernel_rfl) (by simp) (AllReadyH.cons (o := ⟨some 43, .call { callee := .builtin .append, args := #[.tmp 37, .tmp 42], argTypes := #[22, 22] }, 22, "ref.go:142", #[⟨4, .data⟩, ⟨9, .data⟩, ⟨4, .chain⟩], none⟩) rfl (fun K hK => ?_) AllReadyH.nil)
               have zs : zz ≤ w3_.heap.size := by have h1 := HS.size; rw [hzz] at h1; exact h1
               obtain ⟨A4_, c4_, w4_, hap, hown, hgr⟩ := app_tms w3_ zz _ (k) (out.take k) OX (some ⟨zz, 0, none⟩) 1 1 [(tw, tk)] (tms_blk VL) (by omega) zs
               refine op_app_run7 (by rfl) rfl rfl rfl hap ?_
               have bg : Below zz w3_ w4_ := (Below.refl _ _).grown hgr zs (fun k hk => (OX.lt k hk).1)
               replace HS := HS.trans bg
               replace OX := hown
               clear hap hgr hown bg zs
               replace hS := HS
               refine Shut.out hK _ _ hS (fun _ => ?_)
               clear hK K
               try simp only [Act.put, List.setIfInBounds_toArray, List.set_cons_zero, List.set_cons_succ]
               refine wpAnyH_ready (rs := [14]) (by kernel_rfl) (by simp) (AllReadyH.cons (o := ⟨some 47, .call { callee := .builtin .append, args := #[.tmp 43, .tmp 46], argTypes := #[22, 22] }, 22, "ref.go:142", #[⟨10, .data⟩, ⟨13, .data⟩, ⟨10, .chain⟩], none⟩) rfl (fun K hK => ?_) AllReadyH.nil)
               have zs : zz ≤ w4_.heap.size := by have h1 := HS.size; rw [hzz] at h1; exact h1
               obtain ⟨A5_, c5_, w5_, hap, hown, hgr⟩ := app_tms w4_ zz _ (k + 1) (out.take k ++ [(tw, tk)]) OX Ct (o - k) ct _ (Es.below IT.out (BZ.out _ HS)) (by omega) zs
               refine op_app_run7 (by rfl) rfl rfl rfl hap ?_
               have bg : Below zz w4_ w5_ := (Below.refl _ _).grown hgr zs (fun k hk => (OX.lt k hk).1)
               replace HS := HS.trans bg
               replace OX := hown
               clear hap hgr hown bg zs
               replace hS := HS
               refine Shut.out hK _ _ hS (fun _ => ?_)
               clear hK K
               try simp only [Act.put, List.setIfInBounds_toArray, List.set_cons_zero, List.set_cons_succ]
               refine wpAnyH_take (i := 15) (oi := ⟨some 3, .assign (.tmp 47), 22, "ref.go:142", #[⟨14, .data⟩, ⟨14, .chain⟩, ⟨0, .phase⟩, ⟨1, .phase⟩, ⟨2, .phase⟩, ⟨3, .phase⟩, ⟨4, .phase⟩, ⟨5, .phase⟩, ⟨6, .phase⟩, ⟨7, .phase⟩, ⟨8, .phase⟩, ⟨9, .phase⟩, ⟨10, .phase⟩, ⟨11, .phase⟩, ⟨12, .phase⟩, ⟨13, .phase⟩, ⟨14, .phase⟩], none⟩) (v := ?_) rfl (by kernel_rfl) (by kernel_rfl) (by kernel_rfl) (fun _ _ _ h => h) (Or.inl ⟨by rfl, ?_⟩) hS ?_
               rotate_left
               · intro wv _; go_simp; try with_reducible rfl
               try simp only [Act.put, List.setIfInBounds_toArray, List.set_cons_zero, List.set_cons_succ]
               refine wpAnyH_done (by kernel_rfl) ?_ _
               refine NoPanic.normal ?_
               go_wp2
               go_roundw
               case rel => exact ⟨i + 1, k + 1 + (o - k), c5_, A5_, rfl, by go_num, by omega, by have := HOI.out; omega, Lib.hid (show World.ownsRow _ w.heap.size 24 2 _ _ (tmC (sortF h (i + 1))) by rw [HK.out, HSP.out]; have h := own_base OX hgz; rw [List.append_assoc] at h; exact h), Lib.hid (HBX.out.trans (HS.mono hgz))⟩
               case measure => simp [intOf]; omega
          · have c2 : decide ((0 : Int) < (k : Int)) = false := by simpa using h0
            have c2n : decide (0 < k) = false := by simpa using h0
            have HSP := Lib.hid (show insT12 (tw, tk) out = out.take k ++ (tw, tk) :: out.drop k from ins_split (by have := HOL.out; omega) (fun j hj => by omega) (fun h5 => HJ.out k (Nat.le_refl _) (by have := HOL.out; omega)))
            go_upto_region 8 with fail
            refine wp_region_noPanic ?_
            refine wp_region_held_drew (S := (fun wv => Hid (Below wr.heap.size wr wv))) (by kernel_rfl) (Lib.hid (Below.refl _ wr).drew) (fun hS => ?_)
            refine wpAnyH_take (i := 0) (oi := ⟨some 17, .move (.tmp 5), 3, "ref.go:139", #[], none⟩) (v := ?_) rfl (by kernel_rfl) (by kernel_rfl) (by kernel_rfl) (fun _ _ _ h => h) (Or.inl ⟨by rfl, ?_⟩) hS ?_
            rotate_left
            · intro wv _; go_simp; try with_reducible rfl
            try simp only [Act.put, List.setIfInBounds_toArray, List.set_cons_zero, List.set_cons_succ]
            refine wpAnyH_take (i := 1) (oi := ⟨some 18, .binOp .gtr 3 (.tmp 17) (.const (Value.int IntKind.i64 0)) 3, 4, "ref.go:139", #[⟨0, .data⟩], none⟩) (v := ?_) rfl (by kernel_rfl) (by kernel_rfl) (by kernel_rfl) (fun _ _ _ h => h) (Or.inl ⟨by rfl, ?_⟩) hS ?_
            rotate_left
            · intro wv _; go_simp; try with_reducible rfl
            try simp only [Act.put, List.setIfInBounds_toArray, List.set_cons_zero, List.set_cons_succ]
            refine wpAnyH_take (i := 2) (oi := ⟨some 19, .move (.tmp 18), 4, "ref.go:139", #[⟨1, .data⟩], none⟩) (v := ?_) rfl (by kernel_rfl) (by kernel_rfl) (by kernel_rfl) (fun _ _ _ h => h) (Or.inl ⟨by rfl, ?_⟩) hS ?_
            rotate_left
            · intro wv _; go_simp; try with_reducible rfl
            try simp only [Act.put, List.setIfInBounds_toArray, List.set_cons_zero, List.set_cons_succ]
            refine wpAnyH_take (i := 3) (oi := ⟨some 20, .move (.tmp 0), 22, "ref.go:139", #[⟨2, .guard⟩], some (2, true)⟩) (v := undef) rfl (by kernel_rfl) (by kernel_rfl) (by kernel_rfl) (fun _ _ _ h => h) (Or.inr ⟨by rfl, rfl⟩) hS ?_
            try simp only [Act.put, List.setIfInBounds_toArray, List.set_cons_zero, List.set_cons_succ]
            refine wpAnyH_take (i := 4) (oi := ⟨some 21, .move (.tmp 4), 3, "ref.go:139", #[⟨2, .guard⟩], some (2, true)⟩) (v := undef) rfl (by kernel_rfl) (by kernel_rfl) (by kernel_rfl) (fun _ _ _ h => h) (Or.inr ⟨by rfl, rfl⟩) hS ?_
            try simp only [Act.put, List.setIfInBounds_toArray, List.set_cons_zero, List.set_cons_succ]
            refine wpAnyH_take (i := 5) (oi := ⟨some 22, .indexAddr 22 (.tmp 20) (.tmp 21), 0, "ref.go:139", #[⟨3, .data⟩, ⟨4, .data⟩, ⟨2, .guard⟩], some (2, true)⟩) (v := undef) rfl (by kernel_rfl) (by kernel_rfl) (by kernel_rfl) (fun _ _ _ h => h) (Or.inr ⟨by rfl, rfl⟩) hS ?_
            try simp only [Act.put, List.setIfInBounds_toArray, List.set_cons_zero, List.set_cons_succ]
            refine wpAnyH_take (i := 6) (oi := ⟨some 23, .load 24 (.tmp 22), 24, "ref.go:139", #[⟨5, .data⟩, ⟨2, .guard⟩], some (2, true)⟩) (v := undef) rfl (by kernel_rfl) (by kernel_rfl) (by kernel_rfl) (fun _ _ _ h => h) (Or.inr ⟨by rfl, rfl⟩) hS ?_
            try simp only [Act.put, List.setIfInBounds_toArray, List.set_cons_zero, List.set_cons_succ]
            refine wpAnyH_take (i := 7) (oi := ⟨some 24, .move (.tmp 3), 22, "ref.go:139", #[⟨2, .guard⟩], some (2, true)⟩) (v := undef) rfl (by kernel_rfl) (by kernel_rfl) (by kernel_rfl) (fun _ _ _ h => h) (Or.inr ⟨by rfl, rfl⟩) hS ?_
            try simp only [Act.put, List.setIfInBounds_toArray, List.set_cons_zero, List.set_cons_succ]
            refine wpAnyH_take (i := 8) (oi := ⟨some 25, .move (.tmp 5), 3, "ref.go:139", #[⟨2, .guard⟩], some (2, true)⟩) (v := undef) rfl (by kernel_rfl) (by kernel_rfl) (by kernel_rfl) (fun _ _ _ h => h) (Or.inr ⟨by rfl, rfl⟩) hS ?_
            try simp only [Act.put, List.setIfInBounds_toArray, List.set_cons_zero, List.set_cons_succ]
            refine wpAnyH_take (i := 9) (oi := ⟨some 26, .binOp .sub 3 (.tmp 25) (.const (Value.int IntKind.i64 1)) 3, 3, "ref.go:139", #[⟨8, .data⟩, ⟨2, .guard⟩], some (2, true)⟩) (v := undef) rfl (by kernel_rfl) (by kernel_rfl) (by kernel_rfl) (fun _ _ _ h => h) (Or.inr ⟨by rfl, rfl⟩) hS ?_
            try simp only [Act.put, List.setIfInBounds_toArray, List.set_cons_zero, List.set_cons_succ]
            refine wpAnyH_take (i := 10) (oi := ⟨some 27, .indexAddr 22 (.tmp 24) (.tmp 26), 0, "ref.go:139", #[⟨7, .data⟩, ⟨9, .data⟩, ⟨2, .guard⟩], some (2, true)⟩) (v := undef) rfl (by kernel_rfl) (by kernel_rfl) (by kernel_rfl) (fun _ _ _ h => h) (Or.inr ⟨by rfl, rfl⟩) hS ?_
            try simp only [Act.put, List.setIfInBounds_toArray, List.set_cons_zero, List.set_cons_succ]
            refine wpAnyH_take (i := 11) (oi := ⟨some 28, .load 24 (.tmp 27), 24, "ref.go:139", #[⟨10, .data⟩, ⟨2, .guard⟩], some (2, true)⟩) (v := undef) rfl (by kernel_rfl) (by kernel_rfl) (by kernel_rfl) (fun _ _ _ h => h) (Or.inr ⟨by rfl, rfl⟩) hS ?_
            try simp only [Act.put, List.setIfInBounds_toArray, List.set_cons_zero, List.set_cons_succ]
            refine wpAnyH_take (i := 12) (oi := ⟨some 29, .call { callee := .value (.func 23), args := #[.tmp 23, .tmp 28], argTypes := #[24, 24] }, 4, "ref.go:139", #[⟨6, .data⟩, ⟨11, .data⟩, ⟨2, .chain⟩, ⟨2, .guard⟩], some (2, true)⟩) (v := undef) rfl (by kernel_rfl) (by kernel_rfl) (by kernel_rfl) (fun _ _ _ h => h) (Or.inr ⟨by rfl, rfl⟩) hS ?_
            try simp only [Act.put, List.setIfInBounds_toArray, List.set_cons_zero, List.set_cons_succ]
            refine wpAnyH_take (i := 13) (oi := ⟨some 30, .pick (.tmp 19) (.tmp 29) (.const (Value.bool false)), 4, "ref.go:139", #[⟨2, .data⟩, ⟨12, .data⟩], none⟩) (v := ?_) rfl (by kernel_rfl) (by kernel_rfl) (by kernel_rfl) (fun _ _ _ h => h) (Or.inl ⟨by rfl, ?_⟩) hS ?_
            rotate_left
            · intro wv _; go_simp; try with_reducible rfl
            try simp only [Act.put, List.setIfInBounds_toArray, List.set_cons_zero, List.set_cons_succ]
            refine wpAnyH_done (by kernel_rfl) ?_ _
            refine NoPanic.normal ?_
            have HBX := Lib.hid (HBr.out.trans (hS.out.mono HBr.out.size))
            have IOX := Es.below IO2.out hS.out
            have HOX := Lib.hid (hb.out.trans (hS.out.mono hb.out.size))
            clear IO2 HBr hS hb HJ IO
            replace K0 := Lib.hid ((HBX.out.cell (p := ⟨b, off + i * 2, none⟩) HB0.out).trans K0.out)
            replace K1 := Lib.hid ((HBX.out.cell (p := ⟨b, off + i * 2 + 1, none⟩) HB0.out).trans K1.out)
            generalize wr.drew = wx at *
            obtain ⟨wv, hwv⟩ : ∃ x, x = wr := ⟨_, rfl⟩
            subst hwv
            obtain ⟨wr, hwr⟩ : ∃ x, x = wx := ⟨_, rfl⟩
            subst hwr
            obtain ⟨Ch, ch, hsh, hih⟩ := tms_take (P := Try.prog) IOX 22 unTms szTms (k : Int) k rfl (by omega)
            obtain ⟨Ct, ct, hst, hit⟩ := tms_drop (P := Try.prog) IOX 22 unTms szTms (k : Int) k rfl (by omega)
            have IH := Lib.hid hih; have IT := Lib.hid hit
            have hgz : w.heap.size ≤ wr.heap.size := HBX.out.size
            have HBW := Lib.hid (show b < wr.heap.size from Nat.lt_of_lt_of_le HB0.out hgz)
            clear hih hit IOX
            have b3 : k ≤ o := hk
            have k0' : (0 : Int) ≤ (k : Int) := by omega
            have k1' : (k : Int) ≤ (o : Int) := by omega
            generalize hzz : wr.heap.size = zz at *
            have BZ := Lib.hid (show ∀ X, Below zz wr X → Below wr.heap.size wr X from fun X h => by rw [hzz]; exact h)
            have HS : Below zz wr wr := by have h := Below.refl wr.heap.size wr; rwa [hzz] at h
            go_wp2
            refine wp_region_noPanic ?_
            refine wp_region_held_drew (S := (fun wv => Below zz wr wv)) (by kernel_rfl) (HS.drew) (fun hS => ?_)
            refine wpAnyH_take (i := 1) (oi := ⟨some 34, .move (.tmp 3), 22, "ref.go:142", #[], none⟩) (v := ?_) rfl (by kernel_rfl) (by kernel_rfl) (by kernel_rfl) (fun _ _ _ h => h) (Or.inl ⟨by rfl, ?_⟩) hS ?_
            rotate_left
            · intro wv _; go_simp; try with_reducible rfl
            try simp only [Act.put, List.setIfInBounds_toArray, List.set_cons_zero, List.set_cons_succ]
            refine wpAnyH_take (i := 2) (oi := ⟨some 35, .move (.tmp 5), 3, "ref.go:142", #[], none⟩) (v := ?_) rfl (by kernel_rfl) (by kernel_rfl) (by kernel_rfl) (fun _ _ _ h => h) (Or.inl ⟨by rfl, ?_⟩) hS ?_
            rotate_left
            · intro wv _; go_simp; try with_reducible rfl
            try simp only [Act.put, List.setIfInBounds_toArray, List.set_cons_zero, List.set_cons_succ]
            refine wpAnyH_take (i := 3) (oi := ⟨some 36, .slice 22 (.tmp 34) none (some (.tmp 35)) none, 22, "ref.go:142", #[⟨1, .data⟩, ⟨2, .data⟩], none⟩) (v := ?_) rfl (by kernel_rfl) (by kernel_rfl) (by kernel_rfl) (fun _ _ _ h => h) (Or.inl ⟨by rfl, ?_⟩) hS ?_
            rotate_left
            · intro wv _; go_simp; try with_reducible rfl
            try simp only [Act.put, List.setIfInBounds_toArray, List.set_cons_zero, List.set_cons_succ]
            refine wpAnyH_take (i := 5) (oi := ⟨some 38, .move (.tmp 0), 22, "ref.go:142", #[], none⟩) (v := ?_) rfl (by kernel_rfl) (by kernel_rfl) (by kernel_rfl) (fun _ _ _ h => h) (Or.inl ⟨by rfl, ?_⟩) hS ?_
            rotate_left
            · intro wv _; go_simp; try with_reducible rfl
            try simp only [Act.put, List.setIfInBounds_toArray, List.set_cons_zero, List.set_cons_succ]
            refine wpAnyH_take (i := 6) (oi := ⟨some 39, .move (.tmp 4), 3, "ref.go:142", #[], none⟩) (v := ?_) rfl (by kernel_rfl) (by kernel_rfl) (by kernel_rfl) (fun _ _ _ h => h) (Or.inl ⟨by rfl, ?_⟩) hS ?_
            rotate_left
            · intro wv _; go_simp; try with_reducible rfl
            try simp only [Act.put, List.setIfInBounds_toArray, List.set_cons_zero, List.set_cons_succ]
            refine wpAnyH_take (i := 7) (oi := ⟨some 40, .indexAddr 22 (.tmp 38) (.tmp 39), 0, "ref.go:142", #[⟨5, .data⟩, ⟨6, .data⟩], none⟩) (v := ?_) rfl (by kernel_rfl) (by kernel_rfl) (by kernel_rfl) (fun _ _ _ h => h) (Or.inl ⟨by rfl, ?_⟩) hS ?_
            rotate_left
            · intro wv _; go_simp; try with_reducible rfl
            try simp only [Act.put, List.setIfInBounds_toArray, List.set_cons_zero, List.set_cons_succ]
            refine wpAnyH_take (i := 8) (oi := ⟨some 41, .load 24 (.tmp 40), 24, "ref.go:142", #[⟨7, .data⟩], none⟩) (v := .agg (([.int .i64 tw, .int .i64 tk] : List Value)).toArray) rfl (by kernel_rfl) (by kernel_rfl) (by kernel_rfl) (fun _ _ _ h => h) (yieldsIf_load_mid (by rfl) _ _ (by rfl) (b) (off + i * 2) (by rfl) (([.int .i64 tw, .int .i64 tk] : List Value)) _ (fun wv hS => tm_range ((hS.cell (p := ⟨b, off + i * 2, none⟩) (by have := HBW.out; show b < _; omega)).trans K0.out) ((hS.cell (p := ⟨b, off + i * 2 + 1, none⟩) (by have := HBW.out; show b < _; omega)).trans K1.out)) Try.underlying24 (by rfl) (by kernel_rfl)) hS ?_
            try simp only [Act.put, List.setIfInBounds_toArray, List.set_cons_zero, List.set_cons_succ]
            refine wpAnyH_take (i := 11) (oi := ⟨some 44, .move (.tmp 3), 22, "ref.go:142", #[], none⟩) (v := ?_) rfl (by kernel_rfl) (by kernel_rfl) (by kernel_rfl) (fun _ _ _ h => h) (Or.inl ⟨by rfl, ?_⟩) hS ?_
            rotate_left
            · intro wv _; go_simp; try with_reducible rfl
            try simp only [Act.put, List.setIfInBounds_toArray, List.set_cons_zero, List.set_cons_succ]
            refine wpAnyH_take (i := 12) (oi := ⟨some 45, .move (.tmp 5), 3, "ref.go:142", #[], none⟩) (v := ?_) rfl (by kernel_rfl) (by kernel_rfl) (by kernel_rfl) (fun _ _ _ h => h) (Or.inl ⟨by rfl, ?_⟩) hS ?_
            rotate_left
            · intro wv _; go_simp; try with_reducible rfl
            try simp only [Act.put, List.setIfInBounds_toArray, List.set_cons_zero, List.set_cons_succ]
            refine wpAnyH_take (i := 13) (oi := ⟨some 46, .slice 22 (.tmp 44) (some (.tmp 45)) none none, 22, "ref.go:142", #[⟨11, .data⟩, ⟨12, .data⟩], none⟩) (v := ?_) rfl (by kernel_rfl) (by kernel_rfl) (by kernel_rfl) (fun _ _ _ h => h) (Or.inl ⟨by rfl, ?_⟩) hS ?_
            rotate_left
            · intro wv _; go_simp; try with_reducible rfl
            try simp only [Act.put, List.setIfInBounds_toArray, List.set_cons_zero, List.set_cons_succ]
            refine wpAnyH_ready (rs := [0, 9]) (by kernel_rfl) (by simp) (AllReadyH.cons (o := ⟨some 33, .buildSlice 22 0 #[], 22, "ref.go:142", #[], none⟩) rfl (fun K hK => ?_) (AllReadyH.cons (o := ⟨some 42, .buildSlice 22 1 #[(0, .tmp 41)], 22, "ref.go:142", #[⟨8, .data⟩], none⟩) rfl (fun K hK => ?_) AllReadyH.nil))
            ·
             go_simp
             have zs : zz ≤ zz := Nat.le_refl _
             have bd : Below zz wr (wr.alloc (.cells #[] 24)) := by have h := (Below.refl wr.heap.size wr).alloc (Nat.le_refl _) (.cells #[] 24); rwa [hzz] at h
             have OX : (wr.alloc (.cells #[] 24)).ownsRow zz 24 2 (.slice (some ⟨zz, 0, none⟩) 0 0) 0 (tmC []) := by have h := lit_tms (base := zz) wr (Nat.le_of_eq hzz.symm); rw [hzz] at h; exact h
             replace HS := HS.trans (bd.mono zs)
             clear bd zs
             generalize wr.alloc (.cells #[] 24) = y1_ at *
             replace hS := HS.drew
             refine Shut.out hK _ _ hS (fun _ => ?_)
             clear hK K
             try simp only [Act.put, List.setIfInBounds_toArray, List.set_cons_zero, List.set_cons_succ]
             refine wpAnyH_ready (rs := [4, 9]) (by kernel_rfl) (by simp) (AllReadyH.cons (o := ⟨some 37, .call { callee := .builtin .append, args := #[.tmp 33, .tmp 36], argTypes := #[22, 22] }, 22, "ref.go:142", #[⟨0, .data⟩, ⟨3, .data⟩], none⟩) rfl (fun K hK => ?_) (AllReadyH.cons (o := ⟨some 42, .buildSlice 22 1 #[(0, .tmp 41)], 22, "ref.go:142", #[⟨8, .data⟩], none⟩) rfl (fun K hK => ?_) AllReadyH.nil))
             ·
              replace HS := HS.drew
              replace OX : y1_.drew.ownsRow zz 24 2 _ _ _ := ⟨OX.1, OX.2⟩
              have zs : zz ≤ y1_.drew.heap.size := by have h1 := HS.size; rw [hzz] at h1; exact h1
              obtain ⟨A3_, c3_, w3_, hap, hown, hgr⟩ := app_tms y1_.drew zz _ (0) [] OX Ch k ch _ (Es.below IH.out (BZ.out _ HS)) (by omega) zs
              rw [Nat.zero_add] at hap hown
              rw [List.nil_append] at hown
              refine op_app_run7 (by rfl) rfl rfl rfl hap ?_
              have bg : Below zz y1_.drew w3_ := (Below.refl _ _).grown hgr zs (fun k hk => (OX.lt k hk).1)
              replace HS := HS.trans bg
              replace OX := hown
              clear hap hgr hown bg zs
              replace hS := HS
              refine Shut.out hK _ _ hS (fun _ => ?_)
              clear hK K
              try simp only [Act.put, List.setIfInBounds_toArray, List.set_cons_zero, List.set_cons_succ]
              refine wpAnyH_ready (rs := [9]) (by kernel_rfl) (by simp) (AllReadyH.cons (o := ⟨some 42, .buildSlice 22 1 #[(0, .tmp 41)], 22, "ref.go:142", #[⟨8, .data⟩], none⟩) rfl (fun K hK => ?_) AllReadyH.nil)
              go_simp
              have zs : zz ≤ w3_.heap.size := by have h1 := HS.size; rw [hzz] at h1; exact h1
              have bd : Below w3_.heap.size w3_ (w3_.alloc (.cells #[.int .i64 tw, .int .i64 tk] 24)) := (Below.refl _ _).alloc (Nat.le_refl _) _
              have NE := fun k hk => Nat.ne_of_lt (OX.lt k hk).2
              replace OX := own_below OX bd
              have VL : (w3_.alloc (.cells #[.int .i64 tw, .int .i64 tk] 24)).heap[w3_.heap.size]? = some (.cells #[.int .i64 tw, .int .i64 tk] 24) := heap_alloc_new _ _
              replace HS := HS.trans (bd.mono zs)
              clear bd zs
              generalize w3_.alloc (.cells #[.int .i64 tw, .int .i64 tk] 24) = y2_ at *
              generalize hs2_ : w3_.heap.size = s2_ at *
              replace hS := HS
              refine Shut.out hK _ _ hS (fun _ => ?_)
              clear hK K
              try simp only [Act.put, List.setIfInBounds_toArray, List.set_cons_zero, List.set_cons_succ]
              refine wpAnyH_ready (rs := [10]) (by kernel_rfl) (by simp) (AllReadyH.cons (o := ⟨some 43, .call { callee := .builtin .append, args := #[.tmp 37, .tmp 42], argTypes := #[22, 22] }, 22, "ref.go:142", #[⟨4, .data⟩, ⟨9, .data⟩, ⟨4, .chain⟩], none⟩) rfl (fun K hK => ?_) AllReadyH.nil)
              have zs : zz ≤ y2_.heap.size := by have h1 := HS.size; rw [hzz] at h1; exact h1
              obtain ⟨A4_, c4_, w4_, hap, hown, hgr⟩ := app_tms y2_ zz _ (k) (out.take k) OX (some ⟨s2_, 0, none⟩) 1 1 [(tw, tk)] (tms_blk VL) (by omega) zs
              refine op_app_run7 (by rfl) rfl rfl rfl hap ?_
              have bg : Below zz y2_ w4_ := (Below.refl _ _).grown hgr zs (fun k hk => (OX.lt k hk).1)
              replace HS := HS.trans bg
              replace OX := hown
              clear hap hgr hown bg zs
              replace hS := HS
              refine Shut.out hK _ _ hS (fun _ => ?_)
              clear hK K
              try simp only [Act.put, List.setIfInBounds_toArray, List.set_cons_zero, List.set_cons_succ]
              refine wpAnyH_ready (rs := [14]) (by kernel_rfl) (by simp) (AllReadyH.cons (o := ⟨some 47, .call { callee := .builtin .append, args := #[.tmp 43, .tmp 46], argTypes := #[22, 22] }, 22, "ref.go:142", #[⟨10, .data⟩, ⟨13, .data⟩, ⟨10, .chain⟩], none⟩) rfl (fun K hK => ?_) AllReadyH.nil)
              have zs : zz ≤ w4_.heap.size := by have h1 := HS.size; rw [hzz] at h1; exact h1
              obtain ⟨A5_, c5_, w5_, hap, hown, hgr⟩ := app_tms w4_ zz _ (k + 1) (out.take k ++ [(tw, tk)]) OX Ct (o - k) ct _ (Es.below IT.out (BZ.out _ HS)) (by omega) zs
              refine op_app_run7 (by rfl) rfl rfl rfl hap ?_
              have bg : Below zz w4_ w5_ := (Below.refl _ _).grown hgr zs (fun k hk => (OX.lt k hk).1)
              replace HS := HS.trans bg
              replace OX := hown
              clear hap hgr hown bg zs
              replace hS := HS
              refine Shut.out hK _ _ hS (fun _ => ?_)
              clear hK K
              try simp only [Act.put, List.setIfInBounds_toArray, List.set_cons_zero, List.set_cons_succ]
              refine wpAnyH_take (i := 15) (oi := ⟨some 3, .assign (.tmp 47), 22, "ref.go:142", #[⟨14, .data⟩, ⟨14, .chain⟩, ⟨0, .phase⟩, ⟨1, .phase⟩, ⟨2, .phase⟩, ⟨3, .phase⟩, ⟨4, .phase⟩, ⟨5, .phase⟩, ⟨6, .phase⟩, ⟨7, .phase⟩, ⟨8, .phase⟩, ⟨9, .phase⟩, ⟨10, .phase⟩, ⟨11, .phase⟩, ⟨12, .phase⟩, ⟨13, .phase⟩, ⟨14, .phase⟩], none⟩) (v := ?_) rfl (by kernel_rfl) (by kernel_rfl) (by kernel_rfl) (fun _ _ _ h => h) (Or.inl ⟨by rfl, ?_⟩) hS ?_
              rotate_left
              · intro wv _; go_simp; try with_reducible rfl
              try simp only [Act.put, List.setIfInBounds_toArray, List.set_cons_zero, List.set_cons_succ]
              refine wpAnyH_done (by kernel_rfl) ?_ _
              refine NoPanic.normal ?_
              go_wp2
              go_roundw
              case rel => exact ⟨i + 1, k + 1 + (o - k), c5_, A5_, rfl, by go_num, by omega, by have := HOI.out; omega, Lib.hid (show World.ownsRow _ w.heap.size 24 2 _ _ (tmC (sortF h (i + 1))) by rw [HK.out, HSP.out]; have h := own_base OX hgz; rw [List.append_assoc] at h; exact h), Lib.hid (HBX.out.trans (HS.mono hgz))⟩
              case measure => simp [intOf]; omega
             ·
              go_simp
              have zs : zz ≤ y1_.heap.size := by have h1 := HS.size; rw [hzz] at h1; exact h1
              have bd : Below y1_.heap.size y1_ (y1_.alloc (.cells #[.int .i64 tw, .int .i64 tk] 24)) := (Below.refl _ _).alloc (Nat.le_refl _) _
              have NE := fun k hk => Nat.ne_of_lt (OX.lt k hk).2
              replace OX := own_below OX bd
              have VL : (y1_.alloc (.cells #[.int .i64 tw, .int .i64 tk] 24)).heap[y1_.heap.size]? = some (.cells #[.int .i64 tw, .int .i64 tk] 24) := heap_alloc_new _ _
              replace HS := HS.trans (bd.mono zs)
              clear bd zs
              generalize y1_.alloc (.cells #[.int .i64 tw, .int .i64 tk] 24) = y2_ at *
              generalize hs2_ : y1_.heap.size = s2_ at *
              replace hS := HS.drew
              refine Shut.out hK _ _ hS (fun _ => ?_)
              clear hK K
              try simp only [Act.put, List.setIfInBounds_toArray, List.set_cons_zero, List.set_cons_succ]
              refine wpAnyH_ready (rs := [4]) (by kernel_rfl) (by simp) (AllReadyH.cons (o := ⟨some 37, .call { callee := .builtin .append, args := #[.tmp 33, .tmp 36], argTypes := #[22, 22] }, 22, "ref.go:142", #[⟨0, .data⟩, ⟨3, .data⟩], none⟩) rfl (fun K hK => ?_) AllReadyH.nil)
              replace HS := HS.drew
              replace OX : y2_.drew.ownsRow zz 24 2 _ _ _ := ⟨OX.1, OX.2⟩
              replace VL : y2_.drew.heap[_]? = _ := VL
              have zs : zz ≤ y2_.drew.heap.size := by have h1 := HS.size; rw [hzz] at h1; exact h1
              obtain ⟨A3_, c3_, w3_, hap, hown, hgr⟩ := app_tms y2_.drew zz _ (0) [] OX Ch k ch _ (Es.below IH.out (BZ.out _ HS)) (by omega) zs
              rw [Nat.zero_add] at hap hown
              rw [List.nil_append] at hown
              refine op_app_run7 (by rfl) rfl rfl rfl hap ?_
              replace VL := blk_grown VL hgr NE
              clear NE
              have bg : Below zz y2_.drew w3_ := (Below.refl _ _).grown hgr zs (fun k hk => (OX.lt k hk).1)
              replace HS := HS.trans bg
              replace OX := hown
              clear hap hgr hown bg zs
              replace hS := HS
              refine Shut.out hK _ _ hS (fun _ => ?_)
              clear hK K
              try simp only [Act.put, List.setIfInBounds_toArray, List.set_cons_zero, List.set_cons_succ]
              refine wpAnyH_ready (rs := [10]) (by kernel_rfl) (by simp) (AllReadyH.cons (o := ⟨some 43, .call { callee := .builtin .append, args := #[.tmp 37, .tmp 42], argTypes := #[22, 22] }, 22, "ref.go:142", #[⟨4, .data⟩, ⟨9, .data⟩, ⟨4, .chain⟩], none⟩) rfl (fun K hK => ?_) AllReadyH.nil)
              have zs : zz ≤ w3_.heap.size := by have h1 := HS.size; rw [hzz] at h1; exact h1
              obtain ⟨A4_, c4_, w4_, hap, hown, hgr⟩ := app_tms w3_ zz _ (k) (out.take k) OX (some ⟨s2_, 0, none⟩) 1 1 [(tw, tk)] (tms_blk VL) (by omega) zs
              refine op_app_run7 (by rfl) rfl rfl rfl hap ?_
              have bg : Below zz w3_ w4_ := (Below.refl _ _).grown hgr zs (fun k hk => (OX.lt k hk).1)
              replace HS := HS.trans bg
              replace OX := hown
              clear hap hgr hown bg zs
              replace hS := HS
              refine Shut.out hK _ _ hS (fun _ => ?_)
              clear hK K
              try simp only [Act.put, List.setIfInBounds_toArray, List.set_cons_zero, List.set_cons_succ]
              refine wpAnyH_ready (rs := [14]) (by kernel_rfl) (by simp) (AllReadyH.cons (o := ⟨some 47, .call { callee := .builtin .append, args := #[.tmp 43, .tmp 46], argTypes := #[22, 22] }, 22, "ref.go:142", #[⟨10, .data⟩, ⟨13, .data⟩, ⟨10, .chain⟩], none⟩) rfl (fun K hK => ?_) AllReadyH.nil)
              have zs : zz ≤ w4_.heap.size := by have h1 := HS.size; rw [hzz] at h1; exact h1
              obtain ⟨A5_, c5_, w5_, hap, hown, hgr⟩ := app_tms w4_ zz _ (k + 1) (out.take k ++ [(tw, tk)]) OX Ct (o - k) ct _ (Es.below IT.out (BZ.out _ HS)) (by omega) zs
              refine op_app_run7 (by rfl) rfl rfl rfl hap ?_
              have bg : Below zz w4_ w5_ := (Below.refl _ _).grown hgr zs (fun k hk => (OX.lt k hk).1)
              replace HS := HS.trans bg
              replace OX := hown
              clear hap hgr hown bg zs
              replace hS := HS
              refine Shut.out hK _ _ hS (fun _ => ?_)
              clear hK K
              try simp only [Act.put, List.setIfInBounds_toArray, List.set_cons_zero, List.set_cons_succ]
              refine wpAnyH_take (i := 15) (oi := ⟨some 3, .assign (.tmp 47), 22, "ref.go:142", #[⟨14, .data⟩, ⟨14, .chain⟩, ⟨0, .phase⟩, ⟨1, .phase⟩, ⟨2, .phase⟩, ⟨3, .phase⟩, ⟨4, .phase⟩, ⟨5, .phase⟩, ⟨6, .phase⟩, ⟨7, .phase⟩, ⟨8, .phase⟩, ⟨9, .phase⟩, ⟨10, .phase⟩, ⟨11, .phase⟩, ⟨12, .phase⟩, ⟨13, .phase⟩, ⟨14, .phase⟩], none⟩) (v := ?_) rfl (by kernel_rfl) (by kernel_rfl) (by kernel_rfl) (fun _ _ _ h => h) (Or.inl ⟨by rfl, ?_⟩) hS ?_
              rotate_left
              · intro wv _; go_simp; try with_reducible rfl
              try simp only [Act.put, List.setIfInBounds_toArray, List.set_cons_zero, List.set_cons_succ]
              refine wpAnyH_done (by kernel_rfl) ?_ _
              refine NoPanic.normal ?_
              go_wp2
              go_roundw
              case rel => exact ⟨i + 1, k + 1 + (o - k), c5_, A5_, rfl, by go_num, by omega, by have := HOI.out; omega, Lib.hid (show World.ownsRow _ w.heap.size 24 2 _ _ (tmC (sortF h (i + 1))) by rw [HK.out, HSP.out]; have h := own_base OX hgz; rw [List.append_assoc] at h; exact h), Lib.hid (HBX.out.trans (HS.mono hgz))⟩
              case measure => simp [intOf]; omega
            ·
             go_simp
             have zs : zz ≤ zz := Nat.le_refl _
             have bd : Below zz wr (wr.alloc (.cells #[.int .i64 tw, .int .i64 tk] 24)) := by have h := (Below.refl wr.heap.size wr).alloc (Nat.le_refl _) (.cells #[.int .i64 tw, .int .i64 tk] 24); rwa [hzz] at h
             have VL : (wr.alloc (.cells #[.int .i64 tw, .int .i64 tk] 24)).heap[zz]? = some (.cells #[.int .i64 tw, .int .i64 tk] 24) := by have h := heap_alloc_new wr (.cells #[.int .i64 tw, .int .i64 tk] 24); rw [hzz] at h; exact h
             replace HS := HS.trans (bd.mono zs)
             clear bd zs
             generalize wr.alloc (.cells #[.int .i64 tw, .int .i64 tk] 24) = y1_ at *
             replace hS := HS.drew
             refine Shut.out hK _ _ hS (fun _ => ?_)
             clear hK K
             try simp only [Act.put, List.setIfInBounds_toArray, List.set_cons_zero, List.set_cons_succ]
             refine wpAnyH_ready (rs := [0]) (by kernel_rfl) (by simp) (AllReadyH.cons (o := ⟨some 33, .buildSlice 22 0 #[], 22, "ref.go:142", #[], none⟩) rfl (fun K hK => ?_) AllReadyH.nil)
             go_simp
             have zs : zz ≤ y1_.heap.size := by have h1 := HS.size; rw [hzz] at h1; exact h1
             have bd : Below y1_.heap.size y1_ (y1_.alloc (.cells #[] 24)) := (Below.refl _ _).alloc (Nat.le_refl _) _
             have ltl := blk_lt VL
             replace VL := blk_below VL bd ltl
             have OX : (y1_.alloc (.cells #[] 24)).ownsRow zz 24 2 (.slice (some ⟨y1_.heap.size, 0, none⟩) 0 0) 0 (tmC []) := lit_tms y1_ zs
             have NE : ∀ k, (Value.slice (some ⟨y1_.heap.size, 0, none⟩) 0 0).ownBlock = some k → k ≠ zz := fun k hk => by simp [Value.ownBlock] at hk; subst hk; exact (Nat.ne_of_lt ltl).symm
             clear ltl
             replace HS := HS.trans (bd.mono zs)
             clear bd zs
             generalize y1_.alloc (.cells #[] 24) = y2_ at *
             generalize hs2_ : y1_.heap.size = s2_ at *
             replace hS := HS.drew
             refine Shut.out hK _ _ hS (fun _ => ?_)
             clear hK K
             try simp only [Act.put, List.setIfInBounds_toArray, List.set_cons_zero, List.set_cons_succ]
             refine wpAnyH_ready (rs := [4]) (by kernel_rfl) (by simp) (AllReadyH.cons (o := ⟨some 37, .call { callee := .builtin .append, args := #[.tmp 33, .tmp 36], argTypes := #[22, 22] }, 22, "ref.go:142", #[⟨0, .data⟩, ⟨3, .data⟩], none⟩) rfl (fun K hK => ?_) AllReadyH.nil)
             replace HS := HS.drew
             replace OX : y2_.drew.ownsRow zz 24 2 _ _ _ := ⟨OX.1, OX.2⟩
             replace VL : y2_.drew.heap[_]? = _ := VL
             have zs : zz ≤ y2_.drew.heap.size := by have h1 := HS.size; rw [hzz] at h1; exact h1
             obtain ⟨A3_, c3_, w3_, hap, hown, hgr⟩ := app_tms y2_.drew zz _ (0) [] OX Ch k ch _ (Es.below IH.out (BZ.out _ HS)) (by omega) zs
             rw [Nat.zero_add] at hap hown
             rw [List.nil_append] at hown
             refine op_app_run7 (by rfl) rfl rfl rfl hap ?_
             replace VL := blk_grown VL hgr NE
             clear NE
             have bg : Below zz y2_.drew w3_ := (Below.refl _ _).grown hgr zs (fun k hk => (OX.lt k hk).1)
             replace HS := HS.trans bg
             replace OX := hown
             clear hap hgr hown bg zs
             replace hS := HS
             refine Shut.out hK _ _ hS (fun _ => ?_)
             clear hK K
             try simp only [Act.put, List.setIfInBounds_toArray, List.set_cons_zero, List.set_cons_succ]
             refine wpAnyH_ready (rs := [10]) (by kernel_rfl) (by simp) (AllReadyH.cons (o := ⟨some 43, .call { callee := .builtin .append, args := #[.tmp 37, .tmp 42], argTypes := #[22, 22] }, 22, "ref.go:142", #[⟨4, .data⟩, ⟨9, .data⟩, ⟨4, .chain⟩], none⟩) rfl (fun K hK => ?_) AllReadyH.nil)
             have zs : zz ≤ w3_.heap.size := by have h1 := HS.size; rw [hzz] at h1; exact h1
             obtain ⟨A4_, c4_, w4_, hap, hown, hgr⟩ := app_tms w3_ zz _ (k) (out.take k) OX (some ⟨zz, 0, none⟩) 1 1 [(tw, tk)] (tms_blk VL) (by omega) zs
             refine op_app_run7 (by rfl) rfl rfl rfl hap ?_
             have bg : Below zz w3_ w4_ := (Below.refl _ _).grown hgr zs (fun k hk => (OX.lt k hk).1)
             replace HS := HS.trans bg
             replace OX := hown
             clear hap hgr hown bg zs
             replace hS := HS
             refine Shut.out hK _ _ hS (fun _ => ?_)
             clear hK K
             try simp only [Act.put, List.setIfInBounds_toArray, List.set_cons_zero, List.set_cons_succ]
             refine wpAnyH_ready (rs := [14]) (by kernel_rfl) (by simp) (AllReadyH.cons (o := ⟨some 47, .call { callee := .builtin .append, args := #[.tmp 43, .tmp 46], argTypes := #[22, 22] }, 22, "ref.go:142", #[⟨10, .data⟩, ⟨13, .data⟩, ⟨10, .chain⟩], none⟩) rfl (fun K hK => ?_) AllReadyH.nil)
             have zs : zz ≤ w4_.heap.size := by have h1 := HS.size; rw [hzz] at h1; exact h1
             obtain ⟨A5_, c5_, w5_, hap, hown, hgr⟩ := app_tms w4_ zz _ (k + 1) (out.take k ++ [(tw, tk)]) OX Ct (o - k) ct _ (Es.below IT.out (BZ.out _ HS)) (by omega) zs
             refine op_app_run7 (by rfl) rfl rfl rfl hap ?_
             have bg : Below zz w4_ w5_ := (Below.refl _ _).grown hgr zs (fun k hk => (OX.lt k hk).1)
             replace HS := HS.trans bg
             replace OX := hown
             clear hap hgr hown bg zs
             replace hS := HS
             refine Shut.out hK _ _ hS (fun _ => ?_)
             clear hK K
             try simp only [Act.put, List.setIfInBounds_toArray, List.set_cons_zero, List.set_cons_succ]
             refine wpAnyH_take (i := 15) (oi := ⟨some 3, .assign (.tmp 47), 22, "ref.go:142", #[⟨14, .data⟩, ⟨14, .chain⟩, ⟨0, .phase⟩, ⟨1, .phase⟩, ⟨2, .phase⟩, ⟨3, .phase⟩, ⟨4, .phase⟩, ⟨5, .phase⟩, ⟨6, .phase⟩, ⟨7, .phase⟩, ⟨8, .phase⟩, ⟨9, .phase⟩, ⟨10, .phase⟩, ⟨11, .phase⟩, ⟨12, .phase⟩, ⟨13, .phase⟩, ⟨14, .phase⟩], none⟩) (v := ?_) rfl (by kernel_rfl) (by kernel_rfl) (by kernel_rfl) (fun _ _ _ h => h) (Or.inl ⟨by rfl, ?_⟩) hS ?_
             rotate_left
             · intro wv _; go_simp; try with_reducible rfl
             try simp only [Act.put, List.setIfInBounds_toArray, List.set_cons_zero, List.set_cons_succ]
             refine wpAnyH_done (by kernel_rfl) ?_ _
             refine NoPanic.normal ?_
             go_wp2
             go_roundw
             case rel => exact ⟨i + 1, k + 1 + (o - k), c5_, A5_, rfl, by go_num, by omega, by have := HOI.out; omega, Lib.hid (show World.ownsRow _ w.heap.size 24 2 _ _ (tmC (sortF h (i + 1))) by rw [HK.out, HSP.out]; have h := own_base OX hgz; rw [List.append_assoc] at h; exact h), Lib.hid (HBX.out.trans (HS.mono hgz))⟩
             case measure => simp [intOf]; omega
      · have en : i = n := by omega
        have c1 : decide ((i : Int) < (n : Int)) = false := by simp; omega
        have c1n : decide (i < n) = false := by simp; omega
        have hre := HE.out
        rw [← en] at hre
        have HRE := Lib.hid hre
        clear hre en hlt
        go_wp2
        go_ret
        rw [HRE.out]
        exact ⟨_, _, _, rfl, OW.out, HB.out⟩
end Go.Proofs.Ytehpfpphpffniaa
