/- What slices.SortFunc of at most 12 timers and the landed timer's own Due and Sorted answer; for lists of up to 16384. -/
import Derived.Test.YtehpfpphpffniaaTimLE
import Derived.Test.YtehpfpphpffniaaLen64
namespace Go.Proofs.Ytehpfpphpffniaa
set_option linter.unusedVariables false
set_option linter.unusedSimpArgs false
open Go.RowKit
/-- a row of one's own is kept where another one's block, of another type, is turned. -/
theorem own_apart12 {w w' : World} {base k n base' k' m : Nat} {T T' : TypeId} {v u : Value} {xs ys : List Value} (h : w.ownsRow base T k v n xs) (g : w.grownBy w' u.ownBlock) (ho : w.ownsRow base' T' k' u m ys) (hT : T ≠ T') : w'.ownsRow base T k v n xs := by
  obtain ⟨h1, h2⟩ := h
  refine ⟨h1, ?_⟩
  rcases h2 with h2 | ⟨b, cap, cur, h3, h4, h5, h6⟩
  · exact Or.inl h2
  · refine Or.inr ⟨b, cap, cur, h3, h4, ?_, h6⟩
    exact blk_grown h5 g (fun k hk hkb => own_ne ho h5 (Ne.symm hT) (by rw [hk, hkb]))
theorem swap_at : ∀ (A : List Tm) (a b : Tm) (C : List Tm), swapT (A ++ a :: b :: C) (A.length + 1) A.length = A ++ b :: a :: C
  | [], a, b, C => rfl
  | z :: A, a, b, C => by
    have := swap_at A a b C
    show z :: swapT (A ++ a :: b :: C) (A.length + 1) A.length = _
    rw [this]; rfl
theorem swapT_flip (h : List Tm) {i p : Nat} (hne : i ≠ p) : swapT h i p = (h.set p (tmAt h i)).set i (tmAt h p) := by
  unfold swapT; exact List.set_comm _ _ hne
theorem tmAt_mid (A : List Tm) (x : Tm) (C : List Tm) : tmAt (A ++ x :: C) A.length = x := by
  unfold tmAt; rw [List.getD_eq_getElem?_getD, List.getElem?_append_right (Nat.le_refl _), Nat.sub_self]; rfl
theorem tmAt_pre {A C : List Tm} {j : Nat} (hj : j < A.length) : tmAt (A ++ C) j = tmAt A j := by
  unfold tmAt; rw [List.getD_eq_getElem?_getD, List.getD_eq_getElem?_getD, List.getElem?_append_left hj]
/-- sorting, amid it. -/
def midS (s : List Tm) (x : Tm) (C : List Tm) (j : Nat) : List Tm := s.take j ++ x :: (s.drop j ++ C)
theorem midS_len {s C : List Tm} {x : Tm} {j : Nat} (hj : j ≤ s.length) : (midS s x C j).length = s.length + 1 + C.length := by
  unfold midS; simp; omega
theorem midS_at {s C : List Tm} {x : Tm} {j : Nat} (hj : j ≤ s.length) : tmAt (midS s x C j) j = x := by
  have h1 : (s.take j).length = j := by rw [List.length_take]; omega
  unfold midS
  have := tmAt_mid (s.take j) x (s.drop j ++ C)
  rwa [h1] at this
theorem midS_pre {s C : List Tm} {x : Tm} {j l : Nat} (hj : j ≤ s.length) (hl : l < j) : tmAt (midS s x C j) l = tmAt s l := by
  unfold midS
  rw [tmAt_pre (by rw [List.length_take]; omega), tmAt_take hl]
theorem midS_swap {s C : List Tm} {x : Tm} {j : Nat} (hj : j + 1 ≤ s.length) : swapT (midS s x C (j + 1)) (j + 1) j = midS s x C j := by
  have h1 : (s.take j).length = j := by rw [List.length_take]; omega
  have h2 : s.take (j + 1) = s.take j ++ [tmAt s j] := by rw [List.take_add_one, List.getElem?_eq_getElem (by omega), tmAt_get (by omega)]; rfl
  have h3 : s.drop j = tmAt s j :: s.drop (j + 1) := by rw [tmAt_get (by omega)]; exact List.drop_eq_getElem_cons (by omega)
  have := swap_at (s.take j) (tmAt s j) x (s.drop (j + 1) ++ C)
  rw [h1] at this
  unfold midS
  rw [h2, h3, List.append_assoc]
  exact this
theorem midS_done {s C : List Tm} {x : Tm} {j : Nat} (hs : Srt s) (hj : j ≤ s.length) (h1 : ∀ l : Nat, j ≤ l → l < s.length → befT x (tmAt s l)) (h2 : j = 0 ∨ ¬ befT x (tmAt s (j - 1))) : midS s x C j = insT12 x s ++ C := by
  rw [ins_split hj (fun l hl => ?_) (fun h => h1 j (Nat.le_refl _) h)]
  · unfold midS; simp
  · rcases h2 with h2 | h2
    · omega
    · exact srt_lo hs (k := j - 1) (by omega) h2 l (by omega)
set_option maxRecDepth 100000 in
set_option maxHeartbeats 8000000 in
theorem tmDueL (A : Option Addr) (n c : Nat) (h : List Tm) (now : Int) (w : World) (hx : Tms w A n c h) (hn : n ≤ 16384) :
    Calls Try.prog 18 #[.slice A n c, .int .i64 now] w (DW w (dueH h now).1 (dueH h now).2.1 (dueH h now).2.2) := by
  have hlen : h.length = n := hx.len
  have RX := Lib.hid hx
  have RT := fun (W : World) (hw : Tms W A n c h) => tmRightL A n c h W hw hn
  have CP := Lib.hid (fun (W : World) (hw : Tms W A n c h) => copied12_any A n c h W hw hn)
  obtain ⟨R, hR⟩ : ∃ R, dueH h now = R := ⟨_, rfl⟩
  rw [hR]
  cases hr : rightH h
  · rw [hr] at RT
    replace RT := Lib.hid RT
    have HE := Lib.hid (show R = (h, [], 1) by rw [← hR]; unfold dueH; rw [if_pos hr])
    clear hr hR hlen hx
    go_enter Try.func18, Try.ntmps18
    go_wp2_with fail
    refine (CP.out w RX.out).mono ?_
    rintro e w1 ⟨B, d, rfl, hown, hb⟩
    have OW := Lib.hid hown; have HB := Lib.hid hb
    clear hown hb CP
    go_wp2_with fail
    refine (RT.out w1 (Es.below RX.out HB.out)).mono ?_
    rintro e w2 ⟨rfl, hb⟩
    replace OW := Lib.hid (own_below OW.out hb)
    replace HB := Lib.hid (HB.out.trans (hb.mono HB.out.size))
    clear hb RT
    go_wp2
    go_ret3
    rw [HE.out]
    exact ⟨B, n, d, none, 0, 0, rfl, tms_own OW.out, Es.nil _ _ _ _, HB.out⟩
  · rw [hr] at RT
    replace RT := Lib.hid RT
    have hr1 := rt_iff.1 hr
    have HR := Lib.hid (show R = ((dueF now (n + 1) h []).1, (dueF now (n + 1) h []).2, 0) by rw [← hR]; unfold dueH; rw [if_neg (by rw [hr]; simp), hlen])
    have hn12 : n ≤ 12 := by have := hr1.len; omega
    have HR1 := Lib.hid hr1
    clear hr hR hlen hx hr1
    go_enter Try.func18, Try.ntmps18
    go_wp2_with fail
    refine (CP.out w RX.out).mono ?_
    rintro e w1 ⟨B, d, rfl, hown, hb⟩
    have OW := Lib.hid hown; have HB := Lib.hid hb
    clear hown hb CP
    go_wp2_with fail
    refine (RT.out w1 (Es.below RX.out HB.out)).mono ?_
    rintro e w2 ⟨rfl, hb⟩
    replace OW := Lib.hid (own_below OW.out hb)
    replace HB := Lib.hid (HB.out.trans (hb.mono HB.out.size))
    clear hb RT
    obtain ⟨D, hD⟩ : ∃ D, dueF now (n + 1) h [] = D := ⟨_, rfl⟩
    have hR2 := HR.out
    rw [hD] at hR2
    have HD := Lib.hid hD
    replace HR := Lib.hid hR2
    clear hD hR2
    go_wp2
    go_loopw [7, 8] (fun hv ov wr => ∃ (B : Option Addr) (m d : Nat) (C : Option Addr) (o f : Nat), hv = .slice B m d ∧ ov = .slice C o f ∧ o + m ≤ n ∧ Hid (∃ (f2 : Nat) (h2 : List Tm) (out2 : List Int), m < f2 ∧ dueF now f2 h2 out2 = D ∧ Rt h2 ∧ wr.ownsRow w.heap.size 24 2 (.slice B m d) m (tmC h2) ∧ wr.ownsRow w.heap.size 3 1 (.slice C o f) o (intC out2)) ∧ Hid (Below w.heap.size w wr)) (fun hv _ _ => lenV hv)
    case atStart => exact ⟨B, n, d, none, 0, 0, rfl, rfl, by omega, Lib.hid ⟨n + 1, h, [], by omega, HD.out, HR1.out, OW.out, World.ownsRow_nil _ _ _ _⟩, HB⟩
    case round =>
      clear HB OW HD HR1
      obtain ⟨B, m, d, C, o, f, rfl, rfl, hom, HX, HB⟩ := hrel
      obtain ⟨f2, h2, out2, hf2, hd2, hr2, hro, how⟩ := HX.out
      clear HX
      obtain ⟨f3, rfl⟩ : ∃ f3, f2 = f3 + 1 := ⟨f2 - 1, by omega⟩
      have hl2 : h2.length = m := (tms_own hro).len
      have RO := Lib.hid hro; have OW := Lib.hid how; have R2 := Lib.hid hr2; have HF2 := Lib.hid hf2
      clear hro how hr2 hf2
      by_cases h0 : 0 < m
      · obtain ⟨g, rfl⟩ := own_some12 RO.out h0
        have c0 : decide ((0 : Int) < (m : Int)) = true := by simpa using h0
        have c0n : decide (0 < m) = true := by simpa using h0
        have m0 : (0 : Int) < (m : Int) := by omega
        have hne : h2 ≠ [] := fun h5 => by rw [h5] at hl2; simp at hl2; omega
        obtain ⟨k0, k1⟩ := (TW.mk0 RO.out).at 0 h0
        obtain ⟨⟨tw, tk⟩, ht⟩ : ∃ x, tmAt h2 0 = x := ⟨_, rfl⟩
        rw [ht] at k0 k1
        simp only [Nat.zero_mul, Nat.zero_add] at k0 k1
        by_cases h1 : tw ≤ now
        · have c1_ : decide (tw ≤ now) = true := by simpa using h1
          have hd3 := hd2
          rw [dueF_on hne (by rw [ht]; exact h1) R2.out, ht] at hd3
          have HD3 := Lib.hid hd3
          obtain ⟨w1r, w1l, _⟩ := wio_rt R2.out (i := 0) (by omega)
          have W1 := Lib.hid w1r; have HWL := Lib.hid (show (wioT h2 0).length = m - 1 by rw [w1l, hl2])
          have HM := Lib.hid h0
          clear hd2 hd3 w1r w1l ht hne h1 hl2
          have bl : Below wr.heap.size wr (wr.alloc (.cells #[.int .i64 tk] 3)) := (Below.refl _ _).alloc (Nat.le_refl _) _
          obtain ⟨A4, c4, w6, hap, hown6, hgr6⟩ := app_ints (wr.alloc (.cells #[.int .i64 tk] 3)) w.heap.size _ o out2 (own_below OW.out bl) (some ⟨wr.heap.size, 0, none⟩) 1 1 [tk] (is_lit wr [tk] rfl) (by omega) (by have := HB.out.size; simp; omega)
          have OW6 := Lib.hid hown6
          have RO6 := Lib.hid (own_apart12 (own_below RO.out bl) hgr6 (own_below OW.out bl) (by decide))
          have HB6 := Lib.hid ((HB.out.alloc HB.out.size (.cells #[.int .i64 tk] 3)).grown hgr6 (by have := HB.out.size; simp; omega) (fun k hk => (OW.out.lt k hk).1))
          clear hown6 hgr6 bl OW RO HB
          go_wp2_with (at_builtin; refine eapp_run (by rfl) rfl rfl rfl hap ?_)
          refine (wiout12_any w.heap.size g m d 0 h2 w6 RO6.out (by omega) HM.out).mono ?_
          rintro e w7 ⟨rfl, hT⟩
          have RO7 := Lib.hid hT.own
          have OW7 := Lib.hid (own_apart12 OW6.out hT.gr RO6.out (by decide))
          have HB7 := Lib.hid (HB6.out.grown hT.gr HB6.out.size (fun k hk => by cases hk; exact hT.ge))
          clear hT OW6 RO6 HB6 k0 k1
          go_wp2
          go_roundw
          case rel => exact ⟨_, m - 1, d, A4, o + 1, c4, rfl, rfl, by have := HM.out; omega, Lib.hid ⟨f3, _, _, by have := HF2.out; have := HM.out; omega, HD3.out, W1.out, RO7.out, OW7.out⟩, HB7⟩
          case measure => have := HM.out; simp [lenV]; omega
        · have c1_ : decide (tw ≤ now) = false := by simpa using h1
          rw [dueF_off (fun h5 => h1 (by have := h5.2; rw [ht] at this; exact this))] at hd2
          have HO := Lib.hid hd2.symm
          clear hd2 hne ht h1 hl2
          go_wp2
          go_ret3
          rw [HR.out, HO.out]
          exact ⟨_, m, d, C, o, f, rfl, tms_own RO.out, is_own12 OW.out, HB.out⟩
      · have em : m = 0 := by omega
        have c0 : decide ((0 : Int) < (m : Int)) = false := by simp; omega
        have c0n : decide (0 < m) = false := by simp; omega
        rw [dueF_off (fun h5 => h5.1 (List.eq_nil_of_length_eq_zero (by omega)))] at hd2
        have HO := Lib.hid hd2.symm
        clear hd2 hl2 em h0
        go_wp2
        go_ret3
        rw [HR.out, HO.out]
        exact ⟨_, m, d, C, o, f, rfl, tms_own RO.out, is_own12 OW.out, HB.out⟩
def SrtP (w : World) (base : Nat) (B : Option Addr) (n d : Nat) (h : List Tm) (e : Ending) (w' : World) : Prop := e = .returned (.tuple #[]) ∧ w'.ownsRow base 24 2 (.slice B n d) n (tmC h) ∧ Below base w w'
set_option maxRecDepth 100000 in
set_option maxHeartbeats 8000000 in
theorem ins12_any (base n d : Nat) (B : Option Addr) (h : List Tm) (w : World) (ho : w.ownsRow base 24 2 (.slice B n d) n (tmC h)) (hn : n ≤ 12) (hbase : base ≤ w.heap.size) (hu : Un h) :
    Calls Try.prog 50 #[.slice B n d, .int .i64 0, .int .i64 (n : Int), .func (.func 36) #[] #[]] w (SrtP w base B n d (sortF h n)) := by
  have hlen : h.length = n := (tms_own ho).len
  have OW := Lib.hid ho
  have HBS := Lib.hid hbase
  have HL := Lib.hid hlen
  have TU := Lib.hid (fun (a1 a2 b1 b2 : Int) (W : World) => turn12_any a1 a2 b1 b2 W)
  obtain ⟨R, hR⟩ : ∃ R, sortF h n = R := ⟨_, rfl⟩
  rw [hR]
  have HR := Lib.hid hR
  have HSO := Lib.hid (fun (k : Nat) (hk : k ≤ n) => sortF_ok hu k (by rw [hlen]; exact hk))
  clear ho hbase hR hu hlen
  by_cases h0 : n = 0
  · subst h0
    have HE := Lib.hid (show R = h from by rw [← HR.out]; exact (List.eq_nil_of_length_eq_zero HL.out).symm)
    go_enter Try.func50, Try.ntmps50
    go_wp2
    go_loopw [8] (fun iv wr => iv = .int .i64 1 ∧ wr = w) (fun _ _ => 0)
    case atStart => exact ⟨rfl, by first | trivial | rfl⟩
    case round =>
      obtain ⟨rfl, hw⟩ := hrel
      subst hw
      go_wp2
      refine bodyPost_end (results_none rfl _ _ _) rfl ?_
      rw [HE.out]
      exact ⟨rfl, OW.out, Below.refl _ _⟩
  · obtain ⟨g, rfl⟩ := own_some12 OW.out (by omega)
    have HT0 := Lib.hid (show TW base w w g n d (sortF h 1 ++ h.drop 1) from by
      have h5 : sortF h 1 ++ h.drop 1 = h := by
        have h6 : h = tmAt h 0 :: h.drop 1 := by rw [tmAt_get (by have := HL.out; omega)]; exact List.drop_eq_getElem_cons (i := 0) (by have := HL.out; omega)
        conv => rhs; rw [h6]
        rfl
      rw [h5]; exact TW.mk0 OW.out)
    clear OW
    go_enter Try.func50, Try.ntmps50
    go_wp2
    go_loopw [8] (fun iv wr => ∃ (i : Nat), iv = .int .i64 (i : Int) ∧ 1 ≤ i ∧ i ≤ n ∧ Hid (TW base w wr g n d (sortF h i ++ h.drop i))) (fun iv _ => n - (intOf iv).toNat)
    case atStart => exact ⟨1, rfl, by omega, by omega, HT0⟩
    case round =>
      clear HT0
      obtain ⟨i, rfl, hi1, hi, HT⟩ := hrel
      by_cases hlt : i < n
      · have c1 : decide ((i : Int) < (n : Int)) = true := by simpa using hlt
        have HIN := Lib.hid hlt
        obtain ⟨hsr, hsl, _⟩ := HSO.out i (by omega)
        obtain ⟨sl, hsl2⟩ : ∃ l, sortF h i = l := ⟨_, rfl⟩
        obtain ⟨⟨tw, tk⟩, ht⟩ : ∃ x, tmAt h i = x := ⟨_, rfl⟩
        have HNX := Lib.hid (show sortF h (i + 1) = insT12 (tw, tk) sl from by rw [← hsl2, ← ht]; rfl)
        rw [hsl2] at hsr hsl
        have HSR := Lib.hid hsr; have HSL := Lib.hid hsl
        have HT1 := Lib.hid (show TW base w wr g n d (midS sl (tw, tk) (h.drop (i + 1)) i) from by
          have h5 : midS sl (tw, tk) (h.drop (i + 1)) i = sortF h i ++ h.drop i := by
            unfold midS
            rw [hsl2, List.drop_of_length_le (by omega), List.take_of_length_le (by omega), List.nil_append, ← ht, tmAt_get (by have := HL.out; omega), ← List.drop_eq_getElem_cons]
          rw [h5]; exact HT.out)
        clear HT hsl2 ht hsr hsl
        go_wp2
        obtain ⟨wo, hwo⟩ : ∃ x, x = wr := ⟨_, rfl⟩
        subst hwo
        go_loopw [9] (fun jv wr => ∃ (j : Nat), jv = .int .i64 (j : Int) ∧ j ≤ i ∧ Hid (∀ l : Nat, j ≤ l → l < i → befT (tw, tk) (tmAt sl l)) ∧ Hid (TW base w wr g n d (midS sl (tw, tk) (h.drop (i + 1)) j))) (fun jv _ => (intOf jv).toNat)
        case atStart => exact ⟨i, rfl, by omega, Lib.hid (fun l h5 h6 => by omega), HT1⟩
        case round =>
          clear HT1
          obtain ⟨j, rfl, hji, HA, HT⟩ := hrel
          by_cases hj0 : 0 < j
          · have d0 : decide ((0 : Int) < (j : Int)) = true := by simpa using hj0
            have d0n : decide (0 < j) = true := by simpa using hj0
            obtain ⟨p, rfl⟩ : ∃ p, j = p + 1 := ⟨j - 1, by omega⟩
            obtain ⟨j, hj⟩ : ∃ j, p + 1 = j := ⟨_, rfl⟩
            rw [hj] at d0 d0n hj0 hji HA HT
            have HPJ := Lib.hid hj
            have hs1 : IntKind.i64.wrap ((j : Int) - 1) = (p : Int) := by rw [IntKind.wrap_i64]; omega
            have hs2 : ((p + 1 : Nat) : Int) = (j : Int) := by omega
            have j0 : (0 : Int) ≤ (j : Int) := by omega
            have j1 : (j : Int) < (n : Int) := by omega
            have p0 : (0 : Int) ≤ (p : Int) := by omega
            have p1 : (p : Int) < (n : Int) := by omega
            have HJN := Lib.hid (show j < n by omega)
            have HPN := Lib.hid (show p < n by omega)
            have HJL := Lib.hid (show j ≤ sl.length by rw [HSL.out]; exact hji)
            obtain ⟨⟨pw, pk⟩, hpt⟩ : ∃ x, tmAt sl p = x := ⟨_, rfl⟩
            have AT := Lib.hid (midS_at (C := h.drop (i + 1)) (x := (tw, tk)) HJL.out)
            have PT := Lib.hid (show tmAt (midS sl (tw, tk) (h.drop (i + 1)) j) p = (pw, pk) from by rw [midS_pre HJL.out (by omega), hpt])
            have HPT := Lib.hid hpt
            have TB := turn_bef tw tk pw pk
            have TQ := fun W => TU.out tw tk pw pk W
            obtain ⟨r, hrr⟩ : ∃ r, orI (cmpI tw pw) (cmpI tk pk) = r := ⟨_, rfl⟩
            rw [hrr] at TB TQ
            replace TQ := Lib.hid TQ
            clear hpt hrr hj
            by_cases hb : befT (tw, tk) (pw, pk)
            · rw [decide_eq_true hb] at TB
              have HB := Lib.hid hb
              clear hb
              go_upto_region 4 with fail
              refine wp_region_noPanic ?_
              refine wp_region_held_drew (S := (fun wv => Hid (TW base w wv g n d (midS sl (tw, tk) (h.drop (i + 1)) j)))) (by kernel_rfl) (Lib.hid HT.out.drew) (fun hS => ?_)
              refine wpAnyH_take (i := 0) (oi := ⟨some 18, .move (.tmp 9), 3, "zsortanyfunc.go:12", #[], none⟩) (v := ?_) rfl (by kernel_rfl) (by kernel_rfl) (by kernel_rfl) (fun _ _ _ h => h) (Or.inl ⟨by rfl, ?_⟩) hS ?_
              rotate_left
              · intro wv _; go_simp; try with_reducible rfl
              try simp only [Act.put, List.setIfInBounds_toArray, List.set_cons_zero, List.set_cons_succ]
              refine wpAnyH_take (i := 1) (oi := ⟨some 19, .move (.tmp 1), 3, "zsortanyfunc.go:12", #[], none⟩) (v := ?_) rfl (by kernel_rfl) (by kernel_rfl) (by kernel_rfl) (fun _ _ _ h => h) (Or.inl ⟨by rfl, ?_⟩) hS ?_
              rotate_left
              · intro wv _; go_simp; try with_reducible rfl
              try simp only [Act.put, List.setIfInBounds_toArray, List.set_cons_zero, List.set_cons_succ]
              refine wpAnyH_take (i := 2) (oi := ⟨some 20, .binOp .gtr 3 (.tmp 18) (.tmp 19) 3, 4, "zsortanyfunc.go:12", #[⟨0, .data⟩, ⟨1, .data⟩], none⟩) (v := ?_) rfl (by kernel_rfl) (by kernel_rfl) (by kernel_rfl) (fun _ _ _ h => h) (Or.inl ⟨by rfl, ?_⟩) hS ?_
              rotate_left
              · intro wv _; go_simp; try with_reducible rfl
              try simp only [Act.put, List.setIfInBounds_toArray, List.set_cons_zero, List.set_cons_succ]
              refine wpAnyH_take (i := 3) (oi := ⟨some 21, .move (.tmp 20), 4, "zsortanyfunc.go:12", #[⟨2, .data⟩], none⟩) (v := ?_) rfl (by kernel_rfl) (by kernel_rfl) (by kernel_rfl) (fun _ _ _ h => h) (Or.inl ⟨by rfl, ?_⟩) hS ?_
              rotate_left
              · intro wv _; go_simp; try with_reducible rfl
              try simp only [Act.put, List.setIfInBounds_toArray, List.set_cons_zero, List.set_cons_succ]
              refine wpAnyH_take (i := 4) (oi := ⟨some 22, .move (.tmp 3), 55, "zsortanyfunc.go:12", #[⟨3, .guard⟩], some (3, true)⟩) (v := ?_) rfl (by kernel_rfl) (by kernel_rfl) (by kernel_rfl) (fun _ _ _ h => h) (Or.inl ⟨by rfl, ?_⟩) hS ?_
              rotate_left
              · intro wv _; go_simp; try with_reducible rfl
              try simp only [Act.put, List.setIfInBounds_toArray, List.set_cons_zero, List.set_cons_succ]
              refine wpAnyH_take (i := 5) (oi := ⟨some 23, .move (.tmp 0), 22, "zsortanyfunc.go:12", #[⟨3, .guard⟩], some (3, true)⟩) (v := ?_) rfl (by kernel_rfl) (by kernel_rfl) (by kernel_rfl) (fun _ _ _ h => h) (Or.inl ⟨by rfl, ?_⟩) hS ?_
              rotate_left
              · intro wv _; go_simp; try with_reducible rfl
              try simp only [Act.put, List.setIfInBounds_toArray, List.set_cons_zero, List.set_cons_succ]
              refine wpAnyH_take (i := 6) (oi := ⟨some 24, .move (.tmp 9), 3, "zsortanyfunc.go:12", #[⟨3, .guard⟩], some (3, true)⟩) (v := ?_) rfl (by kernel_rfl) (by kernel_rfl) (by kernel_rfl) (fun _ _ _ h => h) (Or.inl ⟨by rfl, ?_⟩) hS ?_
              rotate_left
              · intro wv _; go_simp; try with_reducible rfl
              try simp only [Act.put, List.setIfInBounds_toArray, List.set_cons_zero, List.set_cons_succ]
              refine wpAnyH_take (i := 7) (oi := ⟨some 25, .indexAddr 22 (.tmp 23) (.tmp 24), 0, "zsortanyfunc.go:12", #[⟨5, .data⟩, ⟨6, .data⟩, ⟨3, .guard⟩], some (3, true)⟩) (v := ?_) rfl (by kernel_rfl) (by kernel_rfl) (by kernel_rfl) (fun _ _ _ h => h) (Or.inl ⟨by rfl, ?_⟩) hS ?_
              rotate_left
              · intro wv _; go_simp; try with_reducible rfl
              try simp only [Act.put, List.setIfInBounds_toArray, List.set_cons_zero, List.set_cons_succ]
              refine wpAnyH_take (i := 8) (oi := ⟨some 26, .load 24 (.tmp 25), 24, "zsortanyfunc.go:12", #[⟨7, .data⟩, ⟨3, .guard⟩], some (3, true)⟩) (v := .agg (([.int .i64 tw, .int .i64 tk] : List Value)).toArray) rfl (by kernel_rfl) (by kernel_rfl) (by kernel_rfl) (fun _ _ _ h => h) (yieldsIf_load_mid (by rfl) _ _ (by rfl) (g) (j * 2) (by rfl) (([.int .i64 tw, .int .i64 tk] : List Value)) _ (fun wv hS => tm_range ((hS.out.at j HJN.out).1.trans (by rw [AT.out])) ((hS.out.at j HJN.out).2.trans (by rw [AT.out]))) Try.underlying24 (by rfl) (by kernel_rfl)) hS ?_
              try simp only [Act.put, List.setIfInBounds_toArray, List.set_cons_zero, List.set_cons_succ]
              refine wpAnyH_take (i := 9) (oi := ⟨some 27, .move (.tmp 0), 22, "zsortanyfunc.go:12", #[⟨3, .guard⟩], some (3, true)⟩) (v := ?_) rfl (by kernel_rfl) (by kernel_rfl) (by kernel_rfl) (fun _ _ _ h => h) (Or.inl ⟨by rfl, ?_⟩) hS ?_
              rotate_left
              · intro wv _; go_simp; try with_reducible rfl
              try simp only [Act.put, List.setIfInBounds_toArray, List.set_cons_zero, List.set_cons_succ]
              refine wpAnyH_take (i := 10) (oi := ⟨some 28, .move (.tmp 9), 3, "zsortanyfunc.go:12", #[⟨3, .guard⟩], some (3, true)⟩) (v := ?_) rfl (by kernel_rfl) (by kernel_rfl) (by kernel_rfl) (fun _ _ _ h => h) (Or.inl ⟨by rfl, ?_⟩) hS ?_
              rotate_left
              · intro wv _; go_simp; try with_reducible rfl
              try simp only [Act.put, List.setIfInBounds_toArray, List.set_cons_zero, List.set_cons_succ]
              refine wpAnyH_take (i := 11) (oi := ⟨some 29, .binOp .sub 3 (.tmp 28) (.const (Value.int IntKind.i64 1)) 3, 3, "zsortanyfunc.go:12", #[⟨10, .data⟩, ⟨3, .guard⟩], some (3, true)⟩) (v := ?_) rfl (by kernel_rfl) (by kernel_rfl) (by kernel_rfl) (fun _ _ _ h => h) (Or.inl ⟨by rfl, ?_⟩) hS ?_
              rotate_left
              · intro wv _; go_simp; try with_reducible rfl
              try simp only [Act.put, List.setIfInBounds_toArray, List.set_cons_zero, List.set_cons_succ]
              refine wpAnyH_take (i := 12) (oi := ⟨some 30, .indexAddr 22 (.tmp 27) (.tmp 29), 0, "zsortanyfunc.go:12", #[⟨9, .data⟩, ⟨11, .data⟩, ⟨3, .guard⟩], some (3, true)⟩) (v := ?_) rfl (by kernel_rfl) (by kernel_rfl) (by kernel_rfl) (fun _ _ _ h => h) (Or.inl ⟨by rfl, ?_⟩) hS ?_
              rotate_left
              · intro wv _; go_simp; try with_reducible rfl
              try simp only [Act.put, List.setIfInBounds_toArray, List.set_cons_zero, List.set_cons_succ]
              refine wpAnyH_take (i := 13) (oi := ⟨some 31, .load 24 (.tmp 30), 24, "zsortanyfunc.go:12", #[⟨12, .data⟩, ⟨3, .guard⟩], some (3, true)⟩) (v := .agg (([.int .i64 pw, .int .i64 pk] : List Value)).toArray) rfl (by kernel_rfl) (by kernel_rfl) (by kernel_rfl) (fun _ _ _ h => h) (yieldsIf_load_mid (by rfl) _ _ (by rfl) (g) (p * 2) (by rfl) (([.int .i64 pw, .int .i64 pk] : List Value)) _ (fun wv hS => tm_range ((hS.out.at p HPN.out).1.trans (by rw [PT.out])) ((hS.out.at p HPN.out).2.trans (by rw [PT.out]))) Try.underlying24 (by rfl) (by kernel_rfl)) hS ?_
              try simp only [Act.put, List.setIfInBounds_toArray, List.set_cons_zero, List.set_cons_succ]
              refine wpAnyH_ready (rs := [14]) (by kernel_rfl) (by simp) (AllReadyH.cons (o := ⟨some 32, .call { callee := .value (.tmp 22), args := #[.tmp 26, .tmp 31], argTypes := #[24, 24] }, 3, "zsortanyfunc.go:12", #[⟨4, .data⟩, ⟨8, .data⟩, ⟨13, .data⟩, ⟨3, .chain⟩, ⟨3, .guard⟩], some (3, true)⟩) rfl (fun K hK => ?_) AllReadyH.nil)
              go_simp
              refine (TQ.out _).mono ?_; rintro e wb ⟨rfl, hbb⟩
              replace hS := Lib.hid (hS.out.step hbb)
              clear hbb
              go_wp2_with fail
              refine Shut.out hK _ _ hS (fun _ => ?_)
              clear hK K
              try simp only [Act.put, List.setIfInBounds_toArray, List.set_cons_zero, List.set_cons_succ]
              refine wpAnyH_take (i := 15) (oi := ⟨some 33, .binOp .lss 3 (.tmp 32) (.const (Value.int IntKind.i64 0)) 3, 4, "zsortanyfunc.go:12", #[⟨14, .data⟩, ⟨3, .guard⟩], some (3, true)⟩) (v := ?_) rfl (by kernel_rfl) (by kernel_rfl) (by kernel_rfl) (fun _ _ _ h => h) (Or.inl ⟨by rfl, ?_⟩) hS ?_
              rotate_left
              · intro wv _; go_simp; try with_reducible rfl
              try simp only [Act.put, List.setIfInBounds_toArray, List.set_cons_zero, List.set_cons_succ]
              refine wpAnyH_take (i := 16) (oi := ⟨some 34, .pick (.tmp 21) (.tmp 33) (.const (Value.bool false)), 4, "zsortanyfunc.go:12", #[⟨3, .data⟩, ⟨15, .data⟩], none⟩) (v := ?_) rfl (by kernel_rfl) (by kernel_rfl) (by kernel_rfl) (fun _ _ _ h => h) (Or.inl ⟨by rfl, ?_⟩) hS ?_
              rotate_left
              · intro wv _; go_simp; try with_reducible rfl
              try simp only [Act.put, List.setIfInBounds_toArray, List.set_cons_zero, List.set_cons_succ]
              refine wpAnyH_done (by kernel_rfl) ?_ _
              refine NoPanic.normal ?_
              clear HT
              have HT := hS
              clear hS
              go_upto_region 6 with fail
              obtain ⟨a0, a1⟩ := HT.out.at j HJN.out
              obtain ⟨b0, b1⟩ := HT.out.at p HPN.out
              rw [AT.out] at a0 a1; rw [PT.out] at b0 b1
              simp only at a0 a1 b0 b1
              have ff0 := HT.out.own.frozenAt (j * 2)
              have ff1 := HT.out.own.frozenAt (j * 2 + 1)
              have ff2 := HT.out.own.frozenAt (p * 2)
              have ff3 := HT.out.own.frozenAt (p * 2 + 1)
              go_region
              go_wp2
              go_roundw
              case rel => exact ⟨p, by go_num, by have := HPJ.out; omega, Lib.hid (fun l h5 h6 => by
                  rcases Nat.lt_or_ge p l with h7 | h7
                  · exact HA.out l (by have := HPJ.out; omega) h6
                  · have : l = p := by omega
                    subst this; rw [HPT.out]; exact HB.out), Lib.hid (by
                  have h5 : midS sl (tw, tk) (h.drop (i + 1)) p = swapT (midS sl (tw, tk) (h.drop (i + 1)) j) j p := by rw [← HPJ.out]; exact (midS_swap (by rw [HPJ.out]; exact HJL.out)).symm
                  rw [h5]; unfold swapT; rw [AT.out, PT.out]; exact (HT.out.drew.set j HJN.out pw pk).set p HPN.out tw tk)⟩
              case measure => have := HPJ.out; simp [intOf] <;> omega
            · rw [decide_eq_false hb] at TB
              have HNB := Lib.hid hb
              have HJ0 := Lib.hid hj0
              clear hb
              go_upto_region 4 with fail
              refine wp_region_noPanic ?_
              refine wp_region_held_drew (S := (fun wv => Hid (TW base w wv g n d (midS sl (tw, tk) (h.drop (i + 1)) j)))) (by kernel_rfl) (Lib.hid HT.out.drew) (fun hS => ?_)
              refine wpAnyH_take (i := 0) (oi := ⟨some 18, .move (.tmp 9), 3, "zsortanyfunc.go:12", #[], none⟩) (v := ?_) rfl (by kernel_rfl) (by kernel_rfl) (by kernel_rfl) (fun _ _ _ h => h) (Or.inl ⟨by rfl, ?_⟩) hS ?_
              rotate_left
              · intro wv _; go_simp; try with_reducible rfl
              try simp only [Act.put, List.setIfInBounds_toArray, List.set_cons_zero, List.set_cons_succ]
              refine wpAnyH_take (i := 1) (oi := ⟨some 19, .move (.tmp 1), 3, "zsortanyfunc.go:12", #[], none⟩) (v := ?_) rfl (by kernel_rfl) (by kernel_rfl) (by kernel_rfl) (fun _ _ _ h => h) (Or.inl ⟨by rfl, ?_⟩) hS ?_
              rotate_left
              · intro wv _; go_simp; try with_reducible rfl
              try simp only [Act.put, List.setIfInBounds_toArray, List.set_cons_zero, List.set_cons_succ]
              refine wpAnyH_take (i := 2) (oi := ⟨some 20, .binOp .gtr 3 (.tmp 18) (.tmp 19) 3, 4, "zsortanyfunc.go:12", #[⟨0, .data⟩, ⟨1, .data⟩], none⟩) (v := ?_) rfl (by kernel_rfl) (by kernel_rfl) (by kernel_rfl) (fun _ _ _ h => h) (Or.inl ⟨by rfl, ?_⟩) hS ?_
              rotate_left
              · intro wv _; go_simp; try with_reducible rfl
              try simp only [Act.put, List.setIfInBounds_toArray, List.set_cons_zero, List.set_cons_succ]
              refine wpAnyH_take (i := 3) (oi := ⟨some 21, .move (.tmp 20), 4, "zsortanyfunc.go:12", #[⟨2, .data⟩], none⟩) (v := ?_) rfl (by kernel_rfl) (by kernel_rfl) (by kernel_rfl) (fun _ _ _ h => h) (Or.inl ⟨by rfl, ?_⟩) hS ?_
              rotate_left
              · intro wv _; go_simp; try with_reducible rfl
              try simp only [Act.put, List.setIfInBounds_toArray, List.set_cons_zero, List.set_cons_succ]
              refine wpAnyH_take (i := 4) (oi := ⟨some 22, .move (.tmp 3), 55, "zsortanyfunc.go:12", #[⟨3, .guard⟩], some (3, true)⟩) (v := ?_) rfl (by kernel_rfl) (by kernel_rfl) (by kernel_rfl) (fun _ _ _ h => h) (Or.inl ⟨by rfl, ?_⟩) hS ?_
              rotate_left
              · intro wv _; go_simp; try with_reducible rfl
              try simp only [Act.put, List.setIfInBounds_toArray, List.set_cons_zero, List.set_cons_succ]
              refine wpAnyH_take (i := 5) (oi := ⟨some 23, .move (.tmp 0), 22, "zsortanyfunc.go:12", #[⟨3, .guard⟩], some (3, true)⟩) (v := ?_) rfl (by kernel_rfl) (by kernel_rfl) (by kernel_rfl) (fun _ _ _ h => h) (Or.inl ⟨by rfl, ?_⟩) hS ?_
              rotate_left
              · intro wv _; go_simp; try with_reducible rfl
              try simp only [Act.put, List.setIfInBounds_toArray, List.set_cons_zero, List.set_cons_succ]
              refine wpAnyH_take (i := 6) (oi := ⟨some 24, .move (.tmp 9), 3, "zsortanyfunc.go:12", #[⟨3, .guard⟩], some (3, true)⟩) (v := ?_) rfl (by kernel_rfl) (by kernel_rfl) (by kernel_rfl) (fun _ _ _ h => h) (Or.inl ⟨by rfl, ?_⟩) hS ?_
              rotate_left
              · intro wv _; go_simp; try with_reducible rfl
              try simp only [Act.put, List.setIfInBounds_toArray, List.set_cons_zero, List.set_cons_succ]
              refine wpAnyH_take (i := 7) (oi := ⟨some 25, .indexAddr 22 (.tmp 23) (.tmp 24), 0, "zsortanyfunc.go:12", #[⟨5, .data⟩, ⟨6, .data⟩, ⟨3, .guard⟩], some (3, true)⟩) (v := ?_) rfl (by kernel_rfl) (by kernel_rfl) (by kernel_rfl) (fun _ _ _ h => h) (Or.inl ⟨by rfl, ?_⟩) hS ?_
              rotate_left
              · intro wv _; go_simp; try with_reducible rfl
              try simp only [Act.put, List.setIfInBounds_toArray, List.set_cons_zero, List.set_cons_succ]
              refine wpAnyH_take (i := 8) (oi := ⟨some 26, .load 24 (.tmp 25), 24, "zsortanyfunc.go:12", #[⟨7, .data⟩, ⟨3, .guard⟩], some (3, true)⟩) (v := .agg (([.int .i64 tw, .int .i64 tk] : List Value)).toArray) rfl (by kernel_rfl) (by kernel_rfl) (by kernel_rfl) (fun _ _ _ h => h) (yieldsIf_load_mid (by rfl) _ _ (by rfl) (g) (j * 2) (by rfl) (([.int .i64 tw, .int .i64 tk] : List Value)) _ (fun wv hS => tm_range ((hS.out.at j HJN.out).1.trans (by rw [AT.out])) ((hS.out.at j HJN.out).2.trans (by rw [AT.out]))) Try.underlying24 (by rfl) (by kernel_rfl)) hS ?_
              try simp only [Act.put, List.setIfInBounds_toArray, List.set_cons_zero, List.set_cons_succ]
              refine wpAnyH_take (i := 9) (oi := ⟨some 27, .move (.tmp 0), 22, "zsortanyfunc.go:12", #[⟨3, .guard⟩], some (3, true)⟩) (v := ?_) rfl (by kernel_rfl) (by kernel_rfl) (by kernel_rfl) (fun _ _ _ h => h) (Or.inl ⟨by rfl, ?_⟩) hS ?_
              rotate_left
              · intro wv _; go_simp; try with_reducible rfl
              try simp only [Act.put, List.setIfInBounds_toArray, List.set_cons_zero, List.set_cons_succ]
              refine wpAnyH_take (i := 10) (oi := ⟨some 28, .move (.tmp 9), 3, "zsortanyfunc.go:12", #[⟨3, .guard⟩], some (3, true)⟩) (v := ?_) rfl (by kernel_rfl) (by kernel_rfl) (by kernel_rfl) (fun _ _ _ h => h) (Or.inl ⟨by rfl, ?_⟩) hS ?_
              rotate_left
              · intro wv _; go_simp; try with_reducible rfl
              try simp only [Act.put, List.setIfInBounds_toArray, List.set_cons_zero, List.set_cons_succ]
              refine wpAnyH_take (i := 11) (oi := ⟨some 29, .binOp .sub 3 (.tmp 28) (.const (Value.int IntKind.i64 1)) 3, 3, "zsortanyfunc.go:12", #[⟨10, .data⟩, ⟨3, .guard⟩], some (3, true)⟩) (v := ?_) rfl (by kernel_rfl) (by kernel_rfl) (by kernel_rfl) (fun _ _ _ h => h) (Or.inl ⟨by rfl, ?_⟩) hS ?_
              rotate_left
              · intro wv _; go_simp; try with_reducible rfl
              try simp only [Act.put, List.setIfInBounds_toArray, List.set_cons_zero, List.set_cons_succ]
              refine wpAnyH_take (i := 12) (oi := ⟨some 30, .indexAddr 22 (.tmp 27) (.tmp 29), 0, "zsortanyfunc.go:12", #[⟨9, .data⟩, ⟨11, .data⟩, ⟨3, .guard⟩], some (3, true)⟩) (v := ?_) rfl (by kernel_rfl) (by kernel_rfl) (by kernel_rfl) (fun _ _ _ h => h) (Or.inl ⟨by rfl, ?_⟩) hS ?_
              rotate_left
              · intro wv _; go_simp; try with_reducible rfl
              try simp only [Act.put, List.setIfInBounds_toArray, List.set_cons_zero, List.set_cons_succ]
              refine wpAnyH_take (i := 13) (oi := ⟨some 31, .load 24 (.tmp 30), 24, "zsortanyfunc.go:12", #[⟨12, .data⟩, ⟨3, .guard⟩], some (3, true)⟩) (v := .agg (([.int .i64 pw, .int .i64 pk] : List Value)).toArray) rfl (by kernel_rfl) (by kernel_rfl) (by kernel_rfl) (fun _ _ _ h => h) (yieldsIf_load_mid (by rfl) _ _ (by rfl) (g) (p * 2) (by rfl) (([.int .i64 pw, .int .i64 pk] : List Value)) _ (fun wv hS => tm_range ((hS.out.at p HPN.out).1.trans (by rw [PT.out])) ((hS.out.at p HPN.out).2.trans (by rw [PT.out]))) Try.underlying24 (by rfl) (by kernel_rfl)) hS ?_
              try simp only [Act.put, List.setIfInBounds_toArray, List.set_cons_zero, List.set_cons_succ]
              refine wpAnyH_ready (rs := [14]) (by kernel_rfl) (by simp) (AllReadyH.cons (o := ⟨some 32, .call { callee := .value (.tmp 22), args := #[.tmp 26, .tmp 31], argTypes := #[24, 24] }, 3, "zsortanyfunc.go:12", #[⟨4, .data⟩, ⟨8, .data⟩, ⟨13, .data⟩, ⟨3, .chain⟩, ⟨3, .guard⟩], some (3, true)⟩) rfl (fun K hK => ?_) AllReadyH.nil)
              go_simp
              refine (TQ.out _).mono ?_; rintro e wb ⟨rfl, hbb⟩
              replace hS := Lib.hid (hS.out.step hbb)
              clear hbb
              go_wp2_with fail
              refine Shut.out hK _ _ hS (fun _ => ?_)
              clear hK K
              try simp only [Act.put, List.setIfInBounds_toArray, List.set_cons_zero, List.set_cons_succ]
              refine wpAnyH_take (i := 15) (oi := ⟨some 33, .binOp .lss 3 (.tmp 32) (.const (Value.int IntKind.i64 0)) 3, 4, "zsortanyfunc.go:12", #[⟨14, .data⟩, ⟨3, .guard⟩], some (3, true)⟩) (v := ?_) rfl (by kernel_rfl) (by kernel_rfl) (by kernel_rfl) (fun _ _ _ h => h) (Or.inl ⟨by rfl, ?_⟩) hS ?_
              rotate_left
              · intro wv _; go_simp; try with_reducible rfl
              try simp only [Act.put, List.setIfInBounds_toArray, List.set_cons_zero, List.set_cons_succ]
              refine wpAnyH_take (i := 16) (oi := ⟨some 34, .pick (.tmp 21) (.tmp 33) (.const (Value.bool false)), 4, "zsortanyfunc.go:12", #[⟨3, .data⟩, ⟨15, .data⟩], none⟩) (v := ?_) rfl (by kernel_rfl) (by kernel_rfl) (by kernel_rfl) (fun _ _ _ h => h) (Or.inl ⟨by rfl, ?_⟩) hS ?_
              rotate_left
              · intro wv _; go_simp; try with_reducible rfl
              try simp only [Act.put, List.setIfInBounds_toArray, List.set_cons_zero, List.set_cons_succ]
              refine wpAnyH_done (by kernel_rfl) ?_ _
              refine NoPanic.normal ?_
              clear HT
              have HT := hS
              clear hS
              have HN2 := Lib.hid (show TW base w wb g n d (sortF h (i + 1) ++ h.drop (i + 1)) from by
                rw [HNX.out, ← midS_done (j := j) HSR.out (by rw [HSL.out]; exact hji) (fun l h5 h6 => HA.out l h5 (by rw [← HSL.out]; exact h6)) (Or.inr (by rw [show j - 1 = p by have := HPJ.out; omega, HPT.out]; exact HNB.out))]
                exact HT.out)
              have hlt := HIN.out
              clear HT HA HJ0 HNB
              go_wp2
              go_roundw
              case rel => exact ⟨i + 1, by go_num, by omega, by omega, HN2⟩
              case measure => simp [intOf]; omega
          · have d0 : decide ((0 : Int) < (j : Int)) = false := by simp; omega
            have d0n : decide (0 < j) = false := by simp; omega
            have HJ0 := Lib.hid (show j = 0 by omega)
            have HNB := HJ0
            go_upto_region 4 with fail
            refine wp_region_noPanic ?_
            refine wp_region_held_drew (S := (fun wv => Hid (TW base w wv g n d (midS sl (tw, tk) (h.drop (i + 1)) j)))) (by kernel_rfl) (Lib.hid HT.out.drew) (fun hS => ?_)
            refine wpAnyH_take (i := 0) (oi := ⟨some 18, .move (.tmp 9), 3, "zsortanyfunc.go:12", #[], none⟩) (v := ?_) rfl (by kernel_rfl) (by kernel_rfl) (by kernel_rfl) (fun _ _ _ h => h) (Or.inl ⟨by rfl, ?_⟩) hS ?_
            rotate_left
            · intro wv _; go_simp; try with_reducible rfl
            try simp only [Act.put, List.setIfInBounds_toArray, List.set_cons_zero, List.set_cons_succ]
            refine wpAnyH_take (i := 1) (oi := ⟨some 19, .move (.tmp 1), 3, "zsortanyfunc.go:12", #[], none⟩) (v := ?_) rfl (by kernel_rfl) (by kernel_rfl) (by kernel_rfl) (fun _ _ _ h => h) (Or.inl ⟨by rfl, ?_⟩) hS ?_
            rotate_left
            · intro wv _; go_simp; try with_reducible rfl
            try simp only [Act.put, List.setIfInBounds_toArray, List.set_cons_zero, List.set_cons_succ]
            refine wpAnyH_take (i := 2) (oi := ⟨some 20, .binOp .gtr 3 (.tmp 18) (.tmp 19) 3, 4, "zsortanyfunc.go:12", #[⟨0, .data⟩, ⟨1, .data⟩], none⟩) (v := ?_) rfl (by kernel_rfl) (by kernel_rfl) (by kernel_rfl) (fun _ _ _ h => h) (Or.inl ⟨by rfl, ?_⟩) hS ?_
            rotate_left
            · intro wv _; go_simp; try with_reducible rfl
            try simp only [Act.put, List.setIfInBounds_toArray, List.set_cons_zero, List.set_cons_succ]
            refine wpAnyH_take (i := 3) (oi := ⟨some 21, .move (.tmp 20), 4, "zsortanyfunc.go:12", #[⟨2, .data⟩], none⟩) (v := ?_) rfl (by kernel_rfl) (by kernel_rfl) (by kernel_rfl) (fun _ _ _ h => h) (Or.inl ⟨by rfl, ?_⟩) hS ?_
            rotate_left
            · intro wv _; go_simp; try with_reducible rfl
            try simp only [Act.put, List.setIfInBounds_toArray, List.set_cons_zero, List.set_cons_succ]
            refine wpAnyH_take (i := 4) (oi := ⟨some 22, .move (.tmp 3), 55, "zsortanyfunc.go:12", #[⟨3, .guard⟩], some (3, true)⟩) (v := undef) rfl (by kernel_rfl) (by kernel_rfl) (by kernel_rfl) (fun _ _ _ h => h) (Or.inr ⟨by rfl, rfl⟩) hS ?_
            try simp only [Act.put, List.setIfInBounds_toArray, List.set_cons_zero, List.set_cons_succ]
            refine wpAnyH_take (i := 5) (oi := ⟨some 23, .move (.tmp 0), 22, "zsortanyfunc.go:12", #[⟨3, .guard⟩], some (3, true)⟩) (v := undef) rfl (by kernel_rfl) (by kernel_rfl) (by kernel_rfl) (fun _ _ _ h => h) (Or.inr ⟨by rfl, rfl⟩) hS ?_
            try simp only [Act.put, List.setIfInBounds_toArray, List.set_cons_zero, List.set_cons_succ]
            refine wpAnyH_take (i := 6) (oi := ⟨some 24, .move (.tmp 9), 3, "zsortanyfunc.go:12", #[⟨3, .guard⟩], some (3, true)⟩) (v := undef) rfl (by kernel_rfl) (by kernel_rfl) (by kernel_rfl) (fun _ _ _ h => h) (Or.inr ⟨by rfl, rfl⟩) hS ?_
            try simp only [Act.put, List.setIfInBounds_toArray, List.set_cons_zero, List.set_cons_succ]
            refine wpAnyH_take (i := 7) (oi := ⟨some 25, .indexAddr 22 (.tmp 23) (.tmp 24), 0, "zsortanyfunc.go:12", #[⟨5, .data⟩, ⟨6, .data⟩, ⟨3, .guard⟩], some (3, true)⟩) (v := undef) rfl (by kernel_rfl) (by kernel_rfl) (by kernel_rfl) (fun _ _ _ h => h) (Or.inr ⟨by rfl, rfl⟩) hS ?_
            try simp only [Act.put, List.setIfInBounds_toArray, List.set_cons_zero, List.set_cons_succ]
            refine wpAnyH_take (i := 8) (oi := ⟨some 26, .load 24 (.tmp 25), 24, "zsortanyfunc.go:12", #[⟨7, .data⟩, ⟨3, .guard⟩], some (3, true)⟩) (v := undef) rfl (by kernel_rfl) (by kernel_rfl) (by kernel_rfl) (fun _ _ _ h => h) (Or.inr ⟨by rfl, rfl⟩) hS ?_
            try simp only [Act.put, List.setIfInBounds_toArray, List.set_cons_zero, List.set_cons_succ]
            refine wpAnyH_take (i := 9) (oi := ⟨some 27, .move (.tmp 0), 22, "zsortanyfunc.go:12", #[⟨3, .guard⟩], some (3, true)⟩) (v := undef) rfl (by kernel_rfl) (by kernel_rfl) (by kernel_rfl) (fun _ _ _ h => h) (Or.inr ⟨by rfl, rfl⟩) hS ?_
            try simp only [Act.put, List.setIfInBounds_toArray, List.set_cons_zero, List.set_cons_succ]
            refine wpAnyH_take (i := 10) (oi := ⟨some 28, .move (.tmp 9), 3, "zsortanyfunc.go:12", #[⟨3, .guard⟩], some (3, true)⟩) (v := undef) rfl (by kernel_rfl) (by kernel_rfl) (by kernel_rfl) (fun _ _ _ h => h) (Or.inr ⟨by rfl, rfl⟩) hS ?_
            try simp only [Act.put, List.setIfInBounds_toArray, List.set_cons_zero, List.set_cons_succ]
            refine wpAnyH_take (i := 11) (oi := ⟨some 29, .binOp .sub 3 (.tmp 28) (.const (Value.int IntKind.i64 1)) 3, 3, "zsortanyfunc.go:12", #[⟨10, .data⟩, ⟨3, .guard⟩], some (3, true)⟩) (v := undef) rfl (by kernel_rfl) (by kernel_rfl) (by kernel_rfl) (fun _ _ _ h => h) (Or.inr ⟨by rfl, rfl⟩) hS ?_
            try simp only [Act.put, List.setIfInBounds_toArray, List.set_cons_zero, List.set_cons_succ]
            refine wpAnyH_take (i := 12) (oi := ⟨some 30, .indexAddr 22 (.tmp 27) (.tmp 29), 0, "zsortanyfunc.go:12", #[⟨9, .data⟩, ⟨11, .data⟩, ⟨3, .guard⟩], some (3, true)⟩) (v := undef) rfl (by kernel_rfl) (by kernel_rfl) (by kernel_rfl) (fun _ _ _ h => h) (Or.inr ⟨by rfl, rfl⟩) hS ?_
            try simp only [Act.put, List.setIfInBounds_toArray, List.set_cons_zero, List.set_cons_succ]
            refine wpAnyH_take (i := 13) (oi := ⟨some 31, .load 24 (.tmp 30), 24, "zsortanyfunc.go:12", #[⟨12, .data⟩, ⟨3, .guard⟩], some (3, true)⟩) (v := undef) rfl (by kernel_rfl) (by kernel_rfl) (by kernel_rfl) (fun _ _ _ h => h) (Or.inr ⟨by rfl, rfl⟩) hS ?_
            try simp only [Act.put, List.setIfInBounds_toArray, List.set_cons_zero, List.set_cons_succ]
            refine wpAnyH_take (i := 14) (oi := ⟨some 32, .call { callee := .value (.tmp 22), args := #[.tmp 26, .tmp 31], argTypes := #[24, 24] }, 3, "zsortanyfunc.go:12", #[⟨4, .data⟩, ⟨8, .data⟩, ⟨13, .data⟩, ⟨3, .chain⟩, ⟨3, .guard⟩], some (3, true)⟩) (v := undef) rfl (by kernel_rfl) (by kernel_rfl) (by kernel_rfl) (fun _ _ _ h => h) (Or.inr ⟨by rfl, rfl⟩) hS ?_
            try simp only [Act.put, List.setIfInBounds_toArray, List.set_cons_zero, List.set_cons_succ]
            refine wpAnyH_take (i := 15) (oi := ⟨some 33, .binOp .lss 3 (.tmp 32) (.const (Value.int IntKind.i64 0)) 3, 4, "zsortanyfunc.go:12", #[⟨14, .data⟩, ⟨3, .guard⟩], some (3, true)⟩) (v := undef) rfl (by kernel_rfl) (by kernel_rfl) (by kernel_rfl) (fun _ _ _ h => h) (Or.inr ⟨by rfl, rfl⟩) hS ?_
            try simp only [Act.put, List.setIfInBounds_toArray, List.set_cons_zero, List.set_cons_succ]
            refine wpAnyH_take (i := 16) (oi := ⟨some 34, .pick (.tmp 21) (.tmp 33) (.const (Value.bool false)), 4, "zsortanyfunc.go:12", #[⟨3, .data⟩, ⟨15, .data⟩], none⟩) (v := ?_) rfl (by kernel_rfl) (by kernel_rfl) (by kernel_rfl) (fun _ _ _ h => h) (Or.inl ⟨by rfl, ?_⟩) hS ?_
            rotate_left
            · intro wv _; go_simp; try with_reducible rfl
            try simp only [Act.put, List.setIfInBounds_toArray, List.set_cons_zero, List.set_cons_succ]
            refine wpAnyH_done (by kernel_rfl) ?_ _
            refine NoPanic.normal ?_
            clear HT
            have HT := hS
            clear hS
            have HN2 := Lib.hid (show TW base w wr.drew g n d (sortF h (i + 1) ++ h.drop (i + 1)) from by
              rw [HNX.out, ← midS_done (j := j) HSR.out (by rw [HSL.out]; exact hji) (fun l h5 h6 => HA.out l h5 (by rw [← HSL.out]; exact h6)) (Or.inl HJ0.out)]
              exact HT.out)
            have hlt := HIN.out
            clear HT HA HJ0 HNB
            go_wp2
            go_roundw
            case rel => exact ⟨i + 1, by go_num, by omega, by omega, HN2⟩
            case measure => simp [intOf]; omega
      · have en : i = n := by omega
        have c1 : decide ((i : Int) < (n : Int)) = false := by simp; omega
        have c1n : decide (i < n) = false := by simp; omega
        have HE := Lib.hid (show TW base w wr g n d R from by
          have h5 : sortF h i ++ h.drop i = R := by rw [en, HR.out, List.drop_of_length_le (by have := HL.out; omega), List.append_nil]
          rw [← h5]; exact HT.out)
        clear HT en
        go_wp2
        refine bodyPost_end (results_none rfl _ _ _) rfl ?_
        exact ⟨rfl, HE.out.own, (Below.refl base w).grown HE.out.gr HBS.out (fun k hk => by cases hk; exact HE.out.ge)⟩
set_option maxRecDepth 100000 in
set_option maxHeartbeats 4000000 in
theorem pdq12_any (base n d : Nat) (B : Option Addr) (h : List Tm) (lim : Int) (w : World) (ho : w.ownsRow base 24 2 (.slice B n d) n (tmC h)) (hn : n ≤ 12) (hbase : base ≤ w.heap.size) (hu : Un h) :
    Calls Try.prog 44 #[.slice B n d, .int .i64 0, .int .i64 (n : Int), .int .i64 lim, .func (.func 36) #[] #[]] w (SrtP w base B n d (sortF h n)) := by
  have IN := Lib.hid (ins12_any base n d B h w ho hn hbase hu)
  obtain ⟨R, hR⟩ : ∃ R, sortF h n = R := ⟨_, rfl⟩
  rw [hR] at IN
  rw [hR]
  have c0 : decide ((n : Int) ≤ 12) = true := by simp; omega
  have c0n : decide (n ≤ 12) = true := by simp; omega
  clear ho hbase hu hR
  go_enter Try.func44, Try.ntmps44
  go_wp2
  go_loopw [1, 2, 3, 10, 11] (fun av bv lv xv yv wr => av = .int .i64 0 ∧ bv = .int .i64 (n : Int) ∧ lv = .int .i64 lim ∧ xv = .bool true ∧ yv = .bool true ∧ wr = w) (fun _ _ _ _ _ _ => 0)
  case atStart => exact ⟨rfl, rfl, rfl, rfl, rfl, by first | trivial | rfl⟩
  case round =>
    obtain ⟨rfl, rfl, rfl, rfl, rfl, hw⟩ := hrel
    subst hw
    go_wp2_with fail
    refine IN.out.mono ?_
    rintro e w2 ⟨rfl, ho2, hb2⟩
    have OW := Lib.hid ho2; have HB := Lib.hid hb2
    clear ho2 hb2
    go_wp2
    refine bodyPost_end (results_none rfl _ _ _) rfl ?_
    exact ⟨rfl, OW.out, HB.out⟩
set_option maxRecDepth 100000 in
set_option maxHeartbeats 4000000 in
theorem len12_any (x : Int) (w : World) (h0 : 0 ≤ x) (h1 : x ≤ 18446744073709551615) :
    Calls Try.prog 45 #[.int .u64 x] w fun e w' => e = .returned (.int .i64 (Lib.bitLen x.toNat)) ∧ w = w' := by
  have LN := Lib.hid (len64_any x w h0 h1)
  go_enter Try.func45, Try.ntmps45
  go_wp2_with fail
  refine LN.out.mono ?_
  rintro e w2 ⟨rfl, rfl⟩
  go_wp2
  go_ret
  exact ⟨rfl, rfl⟩
set_option maxRecDepth 100000 in
set_option maxHeartbeats 4000000 in
theorem sortf12_any (base n d : Nat) (B : Option Addr) (h : List Tm) (w : World) (ho : w.ownsRow base 24 2 (.slice B n d) n (tmC h)) (hn : n ≤ 12) (hbase : base ≤ w.heap.size) (hu : Un h) :
    Calls Try.prog 35 #[.slice B n d, .func (.func 36) #[] #[]] w (SrtP w base B n d (sortF h n)) := by
  have PQ := Lib.hid (fun lim => pdq12_any base n d B h lim w ho hn hbase hu)
  obtain ⟨R, hR⟩ : ∃ R, sortF h n = R := ⟨_, rfl⟩
  rw [hR] at PQ
  rw [hR]
  have LN := Lib.hid (len12_any (n : Int) w (by omega) (by omega))
  obtain ⟨m, hm⟩ : ∃ m : Int, (Lib.bitLen (n : Int).toNat : Int) = m := ⟨_, rfl⟩
  rw [hm] at LN
  clear ho hbase hu hR hm
  go_enter Try.func35, Try.ntmps35
  go_wp2_with fail
  refine LN.out.mono ?_
  rintro e w1 ⟨rfl, rfl⟩
  go_wp2_with fail
  refine (PQ.out _).mono ?_
  rintro e w2 ⟨rfl, ho2, hb2⟩
  have OW := Lib.hid ho2; have HB := Lib.hid hb2
  clear ho2 hb2
  go_wp2
  refine bodyPost_end (results_none rfl _ _ _) rfl ?_
  exact ⟨rfl, OW.out, HB.out⟩
set_option maxRecDepth 100000 in
set_option maxHeartbeats 4000000 in
theorem tmSortedL (A : Option Addr) (n c : Nat) (h : List Tm) (w : World) (hx : Tms w A n c h) (hn : n ≤ 16384) :
    Calls Try.prog 21 #[.slice A n c] w (SW w (sortH h)) := by
  have hlen : h.length = n := hx.len
  have RX := Lib.hid hx
  have RT := fun (W : World) (hw : Tms W A n c h) => tmRightL A n c h W hw hn
  have CP := Lib.hid (fun (W : World) (hw : Tms W A n c h) => copied12_any A n c h W hw hn)
  obtain ⟨R, hR⟩ : ∃ R, sortH h = R := ⟨_, rfl⟩
  rw [hR]
  cases hr : rightH h
  · rw [hr] at RT
    replace RT := Lib.hid RT
    have HE := Lib.hid (show R = [] by rw [← hR]; unfold sortH; rw [if_neg (by rw [hr]; simp)])
    clear hr hR hlen hx
    go_enter Try.func21, Try.ntmps21
    go_wp2_with fail
    refine (RT.out w RX.out).mono ?_
    rintro e w1 ⟨rfl, hb⟩
    have HB := Lib.hid hb
    clear hb RT
    go_wp2
    go_ret
    rw [HE.out]
    exact ⟨none, 0, 0, rfl, Es.nil _ _ _ _, HB.out⟩
  · rw [hr] at RT
    replace RT := Lib.hid RT
    have hr1 := rt_iff.1 hr
    have HE := Lib.hid (show R = sortF h n by rw [← hR]; unfold sortH; rw [if_pos hr, hlen])
    have n12 : n ≤ 12 := by have := hr1.len; omega
    have HU := Lib.hid hr1.un
    clear hr hR hlen hx hr1
    go_enter Try.func21, Try.ntmps21
    go_wp2_with fail
    refine (RT.out w RX.out).mono ?_
    rintro e w1 ⟨rfl, hb⟩
    have HB := Lib.hid hb
    clear hb RT
    go_wp2_with fail
    refine (CP.out w1 (Es.below RX.out HB.out)).mono ?_
    rintro e w2 ⟨B, d, rfl, hown, hb⟩
    have OW := Lib.hid (own_base hown HB.out.size)
    replace HB := Lib.hid (HB.out.trans (hb.mono HB.out.size))
    clear hown hb CP
    go_wp2_with fail
    refine (sortf12_any w.heap.size n d B h w2 OW.out n12 HB.out.size HU.out).mono ?_
    rintro e w3 ⟨rfl, ho3, hb3⟩
    have OW3 := Lib.hid ho3; have HB3 := Lib.hid (HB.out.trans hb3)
    clear ho3 hb3
    go_wp2
    go_ret
    rw [HE.out]
    exact ⟨B, n, d, rfl, tms_own OW3.out, HB3.out⟩
end Go.Proofs.Ytehpfpphpffniaa
