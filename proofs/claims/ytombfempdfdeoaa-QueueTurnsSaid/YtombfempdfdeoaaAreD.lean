/- What the document's own Free, Live, Copy, Same, Ints of layer 7 answer; for slices of up to 16384 records. -/
import Derived.Test.YtombfempdfdeoaaAreC
import Derived.Deep.RegionLaw
namespace Go.Proofs.Ytombfempdfdeoaa
set_option linter.unusedVariables false
set_option linter.unusedSimpArgs false
open Go.RowKit

/-- numbers as the answer. -/
def IntsPost (w : World) (xs : List Int) (e : Ending) (w' : World) : Prop := ∃ A n c, e = .returned (.slice A n c) ∧ Is w' A n c xs ∧ Below w.heap.size w w'
theorem walk_of_right {p : Aren} (h : rightS p = true) : ∃ l, walkL p = some l ∧ freeS p = l := by
  obtain ⟨_, l, hl, _⟩ := rightS_iff.1 h
  exact ⟨l, hl, freeS_right h hl⟩
theorem refFree_any (A : Option Addr) (n c : Nat) (rs : List Rec3) (fr : Int) (w : World) (hx : Rs w A n c rs) (hn : n ≤ 16384) :
    Calls Try.prog 25 #[.agg #[.slice A n c, .int .i64 fr]] w (IntsPost w (freeS (rs, fr))) := by
  have HX := Lib.hid (Es.alloc hx (.cells #[.slice A n c, .int .i64 fr] 24))
  have HK := Lib.hid (heap_alloc_new w (.cells #[.slice A n c, .int .i64 fr] 24))
  have HB := Lib.hid ((Below.refl w.heap.size w).alloc (Nat.le_refl _) (.cells #[.slice A n c, .int .i64 fr] 24))
  have hsz : (w.alloc (.cells #[.slice A n c, .int .i64 fr] 24)).heap.size = w.heap.size + 1 := by simp
  have z0 := blk_cell HK.out 0; have z1 := blk_cell HK.out 1
  simp only [List.getElem?_toArray, List.getElem?_cons_zero, List.getElem?_cons_succ] at z0 z1
  clear hx
  have RT := Lib.hid (fun (W : World) h => refRight_any A n c rs fr W h hn)
  have WK := Lib.hid (fun (W : World) h => refWalk_any A n c rs fr W h hn)
  generalize hq : w.heap.size = q at *
  cases hr : rightS (rs, fr) with
  | false =>
    have HF := Lib.hid (freeS_wrong hr)
    rw [hr] at RT
    clear WK hr
    go_enter Try.func25, Try.ntmps25
    go_wp2_with fail
    generalize w.alloc (.cells #[.slice A n c, .int .i64 fr] 24) = w0 at *
    refine (RT.out _ HX.out).mono ?_
    rintro e w1 ⟨rfl, hb⟩
    have HB1 := Lib.hid (show Below q w w1 from HB.out.trans (hb.mono (by omega)))
    clear hb z0 z1
    go_wp2
    go_ret
    rw [HF.out]
    exact ⟨_, _, _, rfl, Es.nil _ _ _ _, by rw [hq]; exact HB1.out⟩
  | true =>
    obtain ⟨l, hl, hfl⟩ := walk_of_right hr
    have HW := Lib.hid hl; have HF := Lib.hid hfl
    rw [hr] at RT
    clear hr hl hfl
    go_enter Try.func25, Try.ntmps25
    go_wp2_with fail
    generalize w.alloc (.cells #[.slice A n c, .int .i64 fr] 24) = w0 at *
    refine (RT.out _ HX.out).mono ?_
    rintro e w1 ⟨rfl, hb⟩
    have HB1 := Lib.hid (show Below q w w1 from HB.out.trans (hb.mono (by omega)))
    have hk1 := blk_below HK.out hb (by omega)
    have HX1 := Lib.hid (show Rs w1 A n c rs from Es.below HX.out hb)
    have y0 := blk_cell hk1 0; have y1 := blk_cell hk1 1
    have hs1 := blk_lt hk1
    simp only [List.getElem?_toArray, List.getElem?_cons_zero, List.getElem?_cons_succ] at y0 y1
    clear hb z0 z1 hk1
    go_wp2_with fail
    refine (WK.out _ HX1.out).mono ?_
    rintro e w2 ⟨B, m, d, ok, l', rfl, his, hcase, hb⟩
    have hll : l' = l := by
      rcases hcase with ⟨h, _, _⟩ | ⟨h, _, _⟩
      · rw [HW.out] at h; injection h with h; exact h.symm
      · rw [HW.out] at h; cases h
    subst hll
    have HI := Lib.hid his
    have HB2 := Lib.hid (show Below q w w2 from HB1.out.trans (hb.mono (by omega)))
    clear hb his hcase y0 y1
    go_wp2
    go_ret
    rw [HF.out]
    exact ⟨_, _, _, rfl, HI.out, by rw [hq]; exact HB2.out⟩
theorem refLive_any (A : Option Addr) (n c : Nat) (rs : List Rec3) (fr i : Int) (w : World) (hx : Rs w A n c rs) (hn : n ≤ 16384) :
    Calls Try.prog 44 #[.agg #[.slice A n c, .int .i64 fr], .int .i64 i] w fun e w' => e = .returned (.bool (liveS (rs, fr) i)) ∧ Below w.heap.size w w' := by
  have hlen := hx.len
  obtain ⟨R, hR⟩ : ∃ R, liveS (rs, fr) i = R := ⟨_, rfl⟩
  rw [hR]
  unfold liveS at hR
  simp only [hlen] at hR
  have HX := Lib.hid (Es.alloc hx (.cells #[.slice A n c, .int .i64 fr] 24))
  have HK := Lib.hid (heap_alloc_new w (.cells #[.slice A n c, .int .i64 fr] 24))
  have HB := Lib.hid ((Below.refl w.heap.size w).alloc (Nat.le_refl _) (.cells #[.slice A n c, .int .i64 fr] 24))
  have hsz : (w.alloc (.cells #[.slice A n c, .int .i64 fr] 24)).heap.size = w.heap.size + 1 := by simp
  have z0 := blk_cell HK.out 0; have z1 := blk_cell HK.out 1
  simp only [List.getElem?_toArray, List.getElem?_cons_zero, List.getElem?_cons_succ] at z0 z1
  clear hx
  have FR := Lib.hid (fun (W : World) h => refFree_any A n c rs fr W h hn)
  generalize hq : w.heap.size = q at *
  by_cases h0 : 0 ≤ i
  · have b0 : decide (0 ≤ i) = true := by simpa using h0
    by_cases h1 : i < (n : Int)
    · have b1 : decide (i < (n : Int)) = true := by simpa using h1
      have hFl := (freeS_places (rs, fr)).len
      simp only [hlen] at hFl
      obtain ⟨F, hF⟩ : ∃ F, freeS (rs, fr) = F := ⟨_, rfl⟩
      rw [hF] at hR FR hFl
      have HR := Lib.hid (show (!decide (i ∈ F)) = R by rw [← hR]; by_cases hm : i ∈ F <;> simp [hm, h0, h1])
      clear hR hF h0 h1
      go_enter Try.func44, Try.ntmps44
      go_wp2_with fail
      generalize w.alloc (.cells #[.slice A n c, .int .i64 fr] 24) = w0 at *
      refine (FR.out _ HX.out).mono ?_
      rintro e w1 ⟨B, m, d, rfl, his, hb⟩
      have HB1 := Lib.hid (show Below q w w1 from HB.out.trans (hb.mono (by omega)))
      have H := Lib.hid (refHas_any B m d F i w1 his (by have := Is.len his; omega))
      clear hb his z0 z1
      go_wp2_with fail
      refine H.out.mono ?_; rintro e w' ⟨rfl, rfl⟩
      have hrr := HR.out
      generalize decide (i ∈ F) = fm at *
      subst hrr
      go_wp2
      go_ret
      exact ⟨rfl, HB1.out⟩
    · have b1 : decide (i < (n : Int)) = false := by simpa using h1
      have HR := Lib.hid (show R = false by rw [← hR]; exact decide_eq_false (fun h => h1 h.2.1))
      clear hR h0 h1 FR
      go_enter Try.func44, Try.ntmps44
      go_wp2
      go_ret
      rw [HR.out]
      exact ⟨rfl, HB.out⟩
  · have b0 : decide (0 ≤ i) = false := by simpa using h0
    have HR := Lib.hid (show R = false by rw [← hR]; exact decide_eq_false (fun h => h0 h.1))
    clear hR h0 FR
    go_enter Try.func44, Try.ntmps44
    go_wp2
    go_ret
    rw [HR.out]
    exact ⟨rfl, HB.out⟩
/-- records of one's own. -/
theorem rs_of_own {w : World} {base n : Nat} {v : Value} {rs : List Rec3} (h : w.ownsRow base 55 3 v n (recC rs)) : ∃ A c, v = .slice A n c ∧ Rs w A n c rs := Es.of_own h (recC_one rs)
theorem op_app_run7 {P : Program} {w w' : World} {o : Oper} {a : Act} {K : Act → World → Prop} {Q : Exit → Act → World → Prop} {c : Prop} [Decidable c] (hc : c) {s x : Operand} {t : TypeId}
    (ho : o.op = .call { callee := .builtin .append, args := #[s, x], argTypes := #[t, t] }) {v u v' : Value} (hs : a.eval s = v) (hx : a.eval x = u)
    (hr : (Builtin.append_ #[t, t] o.type #[v, u]).run P w = .ok v' w') (h : K (a.put o.dst v') w') : if c then Oper.wp P o a w K Q else K (a.put o.dst undef) w := by
  rw [if_pos hc]
  unfold Oper.wp execOp
  simp only [ho, resolve, invoke, builtin, Sem.run_bind, Sem.run_pure, Result.andThen_ok, List.map_toArray, List.map_cons, List.map_nil, hs, hx, hr]
  exact h
theorem load_arena_drew {w : World} {b : Nat} {x y : Value} (h : w.heap[b]? = some (.cells #[x, y] 24)) : (loadVar 24 ⟨b, 0, none⟩).run Try.prog w = .ok (.agg #[x, y]) w := load_arena h
/-- a row of the call's own, and a store elsewhere. -/
theorem own_apart {w : World} {base k : Nat} {e : TypeId} {size n : Nat} {v u : Value} {xs : List Value} (h : w.ownsRow base e size v n xs) (hk : k < base) {o : Nat} : (w.setCell ⟨k, o, none⟩ u).ownsRow base e size v n xs := by
  refine ⟨h.1, ?_⟩
  rcases h.2 with h2 | ⟨g, cap, cur, h1, h2, h3, h4⟩
  · exact .inl h2
  · refine .inr ⟨g, cap, cur, h1, h2, ?_, h4⟩
    rw [Below.heap_setCell _ _ _ _ (by simp only; omega)]; exact h3
theorem own_other {w : World} {base k : Nat} {e : TypeId} {size n : Nat} {v u : Value} {xs : List Value} (h : w.ownsRow base e size v n xs) {o : Nat} (hk : v.ownBlock ≠ some k) : (w.setCell ⟨k, o, none⟩ u).ownsRow base e size v n xs := by
  refine ⟨h.1, ?_⟩
  rcases h.2 with h2 | ⟨g, cap, cur, h1, h2, h3, h4⟩
  · exact .inl h2
  · refine .inr ⟨g, cap, cur, h1, h2, ?_, h4⟩
    rw [Below.heap_setCell _ _ _ _ (fun e => hk (by rw [h1]; simp [Value.ownBlock]; simpa using e))]; exact h3
theorem own_base {w : World} {base base' : Nat} {e : TypeId} {size n : Nat} {v : Value} {xs : List Value} (h : w.ownsRow base e size v n xs) (hb : base' ≤ base) : w.ownsRow base' e size v n xs := by
  refine ⟨h.1, ?_⟩
  rcases h.2 with h2 | ⟨g, cap, cur, h1, h2, h3⟩
  · exact .inl h2
  · exact .inr ⟨g, cap, cur, h1, by omega, h3⟩
/-- an arena whose records are the call's own. -/
def CopyPost (w : World) (n : Nat) (rs : List Rec3) (fr : Int) (e : Ending) (w' : World) : Prop :=
  ∃ B d, e = .returned (.agg #[.slice B n d, .int .i64 fr]) ∧ w'.ownsRow w.heap.size 55 3 (.slice B n d) n (recC rs) ∧ Below w.heap.size w w'
set_option maxHeartbeats 1000000 in
theorem refCopy_any (A : Option Addr) (n c : Nat) (rs : List Rec3) (fr : Int) (w : World) (hx : Rs w A n c rs) (hn : n ≤ 16384) :
    Calls Try.prog 8 #[.agg #[.slice A n c, .int .i64 fr]] w (CopyPost w n rs fr) := by
  obtain ⟨i5, hi5, hz0, hz1, hz2⟩ := info_of infoRec
  have hk1 := heap_alloc_new w (.cells #[.slice A n c, .int .i64 fr] 24)
  have hs1 : (w.alloc (.cells #[.slice A n c, .int .i64 fr] 24)).heap.size = w.heap.size + 1 := by simp
  have hb1 : Below w.heap.size w (w.alloc (.cells #[.slice A n c, .int .i64 fr] 24)) := (Below.refl w.heap.size w).alloc (Nat.le_refl _) _
  have hx1 : Rs (w.alloc (.cells #[.slice A n c, .int .i64 fr] 24)) A n c rs := Es.alloc hx _
  generalize hq : w.heap.size = q at *
  generalize hw1 : w.alloc (.cells #[.slice A n c, .int .i64 fr] 24) = w1 at *
  have hk2 : (w1.alloc (.cells #[.slice none 0 0, .int .i64 0] 24)).heap[q]? = some (.cells #[.slice A n c, .int .i64 fr] 24) := by rw [heap_alloc_old _ _ (by omega)]; exact hk1
  have hr2 := heap_alloc_new w1 (.cells #[.slice none 0 0, .int .i64 0] 24)
  have hs2 : (w1.alloc (.cells #[.slice none 0 0, .int .i64 0] 24)).heap.size = q + 2 := by simp; omega
  have hb2 : Below q w (w1.alloc (.cells #[.slice none 0 0, .int .i64 0] 24)) := hb1.alloc (by omega) _
  have hx2 : Rs (w1.alloc (.cells #[.slice none 0 0, .int .i64 0] 24)) A n c rs := Es.alloc hx1 _
  rw [hs1] at hr2
  generalize hw2 : w1.alloc (.cells #[.slice none 0 0, .int .i64 0] 24) = w2 at *
  have hown0 : (w2.drew.alloc (.cells #[] 55)).ownsRow (q + 2) 55 3 (.slice (some ⟨w2.drew.heap.size, 0, none⟩) 0 0) 0 [] := World.ownsRow_lit w2.drew #[] 0 (by show q + 2 ≤ w2.heap.size; omega) (by unfold maxLen; omega) (by simp)
  obtain ⟨v, w3, hap, hown, hgr, hvk⟩ := eapp_own (P := Try.prog) (w2.drew.alloc (.cells #[] 55)) (q + 2) 22 22 55 i5 _ 3 24 Try.underlying22 hi5 hz0 hz1 hz2 rfl (by decide) _ 0 _ hown0 A n c _ (Es.alloc (Es.drew hx2) _) (by unfold maxLen; omega) (by omega) (by simp; omega)
  rw [Nat.zero_add, List.nil_append] at hown
  have hb3 : Below (q + 2) w2 w3 := ((Below.refl _ _).drew.alloc (by show q + 2 ≤ w2.heap.size; omega) _).grown hgr (by simp; omega) (by simp [Value.ownBlock]; omega)
  obtain ⟨B, d, rfl, _⟩ := rs_of_own hown
  rw [show w2.drew.heap.size = q + 2 from hs2] at hap
  have hk3 := blk_below hk2 hb3 (by omega)
  have hr3 := blk_below hr2 hb3 (by omega)
  have x0 := blk_cell hk2 0; have x1 := blk_cell hk2 1
  have y0 := blk_cell hk3 0; have y1 := blk_cell hk3 1
  have u0 := blk_cell hr3 0; have u1 := blk_cell hr3 1
  have t0 := blk_frozen hr3 0; have t1 := blk_frozen hr3 1
  simp only [List.getElem?_toArray, List.getElem?_cons_zero, List.getElem?_cons_succ] at x0 x1 y0 y1 u0 u1
  have HR3 := Lib.hid hr3
  have HO := Lib.hid hown; have HB3 := Lib.hid hb3; have HB2 := Lib.hid hb2; have HV := Lib.hid hvk
  clear hown hgr hb3 hb2 hb1 hown0 hx hx1 hx2 hk1 hk2 hk3 hr2 hr3 hi5 hz0 hz1 hz2 hvk
  go_enter Try.func8, Try.ntmps8
  go_wp2
  refine wp_region_noPanic ?_
  refine wp_region_held_drew (S := (fun wv => Below (q + 1) w2 wv)) (by kernel_rfl) ((Below.refl (q + 1) w2).drew) (fun hS => ?_)
  refine wpAnyH_take (i := 1) (oi := ⟨some 4, .fieldAddr 24 (.tmp 1) 0, 0, "ref.go:75", #[], none⟩) (v := ?_) rfl (by kernel_rfl) (by kernel_rfl) (by kernel_rfl) (fun _ _ _ h => h) (Or.inl ⟨by rfl, ?_⟩) hS ?_
  rotate_left
  · intro wv _; go_simp; try with_reducible rfl
  try simp only [Act.put, List.setIfInBounds_toArray, List.set_cons_zero, List.set_cons_succ]
  refine wpAnyH_take (i := 2) (oi := ⟨some 5, .load 22 (.tmp 4), 22, "ref.go:75", #[⟨1, .data⟩], none⟩) (v := ?_) rfl (by kernel_rfl) (by kernel_rfl) (by kernel_rfl) (fun _ _ _ h => h) (Or.inl ⟨by rfl, ?_⟩) hS ?_
  rotate_left
  · intro wv hS; have hrun := (hS.cell (p := ⟨q, 0, none⟩) (by simp only; omega)).trans x0; go_simp; try with_reducible rfl
  try simp only [Act.put, List.setIfInBounds_toArray, List.set_cons_zero, List.set_cons_succ]
  refine wpAnyH_take (i := 4) (oi := ⟨some 7, .fieldAddr 24 (.tmp 1) 1, 0, "ref.go:75", #[], none⟩) (v := ?_) rfl (by kernel_rfl) (by kernel_rfl) (by kernel_rfl) (fun _ _ _ h => h) (Or.inl ⟨by rfl, ?_⟩) hS ?_
  rotate_left
  · intro wv _; go_simp; try with_reducible rfl
  try simp only [Act.put, List.setIfInBounds_toArray, List.set_cons_zero, List.set_cons_succ]
  refine wpAnyH_take (i := 5) (oi := ⟨some 8, .load 3 (.tmp 7), 3, "ref.go:75", #[⟨4, .data⟩], none⟩) (v := ?_) rfl (by kernel_rfl) (by kernel_rfl) (by kernel_rfl) (fun _ _ _ h => h) (Or.inl ⟨by rfl, ?_⟩) hS ?_
  rotate_left
  · intro wv hS; have hrun := (hS.cell (p := ⟨q, 1, none⟩) (by simp only; omega)).trans x1; go_simp; try with_reducible rfl
  try simp only [Act.put, List.setIfInBounds_toArray, List.set_cons_zero, List.set_cons_succ]
  refine wpAnyH_ready (rs := [0]) (by kernel_rfl) (by simp) (AllReadyH.cons (o := ⟨some 3, .buildSlice 22 0 #[], 22, "ref.go:75", #[], none⟩) rfl (fun K hK => ?_) AllReadyH.nil)
  go_simp
  replace hS := hS.alloc (by show q + 1 ≤ w2.heap.size; omega) (.cells #[] 55)
  refine Shut.out hK _ _ hS (fun _ => ?_)
  clear hK K
  try simp only [Act.put, List.setIfInBounds_toArray, List.set_cons_zero, List.set_cons_succ]
  refine wpAnyH_ready (rs := [3]) (by kernel_rfl) (by simp) (AllReadyH.cons (o := ⟨some 6, .call { callee := .builtin .append, args := #[.tmp 3, .tmp 5], argTypes := #[22, 22] }, 22, "ref.go:75", #[⟨0, .data⟩, ⟨2, .data⟩], none⟩) rfl (fun K hK => ?_) AllReadyH.nil)
  refine op_app_run7 (by rfl) rfl rfl rfl hap ?_
  replace hS := HB3.out.mono (show q + 1 ≤ q + 2 by omega)
  refine Shut.out hK _ _ hS (fun _ => ?_)
  clear hK K
  try simp only [Act.put, List.setIfInBounds_toArray, List.set_cons_zero, List.set_cons_succ]
  refine wpAnyH_take (i := 6) (oi := ⟨some 9, .build 24 #[(0, .tmp 6), (1, .tmp 8)], 24, "ref.go:75", #[⟨3, .data⟩, ⟨5, .data⟩], none⟩) (v := ?_) rfl (by kernel_rfl) (by kernel_rfl) (by kernel_rfl) (fun _ _ _ h => h) (Or.inl ⟨by rfl, ?_⟩) hS ?_
  rotate_left
  · intro wv _; go_simp; try with_reducible rfl
  try simp only [Act.put, List.setIfInBounds_toArray, List.set_cons_zero, List.set_cons_succ]
  refine wpAnyH_ready (rs := [7]) (by kernel_rfl) (by simp) (AllReadyH.cons (o := ⟨none, .store 24 (.tmp 2) (.tmp 9), 0, "ref.go:75", #[⟨6, .data⟩, ⟨3, .chain⟩, ⟨0, .phase⟩, ⟨1, .phase⟩, ⟨2, .phase⟩, ⟨3, .phase⟩, ⟨4, .phase⟩, ⟨5, .phase⟩, ⟨6, .phase⟩], none⟩) rfl (fun K hK => ?_) AllReadyH.nil)
  go_simp
  replace hS := (hS.setCell (by simp) (p := ⟨q + 1, 0, none⟩) (.slice B n d)).setCell (by simp) (p := ⟨q + 1, 1, none⟩) (.int .i64 fr)
  refine Shut.out hK _ _ hS (fun _ => ?_)
  clear hK K
  try simp only [Act.put, List.setIfInBounds_toArray, List.set_cons_zero, List.set_cons_succ]
  refine wpAnyH_done (by kernel_rfl) ?_ _
  refine NoPanic.normal ?_
  go_wp2
  refine bodyPost_ret (res_c Try.results8 (by rfl) (load_arena (blk_pair HR3.out (.slice B n d) (.int .i64 fr)))) rfl ?_
  have hso : ∀ (W : World) (o : Nat) (u : Value), W.ownsRow (q + 2) 55 3 (.slice B n d) n (recC rs) → (W.setCell ⟨q + 1, o, none⟩ u).ownsRow (q + 2) 55 3 (.slice B n d) n (recC rs) := fun W o u h => own_apart h (by omega)
  refine ⟨B, d, rfl, own_base (hso _ _ _ (hso _ _ _ HO.out)) (by rw [hq]; omega), ?_⟩
  rw [hq]
  exact ((HB2.out.trans (HB3.out.mono (by omega))).setCell (by simp) _).setCell (by simp) _
end Go.Proofs.Ytombfempdfdeoaa
