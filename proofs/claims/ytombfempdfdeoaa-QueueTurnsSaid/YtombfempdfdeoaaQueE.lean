/- What the document's own without of layer 8 answers; for slices of up to 16384 records. -/
import Derived.Test.YtombfempdfdeoaaQueD
import Derived.Test.YtombfempdfdeoaaRo
import Derived.Deep.Cut
import Derived.Deep.CutRange
namespace Go.Proofs.Ytombfempdfdeoaa
set_option linter.unusedVariables false
set_option linter.unusedSimpArgs false
open Go.RowKit
theorem butL_len {l : List Int} {k : Nat} (h : k < l.length) : (butL l k).length = k + (l.length - (k + 1)) := by
  unfold butL; rw [List.length_append, List.length_take, List.length_drop]; omega
theorem butL_mem {l : List Int} {k : Nat} {x : Int} (h : x ∈ butL l k) : x ∈ l := by
  rcases List.mem_append.1 h with h | h
  · exact List.mem_of_mem_take h
  · exact List.mem_of_mem_drop h
set_option maxRecDepth 100000 in
set_option maxHeartbeats 8000000 in
theorem refQBut_any (A : Option Addr) (n c : Nat) (rs : List Rec3) (fr hd tl : Int) (k : Nat) (w : World) (hx : Rs w A n c rs) (hn : n ≤ 16384) (hr : qRight (rs, fr) (hd, tl) = true) (hk : k < (qPlaces (rs, fr) (hd, tl)).length) :
    Calls Try.prog 29 #[.agg #[.slice A n c, .int .i64 fr], .agg #[.int .i64 hd, .int .i64 tl], .int .i64 (k : Int)] w (QPost w A n c (qBut (rs, fr) (hd, tl) k)) := by
  have HL2 := Lib.hid hx.len
  have RX := Lib.hid hx
  have hsm : n ≤ 64 := by have := right_small (qRight_right hr); rw [← HL2.out]; exact this
  have PL := Lib.hid (fun (W : World) (h : Rs W A n c rs) => refQPlaces_own A n c rs fr hd tl W h hn)
  have HPL := qPlaces_places (rs, fr) (hd, tl)
  have hpn := HPL.len
  obtain ⟨R, hR⟩ : ∃ R, qBut (rs, fr) (hd, tl) k = R := ⟨_, rfl⟩
  rw [hR]
  obtain ⟨pl, hpl⟩ : ∃ pl, qPlaces (rs, fr) (hd, tl) = pl := ⟨_, rfl⟩
  have P1 := fun (W : World) (h : Rs W A n c rs) => PL.out W h
  rw [hpl] at P1 HPL hpn hk
  simp only [HL2.out] at HPL hpn
  replace P1 := Lib.hid P1
  have HBM := Lib.hid (show ∀ x ∈ butL pl k, 0 ≤ x ∧ x < (n : Int) from fun x hx => HPL.2 x (butL_mem hx))
  have HBL := Lib.hid (butL_len hk)
  have hLR := laidR_len (butL pl k) rs
  have hGD : pl.getD k 0 = pl[k] := by simp [List.getD, hk]
  obtain ⟨px, hpx⟩ : ∃ px, pl[k] = px := ⟨_, rfl⟩
  have hE : R = if (arGive (laidR rs (butL pl k), fr) px).2 ≠ 0 then ((rs, fr), (hd, tl), (arGive (laidR rs (butL pl k), fr) px).2) else ((arGive (laidR rs (butL pl k), fr) px).1, laidQ (butL pl k), 0) := by
    rw [← hR, ← hpx, ← hGD]; unfold qBut; rw [hpl]
  obtain ⟨rg, fg, eg, hG⟩ : ∃ rg fg eg, arGive (laidR rs (butL pl k), fr) px = ((rg, fg), eg) := ⟨_, _, _, rfl⟩
  rw [hG] at hE
  simp only at hE
  obtain ⟨rl, hrl⟩ : ∃ rl, laidR rs (butL pl k) = rl := ⟨_, rfl⟩
  have LD := fun (C : Option Addr) (m c2 : Nat) (W : World) (h : Rs W A n c rs) (hi : Is W C m c2 (butL pl k)) => refLaid_any A n c rs fr C m c2 (butL pl k) W h hi HBM.out hn (by have := hi.len; have := HBL.out; omega)
  have GV := fun (B : Option Addr) (m d : Nat) (W : World) (h : Rs W B m d (laidR rs (butL pl k))) => refGive_own B m d (laidR rs (butL pl k)) fr px W h (by have := h.len; have := HL2.out; omega)
  rw [hG] at GV
  rw [hrl] at LD GV
  have LDH : Hid (∀ (C : Option Addr) (m c2 : Nat) (W : World), Rs W A n c rs → Is W C m c2 (butL pl k) → Calls Try.prog 36 #[.agg #[.slice A n c, .int .i64 fr], .slice C m c2] W (LaidPost W rl fr (laidQ (butL pl k)))) := Lib.hid LD
  have GVH : Hid (∀ (B : Option Addr) (m d : Nat) (W : World), Rs W B m d rl → Calls Try.prog 43 #[.agg #[.slice B m d, .int .i64 fr], .int .i64 px] W (GiveOwn W ((rg, fg), eg))) := Lib.hid GV
  have HPX := Lib.hid hpx
  have HE0 := Lib.hid hE
  clear hx hR hpl PL HPL LD GV hG hGD hr hLR hrl hpx hE
  obtain ⟨v1, hv1⟩ : ∃ W, w.alloc (.cells #[.slice A n c, .int .i64 fr] 24) = W := ⟨_, rfl⟩
  have fr1 : Fr w v1 w.heap.size [.cells #[.slice A n c, .int .i64 fr] 24] := hv1 ▸ Fr.first w _
  have z1 : v1.heap.size = w.heap.size + 1 := by rw [← hv1, Fr.size1]
  obtain ⟨v2, hv2⟩ : ∃ W, v1.alloc (.cells #[.int .i64 hd, .int .i64 tl] 26) = W := ⟨_, rfl⟩
  have fr2 : Fr w v2 w.heap.size [.cells #[.slice A n c, .int .i64 fr] 24, .cells #[.int .i64 hd, .int .i64 tl] 26] := hv2 ▸ fr1.more z1 _
  have z2 : v2.heap.size = w.heap.size + 2 := by rw [← hv2, Fr.size1, z1]
  obtain ⟨v3, hv3⟩ : ∃ W, v2.alloc (.cells #[.slice none 0 0, .int .i64 0] 24) = W := ⟨_, rfl⟩
  have fr3 : Fr w v3 w.heap.size [.cells #[.slice A n c, .int .i64 fr] 24, .cells #[.int .i64 hd, .int .i64 tl] 26, .cells #[.slice none 0 0, .int .i64 0] 24] := hv3 ▸ fr2.more z2 _
  have z3 : v3.heap.size = w.heap.size + 3 := by rw [← hv3, Fr.size1, z2]
  obtain ⟨v4, hv4⟩ : ∃ W, v3.alloc (.cells #[.int .i64 0, .int .i64 0] 26) = W := ⟨_, rfl⟩
  have fr4 : Fr w v4 w.heap.size [.cells #[.slice A n c, .int .i64 fr] 24, .cells #[.int .i64 hd, .int .i64 tl] 26, .cells #[.slice none 0 0, .int .i64 0] 24, .cells #[.int .i64 0, .int .i64 0] 26] := hv4 ▸ fr3.more z3 _
  have z4 : v4.heap.size = w.heap.size + 4 := by rw [← hv4, Fr.size1, z3]
  generalize hq : w.heap.size = q at *
  have FR := Lib.hid fr4
  clear fr1 fr2 fr3 fr4
  go_enter Try.func29, Try.ntmps29
  have hq4 := FR.out.sz
  simp only [List.length_cons, List.length_nil] at hq4
  have c00 : v4.cell? ⟨q, 0, none⟩ = some (.slice A n c) := FR.out.cell 0 0 rfl rfl rfl
  have c01 : v4.cell? ⟨q, 1, none⟩ = some (.int .i64 fr) := FR.out.cell 0 1 rfl rfl rfl
  have c10 : v4.cell? ⟨q + 1, 0, none⟩ = some (.int .i64 hd) := FR.out.cell 1 0 rfl rfl rfl
  have c11 : v4.cell? ⟨q + 1, 1, none⟩ = some (.int .i64 tl) := FR.out.cell 1 1 rfl rfl rfl
  have c20 : v4.cell? ⟨q + 2, 0, none⟩ = some (.slice none 0 0) := FR.out.cell 2 0 rfl rfl rfl
  have c21 : v4.cell? ⟨q + 2, 1, none⟩ = some (.int .i64 0) := FR.out.cell 2 1 rfl rfl rfl
  have c30 : v4.cell? ⟨q + 3, 0, none⟩ = some (.int .i64 0) := FR.out.cell 3 0 rfl rfl rfl
  have c31 : v4.cell? ⟨q + 3, 1, none⟩ = some (.int .i64 0) := FR.out.cell 3 1 rfl rfl rfl
  go_wp2_with fail
  refine ((P1.out _ (FR.out.es RX.out))).mono ?_
  rintro e w5 ⟨C, m, c2, rfl, hown, hb⟩
  clear c00 c01 c10 c11 c20 c21 c30 c31
  replace FR := Lib.hid (FR.out.step hb)
  clear hb
  obtain ⟨_, _, he, hip⟩ := Es.of_own hown (intC_one _)
  injection he with he1 he2 he3; subst he1; subst he3
  have IP := Lib.hid (show Is _ C m c2 pl from hip)
  have hpm : pl.length = m := Is.len hip
  clear hown hip
  rw [hpm] at hk hpn
  obtain ⟨pb, poff, x, rfl, hlb, hlc, hdr⟩ := (show Is _ C m c2 pl from IP.out).look k hk
  have hxx : px = x := by have h1 := drop_at (xs := pl) (i := k) (by omega); rw [h1] at hdr; injection hdr with h2 _; rw [← HPX.out]; exact h2
  subst hxx
  clear hdr
  obtain ⟨Ch, ch, hsh, hih⟩ := isl_take (P := Try.prog) IP.out 37 unInts szInts (k : Int) k rfl (by omega)
  obtain ⟨Ct, ct, hst, hit⟩ := isl_drop (P := Try.prog) IP.out 37 unInts szInts ((k : Int) + 1) (k + 1) rfl (by omega)
  have hw1 : IntKind.i64.wrap ((k : Int) + 1) = ((k + 1 : Nat) : Int) := by rw [IntKind.wrap_i64]; omega
  have hqW : q + 4 ≤ w5.heap.size := FR.out.sz
  have hi0 : (0 : Int) ≤ (k : Int) := by omega
  have hi1 : (k : Int) < (m : Int) := by omega
  generalize hz : w5.heap.size = z at *
  have HZ : ∀ wv, Below z w5 wv → z ≤ wv.heap.size := fun wv h => by have := h.size; rwa [hz] at this
  have BZ : ∀ wv, Below z w5 wv → Below w5.heap.size w5 wv := fun wv h => by rw [hz]; exact h
  replace HZ := Lib.hid HZ; replace BZ := Lib.hid BZ
  obtain ⟨N, hN⟩ : ∃ N, k + (m - (k + 1)) = N := ⟨_, rfl⟩
  replace hN := Lib.hid hN
  have IH := Lib.hid hih; have IT := Lib.hid hit
  clear hih hit
  go_upto_region 2 with fail
  go_cut [10, 11] from 12 (fun s10 s11 wx => ∃ (sa sq m2 d2 : Nat) (B2 : Option Addr), s10 = .pointer (some ⟨sa, 0, none⟩) ∧ s11 = .pointer (some ⟨sq, 0, none⟩) ∧ Hid (wx.heap[sa]? = some (.cells #[.slice B2 m2 d2, .int .i64 fr] 24)) ∧ Hid (wx.heap[sq]? = some (.cells #[.int .i64 (laidQ (butL pl k)).1, .int .i64 (laidQ (butL pl k)).2] 26)) ∧ Hid (wx.ownsRow (q + 4) 55 3 (.slice B2 m2 d2) m2 (recC rl)) ∧ Hid (Below z w5 wx) ∧ z ≤ sa ∧ z ≤ sq)
  case first =>
    refine wp_region_noPanic ?_
    refine wp_region_held_drew (S := (fun wv => Below z w5 wv)) (by kernel_rfl) ((Below.refl _ w5).drew) (fun hS => ?_)
    refine wpAnyH_take (i := 0) (oi := ⟨some 18, .load 24 (.tmp 3), 24, "ref.go:89", #[], none⟩) (v := .agg (([.slice A n c, .int .i64 fr] : List Value)).toArray) rfl (by kernel_rfl) (by kernel_rfl) (by kernel_rfl) (fun _ _ _ h => h) (yieldsIf_load_mid (by rfl) _ _ (by rfl) (q) 0 (by rfl) (([.slice A n c, .int .i64 fr] : List Value)) _ (fun wv hS => blk_rngl ((hS.block q (by omega)).trans (FR.out.blk 0 _ rfl))) Try.underlying24 (by rfl) (by kernel_rfl)) hS ?_
    try simp only [Act.put, List.setIfInBounds_toArray, List.set_cons_zero, List.set_cons_succ]
    refine wpAnyH_take (i := 2) (oi := ⟨some 20, .move (.tmp 9), 37, "ref.go:89", #[], none⟩) (v := ?_) rfl (by kernel_rfl) (by kernel_rfl) (by kernel_rfl) (fun _ _ _ h => h) (Or.inl ⟨by rfl, ?_⟩) hS ?_
    rotate_left
    · intro wv _; go_simp; try with_reducible rfl
    try simp only [Act.put, List.setIfInBounds_toArray, List.set_cons_zero, List.set_cons_succ]
    refine wpAnyH_take (i := 3) (oi := ⟨some 21, .move (.tmp 2), 3, "ref.go:89", #[], none⟩) (v := ?_) rfl (by kernel_rfl) (by kernel_rfl) (by kernel_rfl) (fun _ _ _ h => h) (Or.inl ⟨by rfl, ?_⟩) hS ?_
    rotate_left
    · intro wv _; go_simp; try with_reducible rfl
    try simp only [Act.put, List.setIfInBounds_toArray, List.set_cons_zero, List.set_cons_succ]
    refine wpAnyH_take (i := 4) (oi := ⟨some 22, .slice 37 (.tmp 20) none (some (.tmp 21)) none, 37, "ref.go:89", #[⟨2, .data⟩, ⟨3, .data⟩], none⟩) (v := ?_) rfl (by kernel_rfl) (by kernel_rfl) (by kernel_rfl) (fun _ _ _ h => h) (Or.inl ⟨by rfl, ?_⟩) hS ?_
    rotate_left
    · intro wv _; go_simp; try with_reducible rfl
    try simp only [Act.put, List.setIfInBounds_toArray, List.set_cons_zero, List.set_cons_succ]
    refine wpAnyH_take (i := 6) (oi := ⟨some 24, .move (.tmp 9), 37, "ref.go:89", #[], none⟩) (v := ?_) rfl (by kernel_rfl) (by kernel_rfl) (by kernel_rfl) (fun _ _ _ h => h) (Or.inl ⟨by rfl, ?_⟩) hS ?_
    rotate_left
    · intro wv _; go_simp; try with_reducible rfl
    try simp only [Act.put, List.setIfInBounds_toArray, List.set_cons_zero, List.set_cons_succ]
    refine wpAnyH_take (i := 7) (oi := ⟨some 25, .move (.tmp 2), 3, "ref.go:89", #[], none⟩) (v := ?_) rfl (by kernel_rfl) (by kernel_rfl) (by kernel_rfl) (fun _ _ _ h => h) (Or.inl ⟨by rfl, ?_⟩) hS ?_
    rotate_left
    · intro wv _; go_simp; try with_reducible rfl
    try simp only [Act.put, List.setIfInBounds_toArray, List.set_cons_zero, List.set_cons_succ]
    refine wpAnyH_take (i := 8) (oi := ⟨some 26, .binOp .add 3 (.tmp 25) (.const (Value.int IntKind.i64 1)) 3, 3, "ref.go:89", #[⟨7, .data⟩], none⟩) (v := ?_) rfl (by kernel_rfl) (by kernel_rfl) (by kernel_rfl) (fun _ _ _ h => h) (Or.inl ⟨by rfl, ?_⟩) hS ?_
    rotate_left
    · intro wv _; go_simp; try with_reducible rfl
    try simp only [Act.put, List.setIfInBounds_toArray, List.set_cons_zero, List.set_cons_succ]
    refine wpAnyH_take (i := 9) (oi := ⟨some 27, .slice 37 (.tmp 24) (some (.tmp 26)) none none, 37, "ref.go:89", #[⟨6, .data⟩, ⟨8, .data⟩], none⟩) (v := ?_) rfl (by kernel_rfl) (by kernel_rfl) (by kernel_rfl) (fun _ _ _ h => h) (Or.inl ⟨by rfl, ?_⟩) hS ?_
    rotate_left
    · intro wv _; go_simp; try with_reducible rfl
    try simp only [Act.put, List.setIfInBounds_toArray, List.set_cons_zero, List.set_cons_succ]
    refine wpAnyH_ready (rs := [1, 15, 16]) (by kernel_rfl) (by simp) (AllReadyH.cons (o := ⟨some 19, .buildSlice 37 0 #[], 37, "ref.go:89", #[], none⟩) rfl (fun K hK => ?_) (AllReadyH.cons (o := ⟨some 10, .alloc 24, 0, "ref.go:89", #[], none⟩) rfl (fun K hK => ?_) (AllReadyH.cons (o := ⟨some 11, .alloc 26, 0, "ref.go:89", #[], none⟩) rfl (fun K hK => ?_) AllReadyH.nil)))
    ·
     go_simp
     have HS : Below z w5 w5 := Below.refl _ _
     have HSZ : z ≤ z := Nat.le_refl _
     have bd : Below z w5 (w5.alloc (.cells #[] 3)) := by have h := (Below.refl w5.heap.size w5).alloc (Nat.le_refl _) (.cells #[] 3); rwa [hz] at h
     replace HS := HS.trans (bd.mono HSZ)
     have OL : (w5.alloc (.cells #[] 3)).ownsRow z 3 1 (.slice (some ⟨z, 0, none⟩) 0 0) 0 (intC []) := by have h := lit_ints (base := z) w5 (Nat.le_of_eq hz.symm) [] (by simp) rfl; rw [hz] at h; exact h
     clear bd HSZ
     generalize w5.alloc (.cells #[] 3) = x1 at *
     replace hS := HS.drew
     refine Shut.out hK _ _ hS (fun _ => ?_)
     clear hK K
     try simp only [Act.put, List.setIfInBounds_toArray, List.set_cons_zero, List.set_cons_succ]
     refine wpAnyH_ready (rs := [5, 15, 16]) (by kernel_rfl) (by simp) (AllReadyH.cons (o := ⟨some 23, .call { callee := .builtin .append, args := #[.tmp 19, .tmp 22], argTypes := #[37, 37] }, 37, "ref.go:89", #[⟨1, .data⟩, ⟨4, .data⟩], none⟩) rfl (fun K hK => ?_) (AllReadyH.cons (o := ⟨some 10, .alloc 24, 0, "ref.go:89", #[], none⟩) rfl (fun K hK => ?_) (AllReadyH.cons (o := ⟨some 11, .alloc 26, 0, "ref.go:89", #[], none⟩) rfl (fun K hK => ?_) AllReadyH.nil)))
     ·
      have bdr : Below x1.heap.size x1 x1.drew := (Below.refl _ _).drew
      replace OL := own_below OL bdr
      replace HS := HS.drew
      clear bdr
      obtain ⟨A5, c5, u5_, hap5, own5, gr5⟩ := app_ints x1.drew z _ (0) _ OL Ch (k) ch _ (IH.out.below (BZ.out _ HS)) (by omega) (HZ.out _ HS)
      rw [Nat.zero_add] at hap5 own5
      replace HS := HS.grown gr5 (HZ.out _ HS) (fun j hj => (OL.lt j hj).1)
      clear gr5 OL
      have OL := own5
      clear own5
      refine op_app_run7 (by rfl) rfl rfl rfl hap5 ?_
      clear hap5
      replace hS := HS
      refine Shut.out hK _ _ hS (fun _ => ?_)
      clear hK K
      try simp only [Act.put, List.setIfInBounds_toArray, List.set_cons_zero, List.set_cons_succ]
      refine wpAnyH_ready (rs := [10, 15, 16]) (by kernel_rfl) (by simp) (AllReadyH.cons (o := ⟨some 28, .call { callee := .builtin .append, args := #[.tmp 23, .tmp 27], argTypes := #[37, 37] }, 37, "ref.go:89", #[⟨5, .data⟩, ⟨9, .data⟩, ⟨5, .chain⟩], none⟩) rfl (fun K hK => ?_) (AllReadyH.cons (o := ⟨some 10, .alloc 24, 0, "ref.go:89", #[], none⟩) rfl (fun K hK => ?_) (AllReadyH.cons (o := ⟨some 11, .alloc 26, 0, "ref.go:89", #[], none⟩) rfl (fun K hK => ?_) AllReadyH.nil)))
      ·
       obtain ⟨A6, c6, u6_, hap6, own6, gr6⟩ := app_ints u5_ z _ (k) _ OL Ct (m - (k + 1)) ct _ (IT.out.below (BZ.out _ HS)) (by omega) (HZ.out _ HS)
       rw [hN.out] at hap6 own6
       replace HS := HS.grown gr6 (HZ.out _ HS) (fun j hj => (OL.lt j hj).1)
       clear gr6 OL
       have OL := own6
       clear own6
       refine op_app_run7 (by rfl) rfl rfl rfl hap6 ?_
       clear hap6
       replace hS := HS
       refine Shut.out hK _ _ hS (fun _ => ?_)
       clear hK K
       try simp only [Act.put, List.setIfInBounds_toArray, List.set_cons_zero, List.set_cons_succ]
       refine wpAnyH_ready (rs := [11, 15, 16]) (by kernel_rfl) (by simp) (AllReadyH.cons (o := ⟨some 29, .call { callee := .value (.func 36), args := #[.tmp 18, .tmp 28], argTypes := #[24, 37] }, 61, "ref.go:89", #[⟨0, .data⟩, ⟨10, .data⟩, ⟨10, .chain⟩], none⟩) rfl (fun K hK => ?_) (AllReadyH.cons (o := ⟨some 10, .alloc 24, 0, "ref.go:89", #[], none⟩) rfl (fun K hK => ?_) (AllReadyH.cons (o := ⟨some 11, .alloc 26, 0, "ref.go:89", #[], none⟩) rfl (fun K hK => ?_) AllReadyH.nil)))
       ·
        go_simp
        obtain ⟨_, _, he, hi6⟩ := Es.of_own OL (intC_one _)
        injection he with he1 he2 he3; subst he1; subst he3
        refine (LDH.out A6 _ c6 u6_ ((FR.out.step (BZ.out _ HS)).es RX.out) (show Is u6_ A6 N c6 (butL pl k) from hi6)).mono ?_
        rintro e wl ⟨B2, m2, d2, rfl, hrs, hb⟩
        have RR := own_base hrs (show q + 4 ≤ u6_.heap.size from Nat.le_trans hqW (HZ.out _ HS))
        replace HS := HS.trans (hb.mono (HZ.out _ HS))
        clear hb hrs hi6 OL
        replace hS := HS
        go_wp2_with fail
        refine Shut.out hK _ _ hS (fun _ => ?_)
        clear hK K
        try simp only [Act.put, List.setIfInBounds_toArray, List.set_cons_zero, List.set_cons_succ]
        refine wpAnyH_take (i := 12) (oi := ⟨some 17, .move (.tmp 29), 61, "ref.go:89", #[⟨11, .data⟩], none⟩) (v := ?_) rfl (by kernel_rfl) (by kernel_rfl) (by kernel_rfl) (fun _ _ _ h => h) (Or.inl ⟨by rfl, ?_⟩) hS ?_
        rotate_left
        · intro wv _; go_simp; try with_reducible rfl
        try simp only [Act.put, List.setIfInBounds_toArray, List.set_cons_zero, List.set_cons_succ]
        refine wpAnyH_take (i := 13) (oi := ⟨some 30, .extract (.tmp 17) 0, 24, "ref.go:89", #[⟨12, .data⟩], none⟩) (v := ?_) rfl (by kernel_rfl) (by kernel_rfl) (by kernel_rfl) (fun _ _ _ h => h) (Or.inl ⟨by rfl, ?_⟩) hS ?_
        rotate_left
        · intro wv _; go_simp; try with_reducible rfl
        try simp only [Act.put, List.setIfInBounds_toArray, List.set_cons_zero, List.set_cons_succ]
        refine wpAnyH_take (i := 14) (oi := ⟨some 31, .extract (.tmp 17) 1, 26, "ref.go:89", #[⟨12, .data⟩, ⟨17, .gcOnly .lateStores⟩], none⟩) (v := ?_) rfl (by kernel_rfl) (by kernel_rfl) (by kernel_rfl) (fun _ _ _ h => h) (Or.inl ⟨by rfl, ?_⟩) hS ?_
        rotate_left
        · intro wv _; go_simp; try with_reducible rfl
        try simp only [Act.put, List.setIfInBounds_toArray, List.set_cons_zero, List.set_cons_succ]
        refine wpAnyH_ready (rs := [15, 16]) (by kernel_rfl) (by simp) (AllReadyH.cons (o := ⟨some 10, .alloc 24, 0, "ref.go:89", #[], none⟩) rfl (fun K hK => ?_) (AllReadyH.cons (o := ⟨some 11, .alloc 26, 0, "ref.go:89", #[], none⟩) rfl (fun K hK => ?_) AllReadyH.nil))
        ·
         go_simp
         have HSZ : z ≤ wl.heap.size := HZ.out _ HS
         have bd : Below wl.heap.size wl (wl.alloc (.cells #[.slice none 0 0, .int .i64 0] 24)) := (Below.refl _ _).alloc (Nat.le_refl _) _
         replace HS := HS.trans (bd.mono HSZ)
         replace RR := own_below RR bd
         have Va : (wl.alloc (.cells #[.slice none 0 0, .int .i64 0] 24)).heap[wl.heap.size]? = some (.cells #[.slice none 0 0, .int .i64 0] 24) := heap_alloc_new _ _
         have gea : z ≤ wl.heap.size := HSZ
         clear bd HSZ
         generalize wl.alloc (.cells #[.slice none 0 0, .int .i64 0] 24) = x2 at *
         generalize hsa : wl.heap.size = sa at *
         replace hS := HS
         go_wp2_with fail
         refine Shut.out hK _ _ hS (fun _ => ?_)
         clear hK K
         try simp only [Act.put, List.setIfInBounds_toArray, List.set_cons_zero, List.set_cons_succ]
         refine wpAnyH_ready (rs := [16]) (by kernel_rfl) (by simp) (AllReadyH.cons (o := ⟨some 11, .alloc 26, 0, "ref.go:89", #[], none⟩) rfl (fun K hK => ?_) AllReadyH.nil)
         go_simp
         have HSZ : z ≤ x2.heap.size := HZ.out _ HS
         have bd : Below x2.heap.size x2 (x2.alloc (.cells #[.int .i64 0, .int .i64 0] 26)) := (Below.refl _ _).alloc (Nat.le_refl _) _
         replace HS := HS.trans (bd.mono HSZ)
         replace Va := blk_below Va bd (blk_lt Va)
         replace RR := own_below RR bd
         have Vq : (x2.alloc (.cells #[.int .i64 0, .int .i64 0] 26)).heap[x2.heap.size]? = some (.cells #[.int .i64 0, .int .i64 0] 26) := heap_alloc_new _ _
         have geq : z ≤ x2.heap.size := HSZ
         clear bd HSZ
         generalize x2.alloc (.cells #[.int .i64 0, .int .i64 0] 26) = x3 at *
         generalize hsq : x2.heap.size = sq at *
         replace hS := HS
         have ca0 : x3.cell? ⟨sa, 0, none⟩ = some (.slice none 0 0) := (blk_cell Va 0).trans rfl
         have ca1 : x3.cell? ⟨sa, 1, none⟩ = some (.int .i64 0) := (blk_cell Va 1).trans rfl
         have fa0 := blk_frozen Va 0
         have fa1 := blk_frozen Va 1
         have cq0 : x3.cell? ⟨sq, 0, none⟩ = some (.int .i64 0) := (blk_cell Vq 0).trans rfl
         have cq1 : x3.cell? ⟨sq, 1, none⟩ = some (.int .i64 0) := (blk_cell Vq 1).trans rfl
         have fq0 := blk_frozen Vq 0
         have fq1 := blk_frozen Vq 1
         have naq : sa ≠ sq := blk_ne Va Vq (by decide)
         have nqa := naq.symm
         go_wp2_with fail
         refine Shut.out hK _ _ hS (fun _ => ?_)
         clear hK K
         try simp only [Act.put, List.setIfInBounds_toArray, List.set_cons_zero, List.set_cons_succ]
         refine wpAnyH_ready (rs := [17]) (by kernel_rfl) (by simp) (AllReadyH.cons (o := ⟨none, .store 24 (.tmp 10) (.tmp 30), 0, "ref.go:89", #[⟨15, .data⟩, ⟨13, .data⟩, ⟨11, .chain⟩, ⟨0, .phase⟩, ⟨1, .phase⟩, ⟨2, .phase⟩, ⟨3, .phase⟩, ⟨4, .phase⟩, ⟨5, .phase⟩, ⟨6, .phase⟩, ⟨7, .phase⟩, ⟨8, .phase⟩, ⟨9, .phase⟩, ⟨10, .phase⟩, ⟨11, .phase⟩, ⟨12, .phase⟩, ⟨13, .phase⟩, ⟨14, .textOnly .lateStores⟩, ⟨15, .phase⟩, ⟨16, .phase⟩], none⟩) rfl (fun K hK => ?_) AllReadyH.nil)
         go_simp
         replace RR := own_pair RR Va (by decide) (.slice B2 m2 d2) (.int .i64 fr)
         replace Va := blk_pair Va (.slice B2 m2 d2) (.int .i64 fr)
         replace Vq := keep_pair Vq nqa (.slice B2 m2 d2) (.int .i64 fr)
         replace HS := bel_pair HS gea (.slice B2 m2 d2) (.int .i64 fr)
         clear ca0 ca1 cq0 cq1 fa0 fa1 fq0 fq1
         generalize (x3.setCell ⟨sa, 0, none⟩ (.slice B2 m2 d2)).setCell ⟨sa, 1, none⟩ (.int .i64 fr) = x4 at *
         replace hS := HS
         have cq0 : x4.cell? ⟨sq, 0, none⟩ = some (.int .i64 0) := (blk_cell Vq 0).trans rfl
         have cq1 : x4.cell? ⟨sq, 1, none⟩ = some (.int .i64 0) := (blk_cell Vq 1).trans rfl
         have fq0 := blk_frozen Vq 0
         have fq1 := blk_frozen Vq 1
         refine Shut.out hK _ _ hS (fun _ => ?_)
         clear hK K
         try simp only [Act.put, List.setIfInBounds_toArray, List.set_cons_zero, List.set_cons_succ]
         refine wpAnyH_ready (rs := [18]) (by kernel_rfl) (by simp) (AllReadyH.cons (o := ⟨none, .store 26 (.tmp 11) (.tmp 31), 0, "ref.go:89", #[⟨16, .data⟩, ⟨14, .data⟩, ⟨17, .chain⟩, ⟨0, .phase⟩, ⟨1, .phase⟩, ⟨2, .phase⟩, ⟨3, .phase⟩, ⟨4, .phase⟩, ⟨5, .phase⟩, ⟨6, .phase⟩, ⟨7, .phase⟩, ⟨8, .phase⟩, ⟨9, .phase⟩, ⟨10, .phase⟩, ⟨11, .phase⟩, ⟨12, .phase⟩, ⟨13, .phase⟩, ⟨14, .phase⟩, ⟨15, .phase⟩, ⟨16, .phase⟩, ⟨17, .phase⟩], none⟩) rfl (fun K hK => ?_) AllReadyH.nil)
         go_simp
         replace RR := own_pair RR Vq (by decide) (.int .i64 (laidQ (butL pl k)).1) (.int .i64 (laidQ (butL pl k)).2)
         replace Vq := blk_pair Vq (.int .i64 (laidQ (butL pl k)).1) (.int .i64 (laidQ (butL pl k)).2)
         replace Va := keep_pair Va naq (.int .i64 (laidQ (butL pl k)).1) (.int .i64 (laidQ (butL pl k)).2)
         replace HS := bel_pair HS geq (.int .i64 (laidQ (butL pl k)).1) (.int .i64 (laidQ (butL pl k)).2)
         clear cq0 cq1 fq0 fq1
         generalize (x4.setCell ⟨sq, 0, none⟩ (.int .i64 (laidQ (butL pl k)).1)).setCell ⟨sq, 1, none⟩ (.int .i64 (laidQ (butL pl k)).2) = x5 at *
         replace hS := HS
         refine Shut.out hK _ _ hS (fun _ => ?_)
         clear hK K
         try simp only [Act.put, List.setIfInBounds_toArray, List.set_cons_zero, List.set_cons_succ]
         refine wpAnyH_done (by kernel_rfl) ?_ _
         refine NoPanic.normal ?_
         go_wp2_with fail
         go_meet
         exact ⟨sa, sq, m2, d2, B2, rfl, rfl, Lib.hid Va, Lib.hid Vq, Lib.hid RR, Lib.hid HS, gea, geq⟩
        ·
         go_simp
         have HSZ : z ≤ wl.heap.size := HZ.out _ HS
         have bd : Below wl.heap.size wl (wl.alloc (.cells #[.int .i64 0, .int .i64 0] 26)) := (Below.refl _ _).alloc (Nat.le_refl _) _
         replace HS := HS.trans (bd.mono HSZ)
         replace RR := own_below RR bd
         have Vq : (wl.alloc (.cells #[.int .i64 0, .int .i64 0] 26)).heap[wl.heap.size]? = some (.cells #[.int .i64 0, .int .i64 0] 26) := heap_alloc_new _ _
         have geq : z ≤ wl.heap.size := HSZ
         clear bd HSZ
         generalize wl.alloc (.cells #[.int .i64 0, .int .i64 0] 26) = x2 at *
         generalize hsq : wl.heap.size = sq at *
         replace hS := HS
         go_wp2_with fail
         refine Shut.out hK _ _ hS (fun _ => ?_)
         clear hK K
         try simp only [Act.put, List.setIfInBounds_toArray, List.set_cons_zero, List.set_cons_succ]
         refine wpAnyH_ready (rs := [15]) (by kernel_rfl) (by simp) (AllReadyH.cons (o := ⟨some 10, .alloc 24, 0, "ref.go:89", #[], none⟩) rfl (fun K hK => ?_) AllReadyH.nil)
         go_simp
         have HSZ : z ≤ x2.heap.size := HZ.out _ HS
         have bd : Below x2.heap.size x2 (x2.alloc (.cells #[.slice none 0 0, .int .i64 0] 24)) := (Below.refl _ _).alloc (Nat.le_refl _) _
         replace HS := HS.trans (bd.mono HSZ)
         replace Vq := blk_below Vq bd (blk_lt Vq)
         replace RR := own_below RR bd
         have Va : (x2.alloc (.cells #[.slice none 0 0, .int .i64 0] 24)).heap[x2.heap.size]? = some (.cells #[.slice none 0 0, .int .i64 0] 24) := heap_alloc_new _ _
         have gea : z ≤ x2.heap.size := HSZ
         clear bd HSZ
         generalize x2.alloc (.cells #[.slice none 0 0, .int .i64 0] 24) = x3 at *
         generalize hsa : x2.heap.size = sa at *
         replace hS := HS
         have ca0 : x3.cell? ⟨sa, 0, none⟩ = some (.slice none 0 0) := (blk_cell Va 0).trans rfl
         have ca1 : x3.cell? ⟨sa, 1, none⟩ = some (.int .i64 0) := (blk_cell Va 1).trans rfl
         have fa0 := blk_frozen Va 0
         have fa1 := blk_frozen Va 1
         have cq0 : x3.cell? ⟨sq, 0, none⟩ = some (.int .i64 0) := (blk_cell Vq 0).trans rfl
         have cq1 : x3.cell? ⟨sq, 1, none⟩ = some (.int .i64 0) := (blk_cell Vq 1).trans rfl
         have fq0 := blk_frozen Vq 0
         have fq1 := blk_frozen Vq 1
         have naq : sa ≠ sq := blk_ne Va Vq (by decide)
         have nqa := naq.symm
         go_wp2_with fail
         refine Shut.out hK _ _ hS (fun _ => ?_)
         clear hK K
         try simp only [Act.put, List.setIfInBounds_toArray, List.set_cons_zero, List.set_cons_succ]
         refine wpAnyH_ready (rs := [17]) (by kernel_rfl) (by simp) (AllReadyH.cons (o := ⟨none, .store 24 (.tmp 10) (.tmp 30), 0, "ref.go:89", #[⟨15, .data⟩, ⟨13, .data⟩, ⟨11, .chain⟩, ⟨0, .phase⟩, ⟨1, .phase⟩, ⟨2, .phase⟩, ⟨3, .phase⟩, ⟨4, .phase⟩, ⟨5, .phase⟩, ⟨6, .phase⟩, ⟨7, .phase⟩, ⟨8, .phase⟩, ⟨9, .phase⟩, ⟨10, .phase⟩, ⟨11, .phase⟩, ⟨12, .phase⟩, ⟨13, .phase⟩, ⟨14, .textOnly .lateStores⟩, ⟨15, .phase⟩, ⟨16, .phase⟩], none⟩) rfl (fun K hK => ?_) AllReadyH.nil)
         go_simp
         replace RR := own_pair RR Va (by decide) (.slice B2 m2 d2) (.int .i64 fr)
         replace Va := blk_pair Va (.slice B2 m2 d2) (.int .i64 fr)
         replace Vq := keep_pair Vq nqa (.slice B2 m2 d2) (.int .i64 fr)
         replace HS := bel_pair HS gea (.slice B2 m2 d2) (.int .i64 fr)
         clear ca0 ca1 cq0 cq1 fa0 fa1 fq0 fq1
         generalize (x3.setCell ⟨sa, 0, none⟩ (.slice B2 m2 d2)).setCell ⟨sa, 1, none⟩ (.int .i64 fr) = x4 at *
         replace hS := HS
         have cq0 : x4.cell? ⟨sq, 0, none⟩ = some (.int .i64 0) := (blk_cell Vq 0).trans rfl
         have cq1 : x4.cell? ⟨sq, 1, none⟩ = some (.int .i64 0) := (blk_cell Vq 1).trans rfl
         have fq0 := blk_frozen Vq 0
         have fq1 := blk_frozen Vq 1
         refine Shut.out hK _ _ hS (fun _ => ?_)
         clear hK K
         try simp only [Act.put, List.setIfInBounds_toArray, List.set_cons_zero, List.set_cons_succ]
         refine wpAnyH_ready (rs := [18]) (by kernel_rfl) (by simp) (AllReadyH.cons (o := ⟨none, .store 26 (.tmp 11) (.tmp 31), 0, "ref.go:89", #[⟨16, .data⟩, ⟨14, .data⟩, ⟨17, .chain⟩, ⟨0, .phase⟩, ⟨1, .phase⟩, ⟨2, .phase⟩, ⟨3, .phase⟩, ⟨4, .phase⟩, ⟨5, .phase⟩, ⟨6, .phase⟩, ⟨7, .phase⟩, ⟨8, .phase⟩, ⟨9, .phase⟩, ⟨10, .phase⟩, ⟨11, .phase⟩, ⟨12, .phase⟩, ⟨13, .phase⟩, ⟨14, .phase⟩, ⟨15, .phase⟩, ⟨16, .phase⟩, ⟨17, .phase⟩], none⟩) rfl (fun K hK => ?_) AllReadyH.nil)
         go_simp
         replace RR := own_pair RR Vq (by decide) (.int .i64 (laidQ (butL pl k)).1) (.int .i64 (laidQ (butL pl k)).2)
         replace Vq := blk_pair Vq (.int .i64 (laidQ (butL pl k)).1) (.int .i64 (laidQ (butL pl k)).2)
         replace Va := keep_pair Va naq (.int .i64 (laidQ (butL pl k)).1) (.int .i64 (laidQ (butL pl k)).2)
         replace HS := bel_pair HS geq (.int .i64 (laidQ (butL pl k)).1) (.int .i64 (laidQ (butL pl k)).2)
         clear cq0 cq1 fq0 fq1
         generalize (x4.setCell ⟨sq, 0, none⟩ (.int .i64 (laidQ (butL pl k)).1)).setCell ⟨sq, 1, none⟩ (.int .i64 (laidQ (butL pl k)).2) = x5 at *
         replace hS := HS
         refine Shut.out hK _ _ hS (fun _ => ?_)
         clear hK K
         try simp only [Act.put, List.setIfInBounds_toArray, List.set_cons_zero, List.set_cons_succ]
         refine wpAnyH_done (by kernel_rfl) ?_ _
         refine NoPanic.normal ?_
         go_wp2_with fail
         go_meet
         exact ⟨sa, sq, m2, d2, B2, rfl, rfl, Lib.hid Va, Lib.hid Vq, Lib.hid RR, Lib.hid HS, gea, geq⟩
       ·
        go_simp
        have HSZ : z ≤ u6_.heap.size := HZ.out _ HS
        have bd : Below u6_.heap.size u6_ (u6_.alloc (.cells #[.slice none 0 0, .int .i64 0] 24)) := (Below.refl _ _).alloc (Nat.le_refl _) _
        replace HS := HS.trans (bd.mono HSZ)
        replace OL := own_below OL bd
        have Va : (u6_.alloc (.cells #[.slice none 0 0, .int .i64 0] 24)).heap[u6_.heap.size]? = some (.cells #[.slice none 0 0, .int .i64 0] 24) := heap_alloc_new _ _
        have gea : z ≤ u6_.heap.size := HSZ
        clear bd HSZ
        generalize u6_.alloc (.cells #[.slice none 0 0, .int .i64 0] 24) = x2 at *
        generalize hsa : u6_.heap.size = sa at *
        replace hS := HS
        go_wp2_with fail
        refine Shut.out hK _ _ hS (fun _ => ?_)
        clear hK K
        try simp only [Act.put, List.setIfInBounds_toArray, List.set_cons_zero, List.set_cons_succ]
        refine wpAnyH_ready (rs := [11, 16]) (by kernel_rfl) (by simp) (AllReadyH.cons (o := ⟨some 29, .call { callee := .value (.func 36), args := #[.tmp 18, .tmp 28], argTypes := #[24, 37] }, 61, "ref.go:89", #[⟨0, .data⟩, ⟨10, .data⟩, ⟨10, .chain⟩], none⟩) rfl (fun K hK => ?_) (AllReadyH.cons (o := ⟨some 11, .alloc 26, 0, "ref.go:89", #[], none⟩) rfl (fun K hK => ?_) AllReadyH.nil))
        ·
         go_simp
         obtain ⟨_, _, he, hi6⟩ := Es.of_own OL (intC_one _)
         injection he with he1 he2 he3; subst he1; subst he3
         refine (LDH.out A6 _ c6 x2 ((FR.out.step (BZ.out _ HS)).es RX.out) (show Is x2 A6 N c6 (butL pl k) from hi6)).mono ?_
         rintro e wl ⟨B2, m2, d2, rfl, hrs, hb⟩
         replace Va := blk_below Va hb (blk_lt Va)
         have RR := own_base hrs (show q + 4 ≤ x2.heap.size from Nat.le_trans hqW (HZ.out _ HS))
         replace HS := HS.trans (hb.mono (HZ.out _ HS))
         clear hb hrs hi6 OL
         replace hS := HS
         go_wp2_with fail
         refine Shut.out hK _ _ hS (fun _ => ?_)
         clear hK K
         try simp only [Act.put, List.setIfInBounds_toArray, List.set_cons_zero, List.set_cons_succ]
         refine wpAnyH_take (i := 12) (oi := ⟨some 17, .move (.tmp 29), 61, "ref.go:89", #[⟨11, .data⟩], none⟩) (v := ?_) rfl (by kernel_rfl) (by kernel_rfl) (by kernel_rfl) (fun _ _ _ h => h) (Or.inl ⟨by rfl, ?_⟩) hS ?_
         rotate_left
         · intro wv _; go_simp; try with_reducible rfl
         try simp only [Act.put, List.setIfInBounds_toArray, List.set_cons_zero, List.set_cons_succ]
         refine wpAnyH_take (i := 13) (oi := ⟨some 30, .extract (.tmp 17) 0, 24, "ref.go:89", #[⟨12, .data⟩], none⟩) (v := ?_) rfl (by kernel_rfl) (by kernel_rfl) (by kernel_rfl) (fun _ _ _ h => h) (Or.inl ⟨by rfl, ?_⟩) hS ?_
         rotate_left
         · intro wv _; go_simp; try with_reducible rfl
         try simp only [Act.put, List.setIfInBounds_toArray, List.set_cons_zero, List.set_cons_succ]
         refine wpAnyH_take (i := 14) (oi := ⟨some 31, .extract (.tmp 17) 1, 26, "ref.go:89", #[⟨12, .data⟩, ⟨17, .gcOnly .lateStores⟩], none⟩) (v := ?_) rfl (by kernel_rfl) (by kernel_rfl) (by kernel_rfl) (fun _ _ _ h => h) (Or.inl ⟨by rfl, ?_⟩) hS ?_
         rotate_left
         · intro wv _; go_simp; try with_reducible rfl
         try simp only [Act.put, List.setIfInBounds_toArray, List.set_cons_zero, List.set_cons_succ]
         refine wpAnyH_ready (rs := [16]) (by kernel_rfl) (by simp) (AllReadyH.cons (o := ⟨some 11, .alloc 26, 0, "ref.go:89", #[], none⟩) rfl (fun K hK => ?_) AllReadyH.nil)
         go_simp
         have HSZ : z ≤ wl.heap.size := HZ.out _ HS
         have bd : Below wl.heap.size wl (wl.alloc (.cells #[.int .i64 0, .int .i64 0] 26)) := (Below.refl _ _).alloc (Nat.le_refl _) _
         replace HS := HS.trans (bd.mono HSZ)
         replace Va := blk_below Va bd (blk_lt Va)
         replace RR := own_below RR bd
         have Vq : (wl.alloc (.cells #[.int .i64 0, .int .i64 0] 26)).heap[wl.heap.size]? = some (.cells #[.int .i64 0, .int .i64 0] 26) := heap_alloc_new _ _
         have geq : z ≤ wl.heap.size := HSZ
         clear bd HSZ
         generalize wl.alloc (.cells #[.int .i64 0, .int .i64 0] 26) = x3 at *
         generalize hsq : wl.heap.size = sq at *
         replace hS := HS
         have ca0 : x3.cell? ⟨sa, 0, none⟩ = some (.slice none 0 0) := (blk_cell Va 0).trans rfl
         have ca1 : x3.cell? ⟨sa, 1, none⟩ = some (.int .i64 0) := (blk_cell Va 1).trans rfl
         have fa0 := blk_frozen Va 0
         have fa1 := blk_frozen Va 1
         have cq0 : x3.cell? ⟨sq, 0, none⟩ = some (.int .i64 0) := (blk_cell Vq 0).trans rfl
         have cq1 : x3.cell? ⟨sq, 1, none⟩ = some (.int .i64 0) := (blk_cell Vq 1).trans rfl
         have fq0 := blk_frozen Vq 0
         have fq1 := blk_frozen Vq 1
         have naq : sa ≠ sq := blk_ne Va Vq (by decide)
         have nqa := naq.symm
         go_wp2_with fail
         refine Shut.out hK _ _ hS (fun _ => ?_)
         clear hK K
         try simp only [Act.put, List.setIfInBounds_toArray, List.set_cons_zero, List.set_cons_succ]
         refine wpAnyH_ready (rs := [17]) (by kernel_rfl) (by simp) (AllReadyH.cons (o := ⟨none, .store 24 (.tmp 10) (.tmp 30), 0, "ref.go:89", #[⟨15, .data⟩, ⟨13, .data⟩, ⟨11, .chain⟩, ⟨0, .phase⟩, ⟨1, .phase⟩, ⟨2, .phase⟩, ⟨3, .phase⟩, ⟨4, .phase⟩, ⟨5, .phase⟩, ⟨6, .phase⟩, ⟨7, .phase⟩, ⟨8, .phase⟩, ⟨9, .phase⟩, ⟨10, .phase⟩, ⟨11, .phase⟩, ⟨12, .phase⟩, ⟨13, .phase⟩, ⟨14, .textOnly .lateStores⟩, ⟨15, .phase⟩, ⟨16, .phase⟩], none⟩) rfl (fun K hK => ?_) AllReadyH.nil)
         go_simp
         replace RR := own_pair RR Va (by decide) (.slice B2 m2 d2) (.int .i64 fr)
         replace Va := blk_pair Va (.slice B2 m2 d2) (.int .i64 fr)
         replace Vq := keep_pair Vq nqa (.slice B2 m2 d2) (.int .i64 fr)
         replace HS := bel_pair HS gea (.slice B2 m2 d2) (.int .i64 fr)
         clear ca0 ca1 cq0 cq1 fa0 fa1 fq0 fq1
         generalize (x3.setCell ⟨sa, 0, none⟩ (.slice B2 m2 d2)).setCell ⟨sa, 1, none⟩ (.int .i64 fr) = x4 at *
         replace hS := HS
         have cq0 : x4.cell? ⟨sq, 0, none⟩ = some (.int .i64 0) := (blk_cell Vq 0).trans rfl
         have cq1 : x4.cell? ⟨sq, 1, none⟩ = some (.int .i64 0) := (blk_cell Vq 1).trans rfl
         have fq0 := blk_frozen Vq 0
         have fq1 := blk_frozen Vq 1
         refine Shut.out hK _ _ hS (fun _ => ?_)
         clear hK K
         try simp only [Act.put, List.setIfInBounds_toArray, List.set_cons_zero, List.set_cons_succ]
         refine wpAnyH_ready (rs := [18]) (by kernel_rfl) (by simp) (AllReadyH.cons (o := ⟨none, .store 26 (.tmp 11) (.tmp 31), 0, "ref.go:89", #[⟨16, .data⟩, ⟨14, .data⟩, ⟨17, .chain⟩, ⟨0, .phase⟩, ⟨1, .phase⟩, ⟨2, .phase⟩, ⟨3, .phase⟩, ⟨4, .phase⟩, ⟨5, .phase⟩, ⟨6, .phase⟩, ⟨7, .phase⟩, ⟨8, .phase⟩, ⟨9, .phase⟩, ⟨10, .phase⟩, ⟨11, .phase⟩, ⟨12, .phase⟩, ⟨13, .phase⟩, ⟨14, .phase⟩, ⟨15, .phase⟩, ⟨16, .phase⟩, ⟨17, .phase⟩], none⟩) rfl (fun K hK => ?_) AllReadyH.nil)
         go_simp
         replace RR := own_pair RR Vq (by decide) (.int .i64 (laidQ (butL pl k)).1) (.int .i64 (laidQ (butL pl k)).2)
         replace Vq := blk_pair Vq (.int .i64 (laidQ (butL pl k)).1) (.int .i64 (laidQ (butL pl k)).2)
         replace Va := keep_pair Va naq (.int .i64 (laidQ (butL pl k)).1) (.int .i64 (laidQ (butL pl k)).2)
         replace HS := bel_pair HS geq (.int .i64 (laidQ (butL pl k)).1) (.int .i64 (laidQ (butL pl k)).2)
         clear cq0 cq1 fq0 fq1
         generalize (x4.setCell ⟨sq, 0, none⟩ (.int .i64 (laidQ (butL pl k)).1)).setCell ⟨sq, 1, none⟩ (.int .i64 (laidQ (butL pl k)).2) = x5 at *
         replace hS := HS
         refine Shut.out hK _ _ hS (fun _ => ?_)
         clear hK K
         try simp only [Act.put, List.setIfInBounds_toArray, List.set_cons_zero, List.set_cons_succ]
         refine wpAnyH_done (by kernel_rfl) ?_ _
         refine NoPanic.normal ?_
         go_wp2_with fail
         go_meet
         exact ⟨sa, sq, m2, d2, B2, rfl, rfl, Lib.hid Va, Lib.hid Vq, Lib.hid RR, Lib.hid HS, gea, geq⟩
        ·
         go_simp
         have HSZ : z ≤ x2.heap.size := HZ.out _ HS
         have bd : Below x2.heap.size x2 (x2.alloc (.cells #[.int .i64 0, .int .i64 0] 26)) := (Below.refl _ _).alloc (Nat.le_refl _) _
         replace HS := HS.trans (bd.mono HSZ)
         replace Va := blk_below Va bd (blk_lt Va)
         replace OL := own_below OL bd
         have Vq : (x2.alloc (.cells #[.int .i64 0, .int .i64 0] 26)).heap[x2.heap.size]? = some (.cells #[.int .i64 0, .int .i64 0] 26) := heap_alloc_new _ _
         have geq : z ≤ x2.heap.size := HSZ
         clear bd HSZ
         generalize x2.alloc (.cells #[.int .i64 0, .int .i64 0] 26) = x3 at *
         generalize hsq : x2.heap.size = sq at *
         replace hS := HS
         go_wp2_with fail
         refine Shut.out hK _ _ hS (fun _ => ?_)
         clear hK K
         try simp only [Act.put, List.setIfInBounds_toArray, List.set_cons_zero, List.set_cons_succ]
         refine wpAnyH_ready (rs := [11]) (by kernel_rfl) (by simp) (AllReadyH.cons (o := ⟨some 29, .call { callee := .value (.func 36), args := #[.tmp 18, .tmp 28], argTypes := #[24, 37] }, 61, "ref.go:89", #[⟨0, .data⟩, ⟨10, .data⟩, ⟨10, .chain⟩], none⟩) rfl (fun K hK => ?_) AllReadyH.nil)
         go_simp
         obtain ⟨_, _, he, hi6⟩ := Es.of_own OL (intC_one _)
         injection he with he1 he2 he3; subst he1; subst he3
         refine (LDH.out A6 _ c6 x3 ((FR.out.step (BZ.out _ HS)).es RX.out) (show Is x3 A6 N c6 (butL pl k) from hi6)).mono ?_
         rintro e wl ⟨B2, m2, d2, rfl, hrs, hb⟩
         replace Va := blk_below Va hb (blk_lt Va)
         replace Vq := blk_below Vq hb (blk_lt Vq)
         have RR := own_base hrs (show q + 4 ≤ x3.heap.size from Nat.le_trans hqW (HZ.out _ HS))
         replace HS := HS.trans (hb.mono (HZ.out _ HS))
         clear hb hrs hi6 OL
         replace hS := HS
         have ca0 : wl.cell? ⟨sa, 0, none⟩ = some (.slice none 0 0) := (blk_cell Va 0).trans rfl
         have ca1 : wl.cell? ⟨sa, 1, none⟩ = some (.int .i64 0) := (blk_cell Va 1).trans rfl
         have fa0 := blk_frozen Va 0
         have fa1 := blk_frozen Va 1
         have cq0 : wl.cell? ⟨sq, 0, none⟩ = some (.int .i64 0) := (blk_cell Vq 0).trans rfl
         have cq1 : wl.cell? ⟨sq, 1, none⟩ = some (.int .i64 0) := (blk_cell Vq 1).trans rfl
         have fq0 := blk_frozen Vq 0
         have fq1 := blk_frozen Vq 1
         have naq : sa ≠ sq := blk_ne Va Vq (by decide)
         have nqa := naq.symm
         go_wp2_with fail
         refine Shut.out hK _ _ hS (fun _ => ?_)
         clear hK K
         try simp only [Act.put, List.setIfInBounds_toArray, List.set_cons_zero, List.set_cons_succ]
         refine wpAnyH_take (i := 12) (oi := ⟨some 17, .move (.tmp 29), 61, "ref.go:89", #[⟨11, .data⟩], none⟩) (v := ?_) rfl (by kernel_rfl) (by kernel_rfl) (by kernel_rfl) (fun _ _ _ h => h) (Or.inl ⟨by rfl, ?_⟩) hS ?_
         rotate_left
         · intro wv _; go_simp; try with_reducible rfl
         try simp only [Act.put, List.setIfInBounds_toArray, List.set_cons_zero, List.set_cons_succ]
         refine wpAnyH_take (i := 13) (oi := ⟨some 30, .extract (.tmp 17) 0, 24, "ref.go:89", #[⟨12, .data⟩], none⟩) (v := ?_) rfl (by kernel_rfl) (by kernel_rfl) (by kernel_rfl) (fun _ _ _ h => h) (Or.inl ⟨by rfl, ?_⟩) hS ?_
         rotate_left
         · intro wv _; go_simp; try with_reducible rfl
         try simp only [Act.put, List.setIfInBounds_toArray, List.set_cons_zero, List.set_cons_succ]
         refine wpAnyH_take (i := 14) (oi := ⟨some 31, .extract (.tmp 17) 1, 26, "ref.go:89", #[⟨12, .data⟩, ⟨17, .gcOnly .lateStores⟩], none⟩) (v := ?_) rfl (by kernel_rfl) (by kernel_rfl) (by kernel_rfl) (fun _ _ _ h => h) (Or.inl ⟨by rfl, ?_⟩) hS ?_
         rotate_left
         · intro wv _; go_simp; try with_reducible rfl
         try simp only [Act.put, List.setIfInBounds_toArray, List.set_cons_zero, List.set_cons_succ]
         refine wpAnyH_ready (rs := [17]) (by kernel_rfl) (by simp) (AllReadyH.cons (o := ⟨none, .store 24 (.tmp 10) (.tmp 30), 0, "ref.go:89", #[⟨15, .data⟩, ⟨13, .data⟩, ⟨11, .chain⟩, ⟨0, .phase⟩, ⟨1, .phase⟩, ⟨2, .phase⟩, ⟨3, .phase⟩, ⟨4, .phase⟩, ⟨5, .phase⟩, ⟨6, .phase⟩, ⟨7, .phase⟩, ⟨8, .phase⟩, ⟨9, .phase⟩, ⟨10, .phase⟩, ⟨11, .phase⟩, ⟨12, .phase⟩, ⟨13, .phase⟩, ⟨14, .textOnly .lateStores⟩, ⟨15, .phase⟩, ⟨16, .phase⟩], none⟩) rfl (fun K hK => ?_) AllReadyH.nil)
         go_simp
         replace RR := own_pair RR Va (by decide) (.slice B2 m2 d2) (.int .i64 fr)
         replace Va := blk_pair Va (.slice B2 m2 d2) (.int .i64 fr)
         replace Vq := keep_pair Vq nqa (.slice B2 m2 d2) (.int .i64 fr)
         replace HS := bel_pair HS gea (.slice B2 m2 d2) (.int .i64 fr)
         clear ca0 ca1 cq0 cq1 fa0 fa1 fq0 fq1
         generalize (wl.setCell ⟨sa, 0, none⟩ (.slice B2 m2 d2)).setCell ⟨sa, 1, none⟩ (.int .i64 fr) = x4 at *
         replace hS := HS
         have cq0 : x4.cell? ⟨sq, 0, none⟩ = some (.int .i64 0) := (blk_cell Vq 0).trans rfl
         have cq1 : x4.cell? ⟨sq, 1, none⟩ = some (.int .i64 0) := (blk_cell Vq 1).trans rfl
         have fq0 := blk_frozen Vq 0
         have fq1 := blk_frozen Vq 1
         refine Shut.out hK _ _ hS (fun _ => ?_)
         clear hK K
         try simp only [Act.put, List.setIfInBounds_toArray, List.set_cons_zero, List.set_cons_succ]
         refine wpAnyH_ready (rs := [18]) (by kernel_rfl) (by simp) (AllReadyH.cons (o := ⟨none, .store 26 (.tmp 11) (.tmp 31), 0, "ref.go:89", #[⟨16, .data⟩, ⟨14, .data⟩, ⟨17, .chain⟩, ⟨0, .phase⟩, ⟨1, .phase⟩, ⟨2, .phase⟩, ⟨3, .phase⟩, ⟨4, .phase⟩, ⟨5, .phase⟩, ⟨6, .phase⟩, ⟨7, .phase⟩, ⟨8, .phase⟩, ⟨9, .phase⟩, ⟨10, .phase⟩, ⟨11, .phase⟩, ⟨12, .phase⟩, ⟨13, .phase⟩, ⟨14, .phase⟩, ⟨15, .phase⟩, ⟨16, .phase⟩, ⟨17, .phase⟩], none⟩) rfl (fun K hK => ?_) AllReadyH.nil)
         go_simp
         replace RR := own_pair RR Vq (by decide) (.int .i64 (laidQ (butL pl k)).1) (.int .i64 (laidQ (butL pl k)).2)
         replace Vq := blk_pair Vq (.int .i64 (laidQ (butL pl k)).1) (.int .i64 (laidQ (butL pl k)).2)
         replace Va := keep_pair Va naq (.int .i64 (laidQ (butL pl k)).1) (.int .i64 (laidQ (butL pl k)).2)
         replace HS := bel_pair HS geq (.int .i64 (laidQ (butL pl k)).1) (.int .i64 (laidQ (butL pl k)).2)
         clear cq0 cq1 fq0 fq1
         generalize (x4.setCell ⟨sq, 0, none⟩ (.int .i64 (laidQ (butL pl k)).1)).setCell ⟨sq, 1, none⟩ (.int .i64 (laidQ (butL pl k)).2) = x5 at *
         replace hS := HS
         refine Shut.out hK _ _ hS (fun _ => ?_)
         clear hK K
         try simp only [Act.put, List.setIfInBounds_toArray, List.set_cons_zero, List.set_cons_succ]
         refine wpAnyH_done (by kernel_rfl) ?_ _
         refine NoPanic.normal ?_
         go_wp2_with fail
         go_meet
         exact ⟨sa, sq, m2, d2, B2, rfl, rfl, Lib.hid Va, Lib.hid Vq, Lib.hid RR, Lib.hid HS, gea, geq⟩
       ·
        go_simp
        have HSZ : z ≤ u6_.heap.size := HZ.out _ HS
        have bd : Below u6_.heap.size u6_ (u6_.alloc (.cells #[.int .i64 0, .int .i64 0] 26)) := (Below.refl _ _).alloc (Nat.le_refl _) _
        replace HS := HS.trans (bd.mono HSZ)
        replace OL := own_below OL bd
        have Vq : (u6_.alloc (.cells #[.int .i64 0, .int .i64 0] 26)).heap[u6_.heap.size]? = some (.cells #[.int .i64 0, .int .i64 0] 26) := heap_alloc_new _ _
        have geq : z ≤ u6_.heap.size := HSZ
        clear bd HSZ
        generalize u6_.alloc (.cells #[.int .i64 0, .int .i64 0] 26) = x2 at *
        generalize hsq : u6_.heap.size = sq at *
        replace hS := HS
        go_wp2_with fail
        refine Shut.out hK _ _ hS (fun _ => ?_)
        clear hK K
        try simp only [Act.put, List.setIfInBounds_toArray, List.set_cons_zero, List.set_cons_succ]
        refine wpAnyH_ready (rs := [11, 15]) (by kernel_rfl) (by simp) (AllReadyH.cons (o := ⟨some 29, .call { callee := .value (.func 36), args := #[.tmp 18, .tmp 28], argTypes := #[24, 37] }, 61, "ref.go:89", #[⟨0, .data⟩, ⟨10, .data⟩, ⟨10, .chain⟩], none⟩) rfl (fun K hK => ?_) (AllReadyH.cons (o := ⟨some 10, .alloc 24, 0, "ref.go:89", #[], none⟩) rfl (fun K hK => ?_) AllReadyH.nil))
        ·
         go_simp
         obtain ⟨_, _, he, hi6⟩ := Es.of_own OL (intC_one _)
         injection he with he1 he2 he3; subst he1; subst he3
         refine (LDH.out A6 _ c6 x2 ((FR.out.step (BZ.out _ HS)).es RX.out) (show Is x2 A6 N c6 (butL pl k) from hi6)).mono ?_
         rintro e wl ⟨B2, m2, d2, rfl, hrs, hb⟩
         replace Vq := blk_below Vq hb (blk_lt Vq)
         have RR := own_base hrs (show q + 4 ≤ x2.heap.size from Nat.le_trans hqW (HZ.out _ HS))
         replace HS := HS.trans (hb.mono (HZ.out _ HS))
         clear hb hrs hi6 OL
         replace hS := HS
         go_wp2_with fail
         refine Shut.out hK _ _ hS (fun _ => ?_)
         clear hK K
         try simp only [Act.put, List.setIfInBounds_toArray, List.set_cons_zero, List.set_cons_succ]
         refine wpAnyH_take (i := 12) (oi := ⟨some 17, .move (.tmp 29), 61, "ref.go:89", #[⟨11, .data⟩], none⟩) (v := ?_) rfl (by kernel_rfl) (by kernel_rfl) (by kernel_rfl) (fun _ _ _ h => h) (Or.inl ⟨by rfl, ?_⟩) hS ?_
         rotate_left
         · intro wv _; go_simp; try with_reducible rfl
         try simp only [Act.put, List.setIfInBounds_toArray, List.set_cons_zero, List.set_cons_succ]
         refine wpAnyH_take (i := 13) (oi := ⟨some 30, .extract (.tmp 17) 0, 24, "ref.go:89", #[⟨12, .data⟩], none⟩) (v := ?_) rfl (by kernel_rfl) (by kernel_rfl) (by kernel_rfl) (fun _ _ _ h => h) (Or.inl ⟨by rfl, ?_⟩) hS ?_
         rotate_left
         · intro wv _; go_simp; try with_reducible rfl
         try simp only [Act.put, List.setIfInBounds_toArray, List.set_cons_zero, List.set_cons_succ]
         refine wpAnyH_take (i := 14) (oi := ⟨some 31, .extract (.tmp 17) 1, 26, "ref.go:89", #[⟨12, .data⟩, ⟨17, .gcOnly .lateStores⟩], none⟩) (v := ?_) rfl (by kernel_rfl) (by kernel_rfl) (by kernel_rfl) (fun _ _ _ h => h) (Or.inl ⟨by rfl, ?_⟩) hS ?_
         rotate_left
         · intro wv _; go_simp; try with_reducible rfl
         try simp only [Act.put, List.setIfInBounds_toArray, List.set_cons_zero, List.set_cons_succ]
         refine wpAnyH_ready (rs := [15]) (by kernel_rfl) (by simp) (AllReadyH.cons (o := ⟨some 10, .alloc 24, 0, "ref.go:89", #[], none⟩) rfl (fun K hK => ?_) AllReadyH.nil)
         go_simp
         have HSZ : z ≤ wl.heap.size := HZ.out _ HS
         have bd : Below wl.heap.size wl (wl.alloc (.cells #[.slice none 0 0, .int .i64 0] 24)) := (Below.refl _ _).alloc (Nat.le_refl _) _
         replace HS := HS.trans (bd.mono HSZ)
         replace Vq := blk_below Vq bd (blk_lt Vq)
         replace RR := own_below RR bd
         have Va : (wl.alloc (.cells #[.slice none 0 0, .int .i64 0] 24)).heap[wl.heap.size]? = some (.cells #[.slice none 0 0, .int .i64 0] 24) := heap_alloc_new _ _
         have gea : z ≤ wl.heap.size := HSZ
         clear bd HSZ
         generalize wl.alloc (.cells #[.slice none 0 0, .int .i64 0] 24) = x3 at *
         generalize hsa : wl.heap.size = sa at *
         replace hS := HS
         have ca0 : x3.cell? ⟨sa, 0, none⟩ = some (.slice none 0 0) := (blk_cell Va 0).trans rfl
         have ca1 : x3.cell? ⟨sa, 1, none⟩ = some (.int .i64 0) := (blk_cell Va 1).trans rfl
         have fa0 := blk_frozen Va 0
         have fa1 := blk_frozen Va 1
         have cq0 : x3.cell? ⟨sq, 0, none⟩ = some (.int .i64 0) := (blk_cell Vq 0).trans rfl
         have cq1 : x3.cell? ⟨sq, 1, none⟩ = some (.int .i64 0) := (blk_cell Vq 1).trans rfl
         have fq0 := blk_frozen Vq 0
         have fq1 := blk_frozen Vq 1
         have naq : sa ≠ sq := blk_ne Va Vq (by decide)
         have nqa := naq.symm
         go_wp2_with fail
         refine Shut.out hK _ _ hS (fun _ => ?_)
         clear hK K
         try simp only [Act.put, List.setIfInBounds_toArray, List.set_cons_zero, List.set_cons_succ]
         refine wpAnyH_ready (rs := [17]) (by kernel_rfl) (by simp) (AllReadyH.cons (o := ⟨none, .store 24 (.tmp 10) (.tmp 30), 0, "ref.go:89", #[⟨15, .data⟩, ⟨13, .data⟩, ⟨11, .chain⟩, ⟨0, .phase⟩, ⟨1, .phase⟩, ⟨2, .phase⟩, ⟨3, .phase⟩, ⟨4, .phase⟩, ⟨5, .phase⟩, ⟨6, .phase⟩, ⟨7, .phase⟩, ⟨8, .phase⟩, ⟨9, .phase⟩, ⟨10, .phase⟩, ⟨11, .phase⟩, ⟨12, .phase⟩, ⟨13, .phase⟩, ⟨14, .textOnly .lateStores⟩, ⟨15, .phase⟩, ⟨16, .phase⟩], none⟩) rfl (fun K hK => ?_) AllReadyH.nil)
         go_simp
         replace RR := own_pair RR Va (by decide) (.slice B2 m2 d2) (.int .i64 fr)
         replace Va := blk_pair Va (.slice B2 m2 d2) (.int .i64 fr)
         replace Vq := keep_pair Vq nqa (.slice B2 m2 d2) (.int .i64 fr)
         replace HS := bel_pair HS gea (.slice B2 m2 d2) (.int .i64 fr)
         clear ca0 ca1 cq0 cq1 fa0 fa1 fq0 fq1
         generalize (x3.setCell ⟨sa, 0, none⟩ (.slice B2 m2 d2)).setCell ⟨sa, 1, none⟩ (.int .i64 fr) = x4 at *
         replace hS := HS
         have cq0 : x4.cell? ⟨sq, 0, none⟩ = some (.int .i64 0) := (blk_cell Vq 0).trans rfl
         have cq1 : x4.cell? ⟨sq, 1, none⟩ = some (.int .i64 0) := (blk_cell Vq 1).trans rfl
         have fq0 := blk_frozen Vq 0
         have fq1 := blk_frozen Vq 1
         refine Shut.out hK _ _ hS (fun _ => ?_)
         clear hK K
         try simp only [Act.put, List.setIfInBounds_toArray, List.set_cons_zero, List.set_cons_succ]
         refine wpAnyH_ready (rs := [18]) (by kernel_rfl) (by simp) (AllReadyH.cons (o := ⟨none, .store 26 (.tmp 11) (.tmp 31), 0, "ref.go:89", #[⟨16, .data⟩, ⟨14, .data⟩, ⟨17, .chain⟩, ⟨0, .phase⟩, ⟨1, .phase⟩, ⟨2, .phase⟩, ⟨3, .phase⟩, ⟨4, .phase⟩, ⟨5, .phase⟩, ⟨6, .phase⟩, ⟨7, .phase⟩, ⟨8, .phase⟩, ⟨9, .phase⟩, ⟨10, .phase⟩, ⟨11, .phase⟩, ⟨12, .phase⟩, ⟨13, .phase⟩, ⟨14, .phase⟩, ⟨15, .phase⟩, ⟨16, .phase⟩, ⟨17, .phase⟩], none⟩) rfl (fun K hK => ?_) AllReadyH.nil)
         go_simp
         replace RR := own_pair RR Vq (by decide) (.int .i64 (laidQ (butL pl k)).1) (.int .i64 (laidQ (butL pl k)).2)
         replace Vq := blk_pair Vq (.int .i64 (laidQ (butL pl k)).1) (.int .i64 (laidQ (butL pl k)).2)
         replace Va := keep_pair Va naq (.int .i64 (laidQ (butL pl k)).1) (.int .i64 (laidQ (butL pl k)).2)
         replace HS := bel_pair HS geq (.int .i64 (laidQ (butL pl k)).1) (.int .i64 (laidQ (butL pl k)).2)
         clear cq0 cq1 fq0 fq1
         generalize (x4.setCell ⟨sq, 0, none⟩ (.int .i64 (laidQ (butL pl k)).1)).setCell ⟨sq, 1, none⟩ (.int .i64 (laidQ (butL pl k)).2) = x5 at *
         replace hS := HS
         refine Shut.out hK _ _ hS (fun _ => ?_)
         clear hK K
         try simp only [Act.put, List.setIfInBounds_toArray, List.set_cons_zero, List.set_cons_succ]
         refine wpAnyH_done (by kernel_rfl) ?_ _
         refine NoPanic.normal ?_
         go_wp2_with fail
         go_meet
         exact ⟨sa, sq, m2, d2, B2, rfl, rfl, Lib.hid Va, Lib.hid Vq, Lib.hid RR, Lib.hid HS, gea, geq⟩
        ·
         go_simp
         have HSZ : z ≤ x2.heap.size := HZ.out _ HS
         have bd : Below x2.heap.size x2 (x2.alloc (.cells #[.slice none 0 0, .int .i64 0] 24)) := (Below.refl _ _).alloc (Nat.le_refl _) _
         replace HS := HS.trans (bd.mono HSZ)
         replace Vq := blk_below Vq bd (blk_lt Vq)
         replace OL := own_below OL bd
         have Va : (x2.alloc (.cells #[.slice none 0 0, .int .i64 0] 24)).heap[x2.heap.size]? = some (.cells #[.slice none 0 0, .int .i64 0] 24) := heap_alloc_new _ _
         have gea : z ≤ x2.heap.size := HSZ
         clear bd HSZ
         generalize x2.alloc (.cells #[.slice none 0 0, .int .i64 0] 24) = x3 at *
         generalize hsa : x2.heap.size = sa at *
         replace hS := HS
         go_wp2_with fail
         refine Shut.out hK _ _ hS (fun _ => ?_)
         clear hK K
         try simp only [Act.put, List.setIfInBounds_toArray, List.set_cons_zero, List.set_cons_succ]
         refine wpAnyH_ready (rs := [11]) (by kernel_rfl) (by simp) (AllReadyH.cons (o := ⟨some 29, .call { callee := .value (.func 36), args := #[.tmp 18, .tmp 28], argTypes := #[24, 37] }, 61, "ref.go:89", #[⟨0, .data⟩, ⟨10, .data⟩, ⟨10, .chain⟩], none⟩) rfl (fun K hK => ?_) AllReadyH.nil)
         go_simp
         obtain ⟨_, _, he, hi6⟩ := Es.of_own OL (intC_one _)
         injection he with he1 he2 he3; subst he1; subst he3
         refine (LDH.out A6 _ c6 x3 ((FR.out.step (BZ.out _ HS)).es RX.out) (show Is x3 A6 N c6 (butL pl k) from hi6)).mono ?_
         rintro e wl ⟨B2, m2, d2, rfl, hrs, hb⟩
         replace Vq := blk_below Vq hb (blk_lt Vq)
         replace Va := blk_below Va hb (blk_lt Va)
         have RR := own_base hrs (show q + 4 ≤ x3.heap.size from Nat.le_trans hqW (HZ.out _ HS))
         replace HS := HS.trans (hb.mono (HZ.out _ HS))
         clear hb hrs hi6 OL
         replace hS := HS
         have ca0 : wl.cell? ⟨sa, 0, none⟩ = some (.slice none 0 0) := (blk_cell Va 0).trans rfl
         have ca1 : wl.cell? ⟨sa, 1, none⟩ = some (.int .i64 0) := (blk_cell Va 1).trans rfl
         have fa0 := blk_frozen Va 0
         have fa1 := blk_frozen Va 1
         have cq0 : wl.cell? ⟨sq, 0, none⟩ = some (.int .i64 0) := (blk_cell Vq 0).trans rfl
         have cq1 : wl.cell? ⟨sq, 1, none⟩ = some (.int .i64 0) := (blk_cell Vq 1).trans rfl
         have fq0 := blk_frozen Vq 0
         have fq1 := blk_frozen Vq 1
         have naq : sa ≠ sq := blk_ne Va Vq (by decide)
         have nqa := naq.symm
         go_wp2_with fail
         refine Shut.out hK _ _ hS (fun _ => ?_)
         clear hK K
         try simp only [Act.put, List.setIfInBounds_toArray, List.set_cons_zero, List.set_cons_succ]
         refine wpAnyH_take (i := 12) (oi := ⟨some 17, .move (.tmp 29), 61, "ref.go:89", #[⟨11, .data⟩], none⟩) (v := ?_) rfl (by kernel_rfl) (by kernel_rfl) (by kernel_rfl) (fun _ _ _ h => h) (Or.inl ⟨by rfl, ?_⟩) hS ?_
         rotate_left
         · intro wv _; go_simp; try with_reducible rfl
         try simp only [Act.put, List.setIfInBounds_toArray, List.set_cons_zero, List.set_cons_succ]
         refine wpAnyH_take (i := 13) (oi := ⟨some 30, .extract (.tmp 17) 0, 24, "ref.go:89", #[⟨12, .data⟩], none⟩) (v := ?_) rfl (by kernel_rfl) (by kernel_rfl) (by kernel_rfl) (fun _ _ _ h => h) (Or.inl ⟨by rfl, ?_⟩) hS ?_
         rotate_left
         · intro wv _; go_simp; try with_reducible rfl
         try simp only [Act.put, List.setIfInBounds_toArray, List.set_cons_zero, List.set_cons_succ]
         refine wpAnyH_take (i := 14) (oi := ⟨some 31, .extract (.tmp 17) 1, 26, "ref.go:89", #[⟨12, .data⟩, ⟨17, .gcOnly .lateStores⟩], none⟩) (v := ?_) rfl (by kernel_rfl) (by kernel_rfl) (by kernel_rfl) (fun _ _ _ h => h) (Or.inl ⟨by rfl, ?_⟩) hS ?_
         rotate_left
         · intro wv _; go_simp; try with_reducible rfl
         try simp only [Act.put, List.setIfInBounds_toArray, List.set_cons_zero, List.set_cons_succ]
         refine wpAnyH_ready (rs := [17]) (by kernel_rfl) (by simp) (AllReadyH.cons (o := ⟨none, .store 24 (.tmp 10) (.tmp 30), 0, "ref.go:89", #[⟨15, .data⟩, ⟨13, .data⟩, ⟨11, .chain⟩, ⟨0, .phase⟩, ⟨1, .phase⟩, ⟨2, .phase⟩, ⟨3, .phase⟩, ⟨4, .phase⟩, ⟨5, .phase⟩, ⟨6, .phase⟩, ⟨7, .phase⟩, ⟨8, .phase⟩, ⟨9, .phase⟩, ⟨10, .phase⟩, ⟨11, .phase⟩, ⟨12, .phase⟩, ⟨13, .phase⟩, ⟨14, .textOnly .lateStores⟩, ⟨15, .phase⟩, ⟨16, .phase⟩], none⟩) rfl (fun K hK => ?_) AllReadyH.nil)
         go_simp
         replace RR := own_pair RR Va (by decide) (.slice B2 m2 d2) (.int .i64 fr)
         replace Va := blk_pair Va (.slice B2 m2 d2) (.int .i64 fr)
         replace Vq := keep_pair Vq nqa (.slice B2 m2 d2) (.int .i64 fr)
         replace HS := bel_pair HS gea (.slice B2 m2 d2) (.int .i64 fr)
         clear ca0 ca1 cq0 cq1 fa0 fa1 fq0 fq1
         generalize (wl.setCell ⟨sa, 0, none⟩ (.slice B2 m2 d2)).setCell ⟨sa, 1, none⟩ (.int .i64 fr) = x4 at *
         replace hS := HS
         have cq0 : x4.cell? ⟨sq, 0, none⟩ = some (.int .i64 0) := (blk_cell Vq 0).trans rfl
         have cq1 : x4.cell? ⟨sq, 1, none⟩ = some (.int .i64 0) := (blk_cell Vq 1).trans rfl
         have fq0 := blk_frozen Vq 0
         have fq1 := blk_frozen Vq 1
         refine Shut.out hK _ _ hS (fun _ => ?_)
         clear hK K
         try simp only [Act.put, List.setIfInBounds_toArray, List.set_cons_zero, List.set_cons_succ]
         refine wpAnyH_ready (rs := [18]) (by kernel_rfl) (by simp) (AllReadyH.cons (o := ⟨none, .store 26 (.tmp 11) (.tmp 31), 0, "ref.go:89", #[⟨16, .data⟩, ⟨14, .data⟩, ⟨17, .chain⟩, ⟨0, .phase⟩, ⟨1, .phase⟩, ⟨2, .phase⟩, ⟨3, .phase⟩, ⟨4, .phase⟩, ⟨5, .phase⟩, ⟨6, .phase⟩, ⟨7, .phase⟩, ⟨8, .phase⟩, ⟨9, .phase⟩, ⟨10, .phase⟩, ⟨11, .phase⟩, ⟨12, .phase⟩, ⟨13, .phase⟩, ⟨14, .phase⟩, ⟨15, .phase⟩, ⟨16, .phase⟩, ⟨17, .phase⟩], none⟩) rfl (fun K hK => ?_) AllReadyH.nil)
         go_simp
         replace RR := own_pair RR Vq (by decide) (.int .i64 (laidQ (butL pl k)).1) (.int .i64 (laidQ (butL pl k)).2)
         replace Vq := blk_pair Vq (.int .i64 (laidQ (butL pl k)).1) (.int .i64 (laidQ (butL pl k)).2)
         replace Va := keep_pair Va naq (.int .i64 (laidQ (butL pl k)).1) (.int .i64 (laidQ (butL pl k)).2)
         replace HS := bel_pair HS geq (.int .i64 (laidQ (butL pl k)).1) (.int .i64 (laidQ (butL pl k)).2)
         clear cq0 cq1 fq0 fq1
         generalize (x4.setCell ⟨sq, 0, none⟩ (.int .i64 (laidQ (butL pl k)).1)).setCell ⟨sq, 1, none⟩ (.int .i64 (laidQ (butL pl k)).2) = x5 at *
         replace hS := HS
         refine Shut.out hK _ _ hS (fun _ => ?_)
         clear hK K
         try simp only [Act.put, List.setIfInBounds_toArray, List.set_cons_zero, List.set_cons_succ]
         refine wpAnyH_done (by kernel_rfl) ?_ _
         refine NoPanic.normal ?_
         go_wp2_with fail
         go_meet
         exact ⟨sa, sq, m2, d2, B2, rfl, rfl, Lib.hid Va, Lib.hid Vq, Lib.hid RR, Lib.hid HS, gea, geq⟩
      ·
       go_simp
       have HSZ : z ≤ u5_.heap.size := HZ.out _ HS
       have bd : Below u5_.heap.size u5_ (u5_.alloc (.cells #[.slice none 0 0, .int .i64 0] 24)) := (Below.refl _ _).alloc (Nat.le_refl _) _
       replace HS := HS.trans (bd.mono HSZ)
       replace OL := own_below OL bd
       have Va : (u5_.alloc (.cells #[.slice none 0 0, .int .i64 0] 24)).heap[u5_.heap.size]? = some (.cells #[.slice none 0 0, .int .i64 0] 24) := heap_alloc_new _ _
       have gea : z ≤ u5_.heap.size := HSZ
       clear bd HSZ
       generalize u5_.alloc (.cells #[.slice none 0 0, .int .i64 0] 24) = x2 at *
       generalize hsa : u5_.heap.size = sa at *
       replace hS := HS
       go_wp2_with fail
       refine Shut.out hK _ _ hS (fun _ => ?_)
       clear hK K
       try simp only [Act.put, List.setIfInBounds_toArray, List.set_cons_zero, List.set_cons_succ]
       refine wpAnyH_ready (rs := [10, 16]) (by kernel_rfl) (by simp) (AllReadyH.cons (o := ⟨some 28, .call { callee := .builtin .append, args := #[.tmp 23, .tmp 27], argTypes := #[37, 37] }, 37, "ref.go:89", #[⟨5, .data⟩, ⟨9, .data⟩, ⟨5, .chain⟩], none⟩) rfl (fun K hK => ?_) (AllReadyH.cons (o := ⟨some 11, .alloc 26, 0, "ref.go:89", #[], none⟩) rfl (fun K hK => ?_) AllReadyH.nil))
       ·
        obtain ⟨A6, c6, u6_, hap6, own6, gr6⟩ := app_ints x2 z _ (k) _ OL Ct (m - (k + 1)) ct _ (IT.out.below (BZ.out _ HS)) (by omega) (HZ.out _ HS)
        rw [hN.out] at hap6 own6
        replace Va := keep_grown Va gr6 (row_int OL) (by decide)
        replace HS := HS.grown gr6 (HZ.out _ HS) (fun j hj => (OL.lt j hj).1)
        clear gr6 OL
        have OL := own6
        clear own6
        refine op_app_run7 (by rfl) rfl rfl rfl hap6 ?_
        clear hap6
        replace hS := HS
        refine Shut.out hK _ _ hS (fun _ => ?_)
        clear hK K
        try simp only [Act.put, List.setIfInBounds_toArray, List.set_cons_zero, List.set_cons_succ]
        refine wpAnyH_ready (rs := [11, 16]) (by kernel_rfl) (by simp) (AllReadyH.cons (o := ⟨some 29, .call { callee := .value (.func 36), args := #[.tmp 18, .tmp 28], argTypes := #[24, 37] }, 61, "ref.go:89", #[⟨0, .data⟩, ⟨10, .data⟩, ⟨10, .chain⟩], none⟩) rfl (fun K hK => ?_) (AllReadyH.cons (o := ⟨some 11, .alloc 26, 0, "ref.go:89", #[], none⟩) rfl (fun K hK => ?_) AllReadyH.nil))
        ·
         go_simp
         obtain ⟨_, _, he, hi6⟩ := Es.of_own OL (intC_one _)
         injection he with he1 he2 he3; subst he1; subst he3
         refine (LDH.out A6 _ c6 u6_ ((FR.out.step (BZ.out _ HS)).es RX.out) (show Is u6_ A6 N c6 (butL pl k) from hi6)).mono ?_
         rintro e wl ⟨B2, m2, d2, rfl, hrs, hb⟩
         replace Va := blk_below Va hb (blk_lt Va)
         have RR := own_base hrs (show q + 4 ≤ u6_.heap.size from Nat.le_trans hqW (HZ.out _ HS))
         replace HS := HS.trans (hb.mono (HZ.out _ HS))
         clear hb hrs hi6 OL
         replace hS := HS
         go_wp2_with fail
         refine Shut.out hK _ _ hS (fun _ => ?_)
         clear hK K
         try simp only [Act.put, List.setIfInBounds_toArray, List.set_cons_zero, List.set_cons_succ]
         refine wpAnyH_take (i := 12) (oi := ⟨some 17, .move (.tmp 29), 61, "ref.go:89", #[⟨11, .data⟩], none⟩) (v := ?_) rfl (by kernel_rfl) (by kernel_rfl) (by kernel_rfl) (fun _ _ _ h => h) (Or.inl ⟨by rfl, ?_⟩) hS ?_
         rotate_left
         · intro wv _; go_simp; try with_reducible rfl
         try simp only [Act.put, List.setIfInBounds_toArray, List.set_cons_zero, List.set_cons_succ]
         refine wpAnyH_take (i := 13) (oi := ⟨some 30, .extract (.tmp 17) 0, 24, "ref.go:89", #[⟨12, .data⟩], none⟩) (v := ?_) rfl (by kernel_rfl) (by kernel_rfl) (by kernel_rfl) (fun _ _ _ h => h) (Or.inl ⟨by rfl, ?_⟩) hS ?_
         rotate_left
         · intro wv _; go_simp; try with_reducible rfl
         try simp only [Act.put, List.setIfInBounds_toArray, List.set_cons_zero, List.set_cons_succ]
         refine wpAnyH_take (i := 14) (oi := ⟨some 31, .extract (.tmp 17) 1, 26, "ref.go:89", #[⟨12, .data⟩, ⟨17, .gcOnly .lateStores⟩], none⟩) (v := ?_) rfl (by kernel_rfl) (by kernel_rfl) (by kernel_rfl) (fun _ _ _ h => h) (Or.inl ⟨by rfl, ?_⟩) hS ?_
         rotate_left
         · intro wv _; go_simp; try with_reducible rfl
         try simp only [Act.put, List.setIfInBounds_toArray, List.set_cons_zero, List.set_cons_succ]
         refine wpAnyH_ready (rs := [16]) (by kernel_rfl) (by simp) (AllReadyH.cons (o := ⟨some 11, .alloc 26, 0, "ref.go:89", #[], none⟩) rfl (fun K hK => ?_) AllReadyH.nil)
         go_simp
         have HSZ : z ≤ wl.heap.size := HZ.out _ HS
         have bd : Below wl.heap.size wl (wl.alloc (.cells #[.int .i64 0, .int .i64 0] 26)) := (Below.refl _ _).alloc (Nat.le_refl _) _
         replace HS := HS.trans (bd.mono HSZ)
         replace Va := blk_below Va bd (blk_lt Va)
         replace RR := own_below RR bd
         have Vq : (wl.alloc (.cells #[.int .i64 0, .int .i64 0] 26)).heap[wl.heap.size]? = some (.cells #[.int .i64 0, .int .i64 0] 26) := heap_alloc_new _ _
         have geq : z ≤ wl.heap.size := HSZ
         clear bd HSZ
         generalize wl.alloc (.cells #[.int .i64 0, .int .i64 0] 26) = x3 at *
         generalize hsq : wl.heap.size = sq at *
         replace hS := HS
         have ca0 : x3.cell? ⟨sa, 0, none⟩ = some (.slice none 0 0) := (blk_cell Va 0).trans rfl
         have ca1 : x3.cell? ⟨sa, 1, none⟩ = some (.int .i64 0) := (blk_cell Va 1).trans rfl
         have fa0 := blk_frozen Va 0
         have fa1 := blk_frozen Va 1
         have cq0 : x3.cell? ⟨sq, 0, none⟩ = some (.int .i64 0) := (blk_cell Vq 0).trans rfl
         have cq1 : x3.cell? ⟨sq, 1, none⟩ = some (.int .i64 0) := (blk_cell Vq 1).trans rfl
         have fq0 := blk_frozen Vq 0
         have fq1 := blk_frozen Vq 1
         have naq : sa ≠ sq := blk_ne Va Vq (by decide)
         have nqa := naq.symm
         go_wp2_with fail
         refine Shut.out hK _ _ hS (fun _ => ?_)
         clear hK K
         try simp only [Act.put, List.setIfInBounds_toArray, List.set_cons_zero, List.set_cons_succ]
         refine wpAnyH_ready (rs := [17]) (by kernel_rfl) (by simp) (AllReadyH.cons (o := ⟨none, .store 24 (.tmp 10) (.tmp 30), 0, "ref.go:89", #[⟨15, .data⟩, ⟨13, .data⟩, ⟨11, .chain⟩, ⟨0, .phase⟩, ⟨1, .phase⟩, ⟨2, .phase⟩, ⟨3, .phase⟩, ⟨4, .phase⟩, ⟨5, .phase⟩, ⟨6, .phase⟩, ⟨7, .phase⟩, ⟨8, .phase⟩, ⟨9, .phase⟩, ⟨10, .phase⟩, ⟨11, .phase⟩, ⟨12, .phase⟩, ⟨13, .phase⟩, ⟨14, .textOnly .lateStores⟩, ⟨15, .phase⟩, ⟨16, .phase⟩], none⟩) rfl (fun K hK => ?_) AllReadyH.nil)
         go_simp
         replace RR := own_pair RR Va (by decide) (.slice B2 m2 d2) (.int .i64 fr)
         replace Va := blk_pair Va (.slice B2 m2 d2) (.int .i64 fr)
         replace Vq := keep_pair Vq nqa (.slice B2 m2 d2) (.int .i64 fr)
         replace HS := bel_pair HS gea (.slice B2 m2 d2) (.int .i64 fr)
         clear ca0 ca1 cq0 cq1 fa0 fa1 fq0 fq1
         generalize (x3.setCell ⟨sa, 0, none⟩ (.slice B2 m2 d2)).setCell ⟨sa, 1, none⟩ (.int .i64 fr) = x4 at *
         replace hS := HS
         have cq0 : x4.cell? ⟨sq, 0, none⟩ = some (.int .i64 0) := (blk_cell Vq 0).trans rfl
         have cq1 : x4.cell? ⟨sq, 1, none⟩ = some (.int .i64 0) := (blk_cell Vq 1).trans rfl
         have fq0 := blk_frozen Vq 0
         have fq1 := blk_frozen Vq 1
         refine Shut.out hK _ _ hS (fun _ => ?_)
         clear hK K
         try simp only [Act.put, List.setIfInBounds_toArray, List.set_cons_zero, List.set_cons_succ]
         refine wpAnyH_ready (rs := [18]) (by kernel_rfl) (by simp) (AllReadyH.cons (o := ⟨none, .store 26 (.tmp 11) (.tmp 31), 0, "ref.go:89", #[⟨16, .data⟩, ⟨14, .data⟩, ⟨17, .chain⟩, ⟨0, .phase⟩, ⟨1, .phase⟩, ⟨2, .phase⟩, ⟨3, .phase⟩, ⟨4, .phase⟩, ⟨5, .phase⟩, ⟨6, .phase⟩, ⟨7, .phase⟩, ⟨8, .phase⟩, ⟨9, .phase⟩, ⟨10, .phase⟩, ⟨11, .phase⟩, ⟨12, .phase⟩, ⟨13, .phase⟩, ⟨14, .phase⟩, ⟨15, .phase⟩, ⟨16, .phase⟩, ⟨17, .phase⟩], none⟩) rfl (fun K hK => ?_) AllReadyH.nil)
         go_simp
         replace RR := own_pair RR Vq (by decide) (.int .i64 (laidQ (butL pl k)).1) (.int .i64 (laidQ (butL pl k)).2)
         replace Vq := blk_pair Vq (.int .i64 (laidQ (butL pl k)).1) (.int .i64 (laidQ (butL pl k)).2)
         replace Va := keep_pair Va naq (.int .i64 (laidQ (butL pl k)).1) (.int .i64 (laidQ (butL pl k)).2)
         replace HS := bel_pair HS geq (.int .i64 (laidQ (butL pl k)).1) (.int .i64 (laidQ (butL pl k)).2)
         clear cq0 cq1 fq0 fq1
         generalize (x4.setCell ⟨sq, 0, none⟩ (.int .i64 (laidQ (butL pl k)).1)).setCell ⟨sq, 1, none⟩ (.int .i64 (laidQ (butL pl k)).2) = x5 at *
         replace hS := HS
         refine Shut.out hK _ _ hS (fun _ => ?_)
         clear hK K
         try simp only [Act.put, List.setIfInBounds_toArray, List.set_cons_zero, List.set_cons_succ]
         refine wpAnyH_done (by kernel_rfl) ?_ _
         refine NoPanic.normal ?_
         go_wp2_with fail
         go_meet
         exact ⟨sa, sq, m2, d2, B2, rfl, rfl, Lib.hid Va, Lib.hid Vq, Lib.hid RR, Lib.hid HS, gea, geq⟩
        ·
         go_simp
         have HSZ : z ≤ u6_.heap.size := HZ.out _ HS
         have bd : Below u6_.heap.size u6_ (u6_.alloc (.cells #[.int .i64 0, .int .i64 0] 26)) := (Below.refl _ _).alloc (Nat.le_refl _) _
         replace HS := HS.trans (bd.mono HSZ)
         replace Va := blk_below Va bd (blk_lt Va)
         replace OL := own_below OL bd
         have Vq : (u6_.alloc (.cells #[.int .i64 0, .int .i64 0] 26)).heap[u6_.heap.size]? = some (.cells #[.int .i64 0, .int .i64 0] 26) := heap_alloc_new _ _
         have geq : z ≤ u6_.heap.size := HSZ
         clear bd HSZ
         generalize u6_.alloc (.cells #[.int .i64 0, .int .i64 0] 26) = x3 at *
         generalize hsq : u6_.heap.size = sq at *
         replace hS := HS
         go_wp2_with fail
         refine Shut.out hK _ _ hS (fun _ => ?_)
         clear hK K
         try simp only [Act.put, List.setIfInBounds_toArray, List.set_cons_zero, List.set_cons_succ]
         refine wpAnyH_ready (rs := [11]) (by kernel_rfl) (by simp) (AllReadyH.cons (o := ⟨some 29, .call { callee := .value (.func 36), args := #[.tmp 18, .tmp 28], argTypes := #[24, 37] }, 61, "ref.go:89", #[⟨0, .data⟩, ⟨10, .data⟩, ⟨10, .chain⟩], none⟩) rfl (fun K hK => ?_) AllReadyH.nil)
         go_simp
         obtain ⟨_, _, he, hi6⟩ := Es.of_own OL (intC_one _)
         injection he with he1 he2 he3; subst he1; subst he3
         refine (LDH.out A6 _ c6 x3 ((FR.out.step (BZ.out _ HS)).es RX.out) (show Is x3 A6 N c6 (butL pl k) from hi6)).mono ?_
         rintro e wl ⟨B2, m2, d2, rfl, hrs, hb⟩
         replace Va := blk_below Va hb (blk_lt Va)
         replace Vq := blk_below Vq hb (blk_lt Vq)
         have RR := own_base hrs (show q + 4 ≤ x3.heap.size from Nat.le_trans hqW (HZ.out _ HS))
         replace HS := HS.trans (hb.mono (HZ.out _ HS))
         clear hb hrs hi6 OL
         replace hS := HS
         have ca0 : wl.cell? ⟨sa, 0, none⟩ = some (.slice none 0 0) := (blk_cell Va 0).trans rfl
         have ca1 : wl.cell? ⟨sa, 1, none⟩ = some (.int .i64 0) := (blk_cell Va 1).trans rfl
         have fa0 := blk_frozen Va 0
         have fa1 := blk_frozen Va 1
         have cq0 : wl.cell? ⟨sq, 0, none⟩ = some (.int .i64 0) := (blk_cell Vq 0).trans rfl
         have cq1 : wl.cell? ⟨sq, 1, none⟩ = some (.int .i64 0) := (blk_cell Vq 1).trans rfl
         have fq0 := blk_frozen Vq 0
         have fq1 := blk_frozen Vq 1
         have naq : sa ≠ sq := blk_ne Va Vq (by decide)
         have nqa := naq.symm
         go_wp2_with fail
         refine Shut.out hK _ _ hS (fun _ => ?_)
         clear hK K
         try simp only [Act.put, List.setIfInBounds_toArray, List.set_cons_zero, List.set_cons_succ]
         refine wpAnyH_take (i := 12) (oi := ⟨some 17, .move (.tmp 29), 61, "ref.go:89", #[⟨11, .data⟩], none⟩) (v := ?_) rfl (by kernel_rfl) (by kernel_rfl) (by kernel_rfl) (fun _ _ _ h => h) (Or.inl ⟨by rfl, ?_⟩) hS ?_
         rotate_left
         · intro wv _; go_simp; try with_reducible rfl
         try simp only [Act.put, List.setIfInBounds_toArray, List.set_cons_zero, List.set_cons_succ]
         refine wpAnyH_take (i := 13) (oi := ⟨some 30, .extract (.tmp 17) 0, 24, "ref.go:89", #[⟨12, .data⟩], none⟩) (v := ?_) rfl (by kernel_rfl) (by kernel_rfl) (by kernel_rfl) (fun _ _ _ h => h) (Or.inl ⟨by rfl, ?_⟩) hS ?_
         rotate_left
         · intro wv _; go_simp; try with_reducible rfl
         try simp only [Act.put, List.setIfInBounds_toArray, List.set_cons_zero, List.set_cons_succ]
         refine wpAnyH_take (i := 14) (oi := ⟨some 31, .extract (.tmp 17) 1, 26, "ref.go:89", #[⟨12, .data⟩, ⟨17, .gcOnly .lateStores⟩], none⟩) (v := ?_) rfl (by kernel_rfl) (by kernel_rfl) (by kernel_rfl) (fun _ _ _ h => h) (Or.inl ⟨by rfl, ?_⟩) hS ?_
         rotate_left
         · intro wv _; go_simp; try with_reducible rfl
         try simp only [Act.put, List.setIfInBounds_toArray, List.set_cons_zero, List.set_cons_succ]
         refine wpAnyH_ready (rs := [17]) (by kernel_rfl) (by simp) (AllReadyH.cons (o := ⟨none, .store 24 (.tmp 10) (.tmp 30), 0, "ref.go:89", #[⟨15, .data⟩, ⟨13, .data⟩, ⟨11, .chain⟩, ⟨0, .phase⟩, ⟨1, .phase⟩, ⟨2, .phase⟩, ⟨3, .phase⟩, ⟨4, .phase⟩, ⟨5, .phase⟩, ⟨6, .phase⟩, ⟨7, .phase⟩, ⟨8, .phase⟩, ⟨9, .phase⟩, ⟨10, .phase⟩, ⟨11, .phase⟩, ⟨12, .phase⟩, ⟨13, .phase⟩, ⟨14, .textOnly .lateStores⟩, ⟨15, .phase⟩, ⟨16, .phase⟩], none⟩) rfl (fun K hK => ?_) AllReadyH.nil)
         go_simp
         replace RR := own_pair RR Va (by decide) (.slice B2 m2 d2) (.int .i64 fr)
         replace Va := blk_pair Va (.slice B2 m2 d2) (.int .i64 fr)
         replace Vq := keep_pair Vq nqa (.slice B2 m2 d2) (.int .i64 fr)
         replace HS := bel_pair HS gea (.slice B2 m2 d2) (.int .i64 fr)
         clear ca0 ca1 cq0 cq1 fa0 fa1 fq0 fq1
         generalize (wl.setCell ⟨sa, 0, none⟩ (.slice B2 m2 d2)).setCell ⟨sa, 1, none⟩ (.int .i64 fr) = x4 at *
         replace hS := HS
         have cq0 : x4.cell? ⟨sq, 0, none⟩ = some (.int .i64 0) := (blk_cell Vq 0).trans rfl
         have cq1 : x4.cell? ⟨sq, 1, none⟩ = some (.int .i64 0) := (blk_cell Vq 1).trans rfl
         have fq0 := blk_frozen Vq 0
         have fq1 := blk_frozen Vq 1
         refine Shut.out hK _ _ hS (fun _ => ?_)
         clear hK K
         try simp only [Act.put, List.setIfInBounds_toArray, List.set_cons_zero, List.set_cons_succ]
         refine wpAnyH_ready (rs := [18]) (by kernel_rfl) (by simp) (AllReadyH.cons (o := ⟨none, .store 26 (.tmp 11) (.tmp 31), 0, "ref.go:89", #[⟨16, .data⟩, ⟨14, .data⟩, ⟨17, .chain⟩, ⟨0, .phase⟩, ⟨1, .phase⟩, ⟨2, .phase⟩, ⟨3, .phase⟩, ⟨4, .phase⟩, ⟨5, .phase⟩, ⟨6, .phase⟩, ⟨7, .phase⟩, ⟨8, .phase⟩, ⟨9, .phase⟩, ⟨10, .phase⟩, ⟨11, .phase⟩, ⟨12, .phase⟩, ⟨13, .phase⟩, ⟨14, .phase⟩, ⟨15, .phase⟩, ⟨16, .phase⟩, ⟨17, .phase⟩], none⟩) rfl (fun K hK => ?_) AllReadyH.nil)
         go_simp
         replace RR := own_pair RR Vq (by decide) (.int .i64 (laidQ (butL pl k)).1) (.int .i64 (laidQ (butL pl k)).2)
         replace Vq := blk_pair Vq (.int .i64 (laidQ (butL pl k)).1) (.int .i64 (laidQ (butL pl k)).2)
         replace Va := keep_pair Va naq (.int .i64 (laidQ (butL pl k)).1) (.int .i64 (laidQ (butL pl k)).2)
         replace HS := bel_pair HS geq (.int .i64 (laidQ (butL pl k)).1) (.int .i64 (laidQ (butL pl k)).2)
         clear cq0 cq1 fq0 fq1
         generalize (x4.setCell ⟨sq, 0, none⟩ (.int .i64 (laidQ (butL pl k)).1)).setCell ⟨sq, 1, none⟩ (.int .i64 (laidQ (butL pl k)).2) = x5 at *
         replace hS := HS
         refine Shut.out hK _ _ hS (fun _ => ?_)
         clear hK K
         try simp only [Act.put, List.setIfInBounds_toArray, List.set_cons_zero, List.set_cons_succ]
         refine wpAnyH_done (by kernel_rfl) ?_ _
         refine NoPanic.normal ?_
         go_wp2_with fail
         go_meet
         exact ⟨sa, sq, m2, d2, B2, rfl, rfl, Lib.hid Va, Lib.hid Vq, Lib.hid RR, Lib.hid HS, gea, geq⟩
       ·
        go_simp
        have HSZ : z ≤ x2.heap.size := HZ.out _ HS
        have bd : Below x2.heap.size x2 (x2.alloc (.cells #[.int .i64 0, .int .i64 0] 26)) := (Below.refl _ _).alloc (Nat.le_refl _) _
        replace HS := HS.trans (bd.mono HSZ)
        replace Va := blk_below Va bd (blk_lt Va)
        replace OL := own_below OL bd
        have Vq : (x2.alloc (.cells #[.int .i64 0, .int .i64 0] 26)).heap[x2.heap.size]? = some (.cells #[.int .i64 0, .int .i64 0] 26) := heap_alloc_new _ _
        have geq : z ≤ x2.heap.size := HSZ
        clear bd HSZ
        generalize x2.alloc (.cells #[.int .i64 0, .int .i64 0] 26) = x3 at *
        generalize hsq : x2.heap.size = sq at *
        replace hS := HS
        go_wp2_with fail
        refine Shut.out hK _ _ hS (fun _ => ?_)
        clear hK K
        try simp only [Act.put, List.setIfInBounds_toArray, List.set_cons_zero, List.set_cons_succ]
        refine wpAnyH_ready (rs := [10]) (by kernel_rfl) (by simp) (AllReadyH.cons (o := ⟨some 28, .call { callee := .builtin .append, args := #[.tmp 23, .tmp 27], argTypes := #[37, 37] }, 37, "ref.go:89", #[⟨5, .data⟩, ⟨9, .data⟩, ⟨5, .chain⟩], none⟩) rfl (fun K hK => ?_) AllReadyH.nil)
        obtain ⟨A6, c6, u6_, hap6, own6, gr6⟩ := app_ints x3 z _ (k) _ OL Ct (m - (k + 1)) ct _ (IT.out.below (BZ.out _ HS)) (by omega) (HZ.out _ HS)
        rw [hN.out] at hap6 own6
        replace Va := keep_grown Va gr6 (row_int OL) (by decide)
        replace Vq := keep_grown Vq gr6 (row_int OL) (by decide)
        replace HS := HS.grown gr6 (HZ.out _ HS) (fun j hj => (OL.lt j hj).1)
        clear gr6 OL
        have OL := own6
        clear own6
        refine op_app_run7 (by rfl) rfl rfl rfl hap6 ?_
        clear hap6
        replace hS := HS
        refine Shut.out hK _ _ hS (fun _ => ?_)
        clear hK K
        try simp only [Act.put, List.setIfInBounds_toArray, List.set_cons_zero, List.set_cons_succ]
        refine wpAnyH_ready (rs := [11]) (by kernel_rfl) (by simp) (AllReadyH.cons (o := ⟨some 29, .call { callee := .value (.func 36), args := #[.tmp 18, .tmp 28], argTypes := #[24, 37] }, 61, "ref.go:89", #[⟨0, .data⟩, ⟨10, .data⟩, ⟨10, .chain⟩], none⟩) rfl (fun K hK => ?_) AllReadyH.nil)
        go_simp
        obtain ⟨_, _, he, hi6⟩ := Es.of_own OL (intC_one _)
        injection he with he1 he2 he3; subst he1; subst he3
        refine (LDH.out A6 _ c6 u6_ ((FR.out.step (BZ.out _ HS)).es RX.out) (show Is u6_ A6 N c6 (butL pl k) from hi6)).mono ?_
        rintro e wl ⟨B2, m2, d2, rfl, hrs, hb⟩
        replace Va := blk_below Va hb (blk_lt Va)
        replace Vq := blk_below Vq hb (blk_lt Vq)
        have RR := own_base hrs (show q + 4 ≤ u6_.heap.size from Nat.le_trans hqW (HZ.out _ HS))
        replace HS := HS.trans (hb.mono (HZ.out _ HS))
        clear hb hrs hi6 OL
        replace hS := HS
        have ca0 : wl.cell? ⟨sa, 0, none⟩ = some (.slice none 0 0) := (blk_cell Va 0).trans rfl
        have ca1 : wl.cell? ⟨sa, 1, none⟩ = some (.int .i64 0) := (blk_cell Va 1).trans rfl
        have fa0 := blk_frozen Va 0
        have fa1 := blk_frozen Va 1
        have cq0 : wl.cell? ⟨sq, 0, none⟩ = some (.int .i64 0) := (blk_cell Vq 0).trans rfl
        have cq1 : wl.cell? ⟨sq, 1, none⟩ = some (.int .i64 0) := (blk_cell Vq 1).trans rfl
        have fq0 := blk_frozen Vq 0
        have fq1 := blk_frozen Vq 1
        have naq : sa ≠ sq := blk_ne Va Vq (by decide)
        have nqa := naq.symm
        go_wp2_with fail
        refine Shut.out hK _ _ hS (fun _ => ?_)
        clear hK K
        try simp only [Act.put, List.setIfInBounds_toArray, List.set_cons_zero, List.set_cons_succ]
        refine wpAnyH_take (i := 12) (oi := ⟨some 17, .move (.tmp 29), 61, "ref.go:89", #[⟨11, .data⟩], none⟩) (v := ?_) rfl (by kernel_rfl) (by kernel_rfl) (by kernel_rfl) (fun _ _ _ h => h) (Or.inl ⟨by rfl, ?_⟩) hS ?_
        rotate_left
        · intro wv _; go_simp; try with_reducible rfl
        try simp only [Act.put, List.setIfInBounds_toArray, List.set_cons_zero, List.set_cons_succ]
        refine wpAnyH_take (i := 13) (oi := ⟨some 30, .extract (.tmp 17) 0, 24, "ref.go:89", #[⟨12, .data⟩], none⟩) (v := ?_) rfl (by kernel_rfl) (by kernel_rfl) (by kernel_rfl) (fun _ _ _ h => h) (Or.inl ⟨by rfl, ?_⟩) hS ?_
        rotate_left
        · intro wv _; go_simp; try with_reducible rfl
        try simp only [Act.put, List.setIfInBounds_toArray, List.set_cons_zero, List.set_cons_succ]
        refine wpAnyH_take (i := 14) (oi := ⟨some 31, .extract (.tmp 17) 1, 26, "ref.go:89", #[⟨12, .data⟩, ⟨17, .gcOnly .lateStores⟩], none⟩) (v := ?_) rfl (by kernel_rfl) (by kernel_rfl) (by kernel_rfl) (fun _ _ _ h => h) (Or.inl ⟨by rfl, ?_⟩) hS ?_
        rotate_left
        · intro wv _; go_simp; try with_reducible rfl
        try simp only [Act.put, List.setIfInBounds_toArray, List.set_cons_zero, List.set_cons_succ]
        refine wpAnyH_ready (rs := [17]) (by kernel_rfl) (by simp) (AllReadyH.cons (o := ⟨none, .store 24 (.tmp 10) (.tmp 30), 0, "ref.go:89", #[⟨15, .data⟩, ⟨13, .data⟩, ⟨11, .chain⟩, ⟨0, .phase⟩, ⟨1, .phase⟩, ⟨2, .phase⟩, ⟨3, .phase⟩, ⟨4, .phase⟩, ⟨5, .phase⟩, ⟨6, .phase⟩, ⟨7, .phase⟩, ⟨8, .phase⟩, ⟨9, .phase⟩, ⟨10, .phase⟩, ⟨11, .phase⟩, ⟨12, .phase⟩, ⟨13, .phase⟩, ⟨14, .textOnly .lateStores⟩, ⟨15, .phase⟩, ⟨16, .phase⟩], none⟩) rfl (fun K hK => ?_) AllReadyH.nil)
        go_simp
        replace RR := own_pair RR Va (by decide) (.slice B2 m2 d2) (.int .i64 fr)
        replace Va := blk_pair Va (.slice B2 m2 d2) (.int .i64 fr)
        replace Vq := keep_pair Vq nqa (.slice B2 m2 d2) (.int .i64 fr)
        replace HS := bel_pair HS gea (.slice B2 m2 d2) (.int .i64 fr)
        clear ca0 ca1 cq0 cq1 fa0 fa1 fq0 fq1
        generalize (wl.setCell ⟨sa, 0, none⟩ (.slice B2 m2 d2)).setCell ⟨sa, 1, none⟩ (.int .i64 fr) = x4 at *
        replace hS := HS
        have cq0 : x4.cell? ⟨sq, 0, none⟩ = some (.int .i64 0) := (blk_cell Vq 0).trans rfl
        have cq1 : x4.cell? ⟨sq, 1, none⟩ = some (.int .i64 0) := (blk_cell Vq 1).trans rfl
        have fq0 := blk_frozen Vq 0
        have fq1 := blk_frozen Vq 1
        refine Shut.out hK _ _ hS (fun _ => ?_)
        clear hK K
        try simp only [Act.put, List.setIfInBounds_toArray, List.set_cons_zero, List.set_cons_succ]
        refine wpAnyH_ready (rs := [18]) (by kernel_rfl) (by simp) (AllReadyH.cons (o := ⟨none, .store 26 (.tmp 11) (.tmp 31), 0, "ref.go:89", #[⟨16, .data⟩, ⟨14, .data⟩, ⟨17, .chain⟩, ⟨0, .phase⟩, ⟨1, .phase⟩, ⟨2, .phase⟩, ⟨3, .phase⟩, ⟨4, .phase⟩, ⟨5, .phase⟩, ⟨6, .phase⟩, ⟨7, .phase⟩, ⟨8, .phase⟩, ⟨9, .phase⟩, ⟨10, .phase⟩, ⟨11, .phase⟩, ⟨12, .phase⟩, ⟨13, .phase⟩, ⟨14, .phase⟩, ⟨15, .phase⟩, ⟨16, .phase⟩, ⟨17, .phase⟩], none⟩) rfl (fun K hK => ?_) AllReadyH.nil)
        go_simp
        replace RR := own_pair RR Vq (by decide) (.int .i64 (laidQ (butL pl k)).1) (.int .i64 (laidQ (butL pl k)).2)
        replace Vq := blk_pair Vq (.int .i64 (laidQ (butL pl k)).1) (.int .i64 (laidQ (butL pl k)).2)
        replace Va := keep_pair Va naq (.int .i64 (laidQ (butL pl k)).1) (.int .i64 (laidQ (butL pl k)).2)
        replace HS := bel_pair HS geq (.int .i64 (laidQ (butL pl k)).1) (.int .i64 (laidQ (butL pl k)).2)
        clear cq0 cq1 fq0 fq1
        generalize (x4.setCell ⟨sq, 0, none⟩ (.int .i64 (laidQ (butL pl k)).1)).setCell ⟨sq, 1, none⟩ (.int .i64 (laidQ (butL pl k)).2) = x5 at *
        replace hS := HS
        refine Shut.out hK _ _ hS (fun _ => ?_)
        clear hK K
        try simp only [Act.put, List.setIfInBounds_toArray, List.set_cons_zero, List.set_cons_succ]
        refine wpAnyH_done (by kernel_rfl) ?_ _
        refine NoPanic.normal ?_
        go_wp2_with fail
        go_meet
        exact ⟨sa, sq, m2, d2, B2, rfl, rfl, Lib.hid Va, Lib.hid Vq, Lib.hid RR, Lib.hid HS, gea, geq⟩
      ·
       go_simp
       have HSZ : z ≤ u5_.heap.size := HZ.out _ HS
       have bd : Below u5_.heap.size u5_ (u5_.alloc (.cells #[.int .i64 0, .int .i64 0] 26)) := (Below.refl _ _).alloc (Nat.le_refl _) _
       replace HS := HS.trans (bd.mono HSZ)
       replace OL := own_below OL bd
       have Vq : (u5_.alloc (.cells #[.int .i64 0, .int .i64 0] 26)).heap[u5_.heap.size]? = some (.cells #[.int .i64 0, .int .i64 0] 26) := heap_alloc_new _ _
       have geq : z ≤ u5_.heap.size := HSZ
       clear bd HSZ
       generalize u5_.alloc (.cells #[.int .i64 0, .int .i64 0] 26) = x2 at *
       generalize hsq : u5_.heap.size = sq at *
       replace hS := HS
       go_wp2_with fail
       refine Shut.out hK _ _ hS (fun _ => ?_)
       clear hK K
       try simp only [Act.put, List.setIfInBounds_toArray, List.set_cons_zero, List.set_cons_succ]
       refine wpAnyH_ready (rs := [10, 15]) (by kernel_rfl) (by simp) (AllReadyH.cons (o := ⟨some 28, .call { callee := .builtin .append, args := #[.tmp 23, .tmp 27], argTypes := #[37, 37] }, 37, "ref.go:89", #[⟨5, .data⟩, ⟨9, .data⟩, ⟨5, .chain⟩], none⟩) rfl (fun K hK => ?_) (AllReadyH.cons (o := ⟨some 10, .alloc 24, 0, "ref.go:89", #[], none⟩) rfl (fun K hK => ?_) AllReadyH.nil))
       ·
        obtain ⟨A6, c6, u6_, hap6, own6, gr6⟩ := app_ints x2 z _ (k) _ OL Ct (m - (k + 1)) ct _ (IT.out.below (BZ.out _ HS)) (by omega) (HZ.out _ HS)
        rw [hN.out] at hap6 own6
        replace Vq := keep_grown Vq gr6 (row_int OL) (by decide)
        replace HS := HS.grown gr6 (HZ.out _ HS) (fun j hj => (OL.lt j hj).1)
        clear gr6 OL
        have OL := own6
        clear own6
        refine op_app_run7 (by rfl) rfl rfl rfl hap6 ?_
        clear hap6
        replace hS := HS
        refine Shut.out hK _ _ hS (fun _ => ?_)
        clear hK K
        try simp only [Act.put, List.setIfInBounds_toArray, List.set_cons_zero, List.set_cons_succ]
        refine wpAnyH_ready (rs := [11, 15]) (by kernel_rfl) (by simp) (AllReadyH.cons (o := ⟨some 29, .call { callee := .value (.func 36), args := #[.tmp 18, .tmp 28], argTypes := #[24, 37] }, 61, "ref.go:89", #[⟨0, .data⟩, ⟨10, .data⟩, ⟨10, .chain⟩], none⟩) rfl (fun K hK => ?_) (AllReadyH.cons (o := ⟨some 10, .alloc 24, 0, "ref.go:89", #[], none⟩) rfl (fun K hK => ?_) AllReadyH.nil))
        ·
         go_simp
         obtain ⟨_, _, he, hi6⟩ := Es.of_own OL (intC_one _)
         injection he with he1 he2 he3; subst he1; subst he3
         refine (LDH.out A6 _ c6 u6_ ((FR.out.step (BZ.out _ HS)).es RX.out) (show Is u6_ A6 N c6 (butL pl k) from hi6)).mono ?_
         rintro e wl ⟨B2, m2, d2, rfl, hrs, hb⟩
         replace Vq := blk_below Vq hb (blk_lt Vq)
         have RR := own_base hrs (show q + 4 ≤ u6_.heap.size from Nat.le_trans hqW (HZ.out _ HS))
         replace HS := HS.trans (hb.mono (HZ.out _ HS))
         clear hb hrs hi6 OL
         replace hS := HS
         go_wp2_with fail
         refine Shut.out hK _ _ hS (fun _ => ?_)
         clear hK K
         try simp only [Act.put, List.setIfInBounds_toArray, List.set_cons_zero, List.set_cons_succ]
         refine wpAnyH_take (i := 12) (oi := ⟨some 17, .move (.tmp 29), 61, "ref.go:89", #[⟨11, .data⟩], none⟩) (v := ?_) rfl (by kernel_rfl) (by kernel_rfl) (by kernel_rfl) (fun _ _ _ h => h) (Or.inl ⟨by rfl, ?_⟩) hS ?_
         rotate_left
         · intro wv _; go_simp; try with_reducible rfl
         try simp only [Act.put, List.setIfInBounds_toArray, List.set_cons_zero, List.set_cons_succ]
         refine wpAnyH_take (i := 13) (oi := ⟨some 30, .extract (.tmp 17) 0, 24, "ref.go:89", #[⟨12, .data⟩], none⟩) (v := ?_) rfl (by kernel_rfl) (by kernel_rfl) (by kernel_rfl) (fun _ _ _ h => h) (Or.inl ⟨by rfl, ?_⟩) hS ?_
         rotate_left
         · intro wv _; go_simp; try with_reducible rfl
         try simp only [Act.put, List.setIfInBounds_toArray, List.set_cons_zero, List.set_cons_succ]
         refine wpAnyH_take (i := 14) (oi := ⟨some 31, .extract (.tmp 17) 1, 26, "ref.go:89", #[⟨12, .data⟩, ⟨17, .gcOnly .lateStores⟩], none⟩) (v := ?_) rfl (by kernel_rfl) (by kernel_rfl) (by kernel_rfl) (fun _ _ _ h => h) (Or.inl ⟨by rfl, ?_⟩) hS ?_
         rotate_left
         · intro wv _; go_simp; try with_reducible rfl
         try simp only [Act.put, List.setIfInBounds_toArray, List.set_cons_zero, List.set_cons_succ]
         refine wpAnyH_ready (rs := [15]) (by kernel_rfl) (by simp) (AllReadyH.cons (o := ⟨some 10, .alloc 24, 0, "ref.go:89", #[], none⟩) rfl (fun K hK => ?_) AllReadyH.nil)
         go_simp
         have HSZ : z ≤ wl.heap.size := HZ.out _ HS
         have bd : Below wl.heap.size wl (wl.alloc (.cells #[.slice none 0 0, .int .i64 0] 24)) := (Below.refl _ _).alloc (Nat.le_refl _) _
         replace HS := HS.trans (bd.mono HSZ)
         replace Vq := blk_below Vq bd (blk_lt Vq)
         replace RR := own_below RR bd
         have Va : (wl.alloc (.cells #[.slice none 0 0, .int .i64 0] 24)).heap[wl.heap.size]? = some (.cells #[.slice none 0 0, .int .i64 0] 24) := heap_alloc_new _ _
         have gea : z ≤ wl.heap.size := HSZ
         clear bd HSZ
         generalize wl.alloc (.cells #[.slice none 0 0, .int .i64 0] 24) = x3 at *
         generalize hsa : wl.heap.size = sa at *
         replace hS := HS
         have ca0 : x3.cell? ⟨sa, 0, none⟩ = some (.slice none 0 0) := (blk_cell Va 0).trans rfl
         have ca1 : x3.cell? ⟨sa, 1, none⟩ = some (.int .i64 0) := (blk_cell Va 1).trans rfl
         have fa0 := blk_frozen Va 0
         have fa1 := blk_frozen Va 1
         have cq0 : x3.cell? ⟨sq, 0, none⟩ = some (.int .i64 0) := (blk_cell Vq 0).trans rfl
         have cq1 : x3.cell? ⟨sq, 1, none⟩ = some (.int .i64 0) := (blk_cell Vq 1).trans rfl
         have fq0 := blk_frozen Vq 0
         have fq1 := blk_frozen Vq 1
         have naq : sa ≠ sq := blk_ne Va Vq (by decide)
         have nqa := naq.symm
         go_wp2_with fail
         refine Shut.out hK _ _ hS (fun _ => ?_)
         clear hK K
         try simp only [Act.put, List.setIfInBounds_toArray, List.set_cons_zero, List.set_cons_succ]
         refine wpAnyH_ready (rs := [17]) (by kernel_rfl) (by simp) (AllReadyH.cons (o := ⟨none, .store 24 (.tmp 10) (.tmp 30), 0, "ref.go:89", #[⟨15, .data⟩, ⟨13, .data⟩, ⟨11, .chain⟩, ⟨0, .phase⟩, ⟨1, .phase⟩, ⟨2, .phase⟩, ⟨3, .phase⟩, ⟨4, .phase⟩, ⟨5, .phase⟩, ⟨6, .phase⟩, ⟨7, .phase⟩, ⟨8, .phase⟩, ⟨9, .phase⟩, ⟨10, .phase⟩, ⟨11, .phase⟩, ⟨12, .phase⟩, ⟨13, .phase⟩, ⟨14, .textOnly .lateStores⟩, ⟨15, .phase⟩, ⟨16, .phase⟩], none⟩) rfl (fun K hK => ?_) AllReadyH.nil)
         go_simp
         replace RR := own_pair RR Va (by decide) (.slice B2 m2 d2) (.int .i64 fr)
         replace Va := blk_pair Va (.slice B2 m2 d2) (.int .i64 fr)
         replace Vq := keep_pair Vq nqa (.slice B2 m2 d2) (.int .i64 fr)
         replace HS := bel_pair HS gea (.slice B2 m2 d2) (.int .i64 fr)
         clear ca0 ca1 cq0 cq1 fa0 fa1 fq0 fq1
         generalize (x3.setCell ⟨sa, 0, none⟩ (.slice B2 m2 d2)).setCell ⟨sa, 1, none⟩ (.int .i64 fr) = x4 at *
         replace hS := HS
         have cq0 : x4.cell? ⟨sq, 0, none⟩ = some (.int .i64 0) := (blk_cell Vq 0).trans rfl
         have cq1 : x4.cell? ⟨sq, 1, none⟩ = some (.int .i64 0) := (blk_cell Vq 1).trans rfl
         have fq0 := blk_frozen Vq 0
         have fq1 := blk_frozen Vq 1
         refine Shut.out hK _ _ hS (fun _ => ?_)
         clear hK K
         try simp only [Act.put, List.setIfInBounds_toArray, List.set_cons_zero, List.set_cons_succ]
         refine wpAnyH_ready (rs := [18]) (by kernel_rfl) (by simp) (AllReadyH.cons (o := ⟨none, .store 26 (.tmp 11) (.tmp 31), 0, "ref.go:89", #[⟨16, .data⟩, ⟨14, .data⟩, ⟨17, .chain⟩, ⟨0, .phase⟩, ⟨1, .phase⟩, ⟨2, .phase⟩, ⟨3, .phase⟩, ⟨4, .phase⟩, ⟨5, .phase⟩, ⟨6, .phase⟩, ⟨7, .phase⟩, ⟨8, .phase⟩, ⟨9, .phase⟩, ⟨10, .phase⟩, ⟨11, .phase⟩, ⟨12, .phase⟩, ⟨13, .phase⟩, ⟨14, .phase⟩, ⟨15, .phase⟩, ⟨16, .phase⟩, ⟨17, .phase⟩], none⟩) rfl (fun K hK => ?_) AllReadyH.nil)
         go_simp
         replace RR := own_pair RR Vq (by decide) (.int .i64 (laidQ (butL pl k)).1) (.int .i64 (laidQ (butL pl k)).2)
         replace Vq := blk_pair Vq (.int .i64 (laidQ (butL pl k)).1) (.int .i64 (laidQ (butL pl k)).2)
         replace Va := keep_pair Va naq (.int .i64 (laidQ (butL pl k)).1) (.int .i64 (laidQ (butL pl k)).2)
         replace HS := bel_pair HS geq (.int .i64 (laidQ (butL pl k)).1) (.int .i64 (laidQ (butL pl k)).2)
         clear cq0 cq1 fq0 fq1
         generalize (x4.setCell ⟨sq, 0, none⟩ (.int .i64 (laidQ (butL pl k)).1)).setCell ⟨sq, 1, none⟩ (.int .i64 (laidQ (butL pl k)).2) = x5 at *
         replace hS := HS
         refine Shut.out hK _ _ hS (fun _ => ?_)
         clear hK K
         try simp only [Act.put, List.setIfInBounds_toArray, List.set_cons_zero, List.set_cons_succ]
         refine wpAnyH_done (by kernel_rfl) ?_ _
         refine NoPanic.normal ?_
         go_wp2_with fail
         go_meet
         exact ⟨sa, sq, m2, d2, B2, rfl, rfl, Lib.hid Va, Lib.hid Vq, Lib.hid RR, Lib.hid HS, gea, geq⟩
        ·
         go_simp
         have HSZ : z ≤ u6_.heap.size := HZ.out _ HS
         have bd : Below u6_.heap.size u6_ (u6_.alloc (.cells #[.slice none 0 0, .int .i64 0] 24)) := (Below.refl _ _).alloc (Nat.le_refl _) _
         replace HS := HS.trans (bd.mono HSZ)
         replace Vq := blk_below Vq bd (blk_lt Vq)
         replace OL := own_below OL bd
         have Va : (u6_.alloc (.cells #[.slice none 0 0, .int .i64 0] 24)).heap[u6_.heap.size]? = some (.cells #[.slice none 0 0, .int .i64 0] 24) := heap_alloc_new _ _
         have gea : z ≤ u6_.heap.size := HSZ
         clear bd HSZ
         generalize u6_.alloc (.cells #[.slice none 0 0, .int .i64 0] 24) = x3 at *
         generalize hsa : u6_.heap.size = sa at *
         replace hS := HS
         go_wp2_with fail
         refine Shut.out hK _ _ hS (fun _ => ?_)
         clear hK K
         try simp only [Act.put, List.setIfInBounds_toArray, List.set_cons_zero, List.set_cons_succ]
         refine wpAnyH_ready (rs := [11]) (by kernel_rfl) (by simp) (AllReadyH.cons (o := ⟨some 29, .call { callee := .value (.func 36), args := #[.tmp 18, .tmp 28], argTypes := #[24, 37] }, 61, "ref.go:89", #[⟨0, .data⟩, ⟨10, .data⟩, ⟨10, .chain⟩], none⟩) rfl (fun K hK => ?_) AllReadyH.nil)
         go_simp
         obtain ⟨_, _, he, hi6⟩ := Es.of_own OL (intC_one _)
         injection he with he1 he2 he3; subst he1; subst he3
         refine (LDH.out A6 _ c6 x3 ((FR.out.step (BZ.out _ HS)).es RX.out) (show Is x3 A6 N c6 (butL pl k) from hi6)).mono ?_
         rintro e wl ⟨B2, m2, d2, rfl, hrs, hb⟩
         replace Vq := blk_below Vq hb (blk_lt Vq)
         replace Va := blk_below Va hb (blk_lt Va)
         have RR := own_base hrs (show q + 4 ≤ x3.heap.size from Nat.le_trans hqW (HZ.out _ HS))
         replace HS := HS.trans (hb.mono (HZ.out _ HS))
         clear hb hrs hi6 OL
         replace hS := HS
         have ca0 : wl.cell? ⟨sa, 0, none⟩ = some (.slice none 0 0) := (blk_cell Va 0).trans rfl
         have ca1 : wl.cell? ⟨sa, 1, none⟩ = some (.int .i64 0) := (blk_cell Va 1).trans rfl
         have fa0 := blk_frozen Va 0
         have fa1 := blk_frozen Va 1
         have cq0 : wl.cell? ⟨sq, 0, none⟩ = some (.int .i64 0) := (blk_cell Vq 0).trans rfl
         have cq1 : wl.cell? ⟨sq, 1, none⟩ = some (.int .i64 0) := (blk_cell Vq 1).trans rfl
         have fq0 := blk_frozen Vq 0
         have fq1 := blk_frozen Vq 1
         have naq : sa ≠ sq := blk_ne Va Vq (by decide)
         have nqa := naq.symm
         go_wp2_with fail
         refine Shut.out hK _ _ hS (fun _ => ?_)
         clear hK K
         try simp only [Act.put, List.setIfInBounds_toArray, List.set_cons_zero, List.set_cons_succ]
         refine wpAnyH_take (i := 12) (oi := ⟨some 17, .move (.tmp 29), 61, "ref.go:89", #[⟨11, .data⟩], none⟩) (v := ?_) rfl (by kernel_rfl) (by kernel_rfl) (by kernel_rfl) (fun _ _ _ h => h) (Or.inl ⟨by rfl, ?_⟩) hS ?_
         rotate_left
         · intro wv _; go_simp; try with_reducible rfl
         try simp only [Act.put, List.setIfInBounds_toArray, List.set_cons_zero, List.set_cons_succ]
         refine wpAnyH_take (i := 13) (oi := ⟨some 30, .extract (.tmp 17) 0, 24, "ref.go:89", #[⟨12, .data⟩], none⟩) (v := ?_) rfl (by kernel_rfl) (by kernel_rfl) (by kernel_rfl) (fun _ _ _ h => h) (Or.inl ⟨by rfl, ?_⟩) hS ?_
         rotate_left
         · intro wv _; go_simp; try with_reducible rfl
         try simp only [Act.put, List.setIfInBounds_toArray, List.set_cons_zero, List.set_cons_succ]
         refine wpAnyH_take (i := 14) (oi := ⟨some 31, .extract (.tmp 17) 1, 26, "ref.go:89", #[⟨12, .data⟩, ⟨17, .gcOnly .lateStores⟩], none⟩) (v := ?_) rfl (by kernel_rfl) (by kernel_rfl) (by kernel_rfl) (fun _ _ _ h => h) (Or.inl ⟨by rfl, ?_⟩) hS ?_
         rotate_left
         · intro wv _; go_simp; try with_reducible rfl
         try simp only [Act.put, List.setIfInBounds_toArray, List.set_cons_zero, List.set_cons_succ]
         refine wpAnyH_ready (rs := [17]) (by kernel_rfl) (by simp) (AllReadyH.cons (o := ⟨none, .store 24 (.tmp 10) (.tmp 30), 0, "ref.go:89", #[⟨15, .data⟩, ⟨13, .data⟩, ⟨11, .chain⟩, ⟨0, .phase⟩, ⟨1, .phase⟩, ⟨2, .phase⟩, ⟨3, .phase⟩, ⟨4, .phase⟩, ⟨5, .phase⟩, ⟨6, .phase⟩, ⟨7, .phase⟩, ⟨8, .phase⟩, ⟨9, .phase⟩, ⟨10, .phase⟩, ⟨11, .phase⟩, ⟨12, .phase⟩, ⟨13, .phase⟩, ⟨14, .textOnly .lateStores⟩, ⟨15, .phase⟩, ⟨16, .phase⟩], none⟩) rfl (fun K hK => ?_) AllReadyH.nil)
         go_simp
         replace RR := own_pair RR Va (by decide) (.slice B2 m2 d2) (.int .i64 fr)
         replace Va := blk_pair Va (.slice B2 m2 d2) (.int .i64 fr)
         replace Vq := keep_pair Vq nqa (.slice B2 m2 d2) (.int .i64 fr)
         replace HS := bel_pair HS gea (.slice B2 m2 d2) (.int .i64 fr)
         clear ca0 ca1 cq0 cq1 fa0 fa1 fq0 fq1
         generalize (wl.setCell ⟨sa, 0, none⟩ (.slice B2 m2 d2)).setCell ⟨sa, 1, none⟩ (.int .i64 fr) = x4 at *
         replace hS := HS
         have cq0 : x4.cell? ⟨sq, 0, none⟩ = some (.int .i64 0) := (blk_cell Vq 0).trans rfl
         have cq1 : x4.cell? ⟨sq, 1, none⟩ = some (.int .i64 0) := (blk_cell Vq 1).trans rfl
         have fq0 := blk_frozen Vq 0
         have fq1 := blk_frozen Vq 1
         refine Shut.out hK _ _ hS (fun _ => ?_)
         clear hK K
         try simp only [Act.put, List.setIfInBounds_toArray, List.set_cons_zero, List.set_cons_succ]
         refine wpAnyH_ready (rs := [18]) (by kernel_rfl) (by simp) (AllReadyH.cons (o := ⟨none, .store 26 (.tmp 11) (.tmp 31), 0, "ref.go:89", #[⟨16, .data⟩, ⟨14, .data⟩, ⟨17, .chain⟩, ⟨0, .phase⟩, ⟨1, .phase⟩, ⟨2, .phase⟩, ⟨3, .phase⟩, ⟨4, .phase⟩, ⟨5, .phase⟩, ⟨6, .phase⟩, ⟨7, .phase⟩, ⟨8, .phase⟩, ⟨9, .phase⟩, ⟨10, .phase⟩, ⟨11, .phase⟩, ⟨12, .phase⟩, ⟨13, .phase⟩, ⟨14, .phase⟩, ⟨15, .phase⟩, ⟨16, .phase⟩, ⟨17, .phase⟩], none⟩) rfl (fun K hK => ?_) AllReadyH.nil)
         go_simp
         replace RR := own_pair RR Vq (by decide) (.int .i64 (laidQ (butL pl k)).1) (.int .i64 (laidQ (butL pl k)).2)
         replace Vq := blk_pair Vq (.int .i64 (laidQ (butL pl k)).1) (.int .i64 (laidQ (butL pl k)).2)
         replace Va := keep_pair Va naq (.int .i64 (laidQ (butL pl k)).1) (.int .i64 (laidQ (butL pl k)).2)
         replace HS := bel_pair HS geq (.int .i64 (laidQ (butL pl k)).1) (.int .i64 (laidQ (butL pl k)).2)
         clear cq0 cq1 fq0 fq1
         generalize (x4.setCell ⟨sq, 0, none⟩ (.int .i64 (laidQ (butL pl k)).1)).setCell ⟨sq, 1, none⟩ (.int .i64 (laidQ (butL pl k)).2) = x5 at *
         replace hS := HS
         refine Shut.out hK _ _ hS (fun _ => ?_)
         clear hK K
         try simp only [Act.put, List.setIfInBounds_toArray, List.set_cons_zero, List.set_cons_succ]
         refine wpAnyH_done (by kernel_rfl) ?_ _
         refine NoPanic.normal ?_
         go_wp2_with fail
         go_meet
         exact ⟨sa, sq, m2, d2, B2, rfl, rfl, Lib.hid Va, Lib.hid Vq, Lib.hid RR, Lib.hid HS, gea, geq⟩
       ·
        go_simp
        have HSZ : z ≤ x2.heap.size := HZ.out _ HS
        have bd : Below x2.heap.size x2 (x2.alloc (.cells #[.slice none 0 0, .int .i64 0] 24)) := (Below.refl _ _).alloc (Nat.le_refl _) _
        replace HS := HS.trans (bd.mono HSZ)
        replace Vq := blk_below Vq bd (blk_lt Vq)
        replace OL := own_below OL bd
        have Va : (x2.alloc (.cells #[.slice none 0 0, .int .i64 0] 24)).heap[x2.heap.size]? = some (.cells #[.slice none 0 0, .int .i64 0] 24) := heap_alloc_new _ _
        have gea : z ≤ x2.heap.size := HSZ
        clear bd HSZ
        generalize x2.alloc (.cells #[.slice none 0 0, .int .i64 0] 24) = x3 at *
        generalize hsa : x2.heap.size = sa at *
        replace hS := HS
        go_wp2_with fail
        refine Shut.out hK _ _ hS (fun _ => ?_)
        clear hK K
        try simp only [Act.put, List.setIfInBounds_toArray, List.set_cons_zero, List.set_cons_succ]
        refine wpAnyH_ready (rs := [10]) (by kernel_rfl) (by simp) (AllReadyH.cons (o := ⟨some 28, .call { callee := .builtin .append, args := #[.tmp 23, .tmp 27], argTypes := #[37, 37] }, 37, "ref.go:89", #[⟨5, .data⟩, ⟨9, .data⟩, ⟨5, .chain⟩], none⟩) rfl (fun K hK => ?_) AllReadyH.nil)
        obtain ⟨A6, c6, u6_, hap6, own6, gr6⟩ := app_ints x3 z _ (k) _ OL Ct (m - (k + 1)) ct _ (IT.out.below (BZ.out _ HS)) (by omega) (HZ.out _ HS)
        rw [hN.out] at hap6 own6
        replace Vq := keep_grown Vq gr6 (row_int OL) (by decide)
        replace Va := keep_grown Va gr6 (row_int OL) (by decide)
        replace HS := HS.grown gr6 (HZ.out _ HS) (fun j hj => (OL.lt j hj).1)
        clear gr6 OL
        have OL := own6
        clear own6
        refine op_app_run7 (by rfl) rfl rfl rfl hap6 ?_
        clear hap6
        replace hS := HS
        refine Shut.out hK _ _ hS (fun _ => ?_)
        clear hK K
        try simp only [Act.put, List.setIfInBounds_toArray, List.set_cons_zero, List.set_cons_succ]
        refine wpAnyH_ready (rs := [11]) (by kernel_rfl) (by simp) (AllReadyH.cons (o := ⟨some 29, .call { callee := .value (.func 36), args := #[.tmp 18, .tmp 28], argTypes := #[24, 37] }, 61, "ref.go:89", #[⟨0, .data⟩, ⟨10, .data⟩, ⟨10, .chain⟩], none⟩) rfl (fun K hK => ?_) AllReadyH.nil)
        go_simp
        obtain ⟨_, _, he, hi6⟩ := Es.of_own OL (intC_one _)
        injection he with he1 he2 he3; subst he1; subst he3
        refine (LDH.out A6 _ c6 u6_ ((FR.out.step (BZ.out _ HS)).es RX.out) (show Is u6_ A6 N c6 (butL pl k) from hi6)).mono ?_
        rintro e wl ⟨B2, m2, d2, rfl, hrs, hb⟩
        replace Vq := blk_below Vq hb (blk_lt Vq)
        replace Va := blk_below Va hb (blk_lt Va)
        have RR := own_base hrs (show q + 4 ≤ u6_.heap.size from Nat.le_trans hqW (HZ.out _ HS))
        replace HS := HS.trans (hb.mono (HZ.out _ HS))
        clear hb hrs hi6 OL
        replace hS := HS
        have ca0 : wl.cell? ⟨sa, 0, none⟩ = some (.slice none 0 0) := (blk_cell Va 0).trans rfl
        have ca1 : wl.cell? ⟨sa, 1, none⟩ = some (.int .i64 0) := (blk_cell Va 1).trans rfl
        have fa0 := blk_frozen Va 0
        have fa1 := blk_frozen Va 1
        have cq0 : wl.cell? ⟨sq, 0, none⟩ = some (.int .i64 0) := (blk_cell Vq 0).trans rfl
        have cq1 : wl.cell? ⟨sq, 1, none⟩ = some (.int .i64 0) := (blk_cell Vq 1).trans rfl
        have fq0 := blk_frozen Vq 0
        have fq1 := blk_frozen Vq 1
        have naq : sa ≠ sq := blk_ne Va Vq (by decide)
        have nqa := naq.symm
        go_wp2_with fail
        refine Shut.out hK _ _ hS (fun _ => ?_)
        clear hK K
        try simp only [Act.put, List.setIfInBounds_toArray, List.set_cons_zero, List.set_cons_succ]
        refine wpAnyH_take (i := 12) (oi := ⟨some 17, .move (.tmp 29), 61, "ref.go:89", #[⟨11, .data⟩], none⟩) (v := ?_) rfl (by kernel_rfl) (by kernel_rfl) (by kernel_rfl) (fun _ _ _ h => h) (Or.inl ⟨by rfl, ?_⟩) hS ?_
        rotate_left
        · intro wv _; go_simp; try with_reducible rfl
        try simp only [Act.put, List.setIfInBounds_toArray, List.set_cons_zero, List.set_cons_succ]
        refine wpAnyH_take (i := 13) (oi := ⟨some 30, .extract (.tmp 17) 0, 24, "ref.go:89", #[⟨12, .data⟩], none⟩) (v := ?_) rfl (by kernel_rfl) (by kernel_rfl) (by kernel_rfl) (fun _ _ _ h => h) (Or.inl ⟨by rfl, ?_⟩) hS ?_
        rotate_left
        · intro wv _; go_simp; try with_reducible rfl
        try simp only [Act.put, List.setIfInBounds_toArray, List.set_cons_zero, List.set_cons_succ]
        refine wpAnyH_take (i := 14) (oi := ⟨some 31, .extract (.tmp 17) 1, 26, "ref.go:89", #[⟨12, .data⟩, ⟨17, .gcOnly .lateStores⟩], none⟩) (v := ?_) rfl (by kernel_rfl) (by kernel_rfl) (by kernel_rfl) (fun _ _ _ h => h) (Or.inl ⟨by rfl, ?_⟩) hS ?_
        rotate_left
        · intro wv _; go_simp; try with_reducible rfl
        try simp only [Act.put, List.setIfInBounds_toArray, List.set_cons_zero, List.set_cons_succ]
        refine wpAnyH_ready (rs := [17]) (by kernel_rfl) (by simp) (AllReadyH.cons (o := ⟨none, .store 24 (.tmp 10) (.tmp 30), 0, "ref.go:89", #[⟨15, .data⟩, ⟨13, .data⟩, ⟨11, .chain⟩, ⟨0, .phase⟩, ⟨1, .phase⟩, ⟨2, .phase⟩, ⟨3, .phase⟩, ⟨4, .phase⟩, ⟨5, .phase⟩, ⟨6, .phase⟩, ⟨7, .phase⟩, ⟨8, .phase⟩, ⟨9, .phase⟩, ⟨10, .phase⟩, ⟨11, .phase⟩, ⟨12, .phase⟩, ⟨13, .phase⟩, ⟨14, .textOnly .lateStores⟩, ⟨15, .phase⟩, ⟨16, .phase⟩], none⟩) rfl (fun K hK => ?_) AllReadyH.nil)
        go_simp
        replace RR := own_pair RR Va (by decide) (.slice B2 m2 d2) (.int .i64 fr)
        replace Va := blk_pair Va (.slice B2 m2 d2) (.int .i64 fr)
        replace Vq := keep_pair Vq nqa (.slice B2 m2 d2) (.int .i64 fr)
        replace HS := bel_pair HS gea (.slice B2 m2 d2) (.int .i64 fr)
        clear ca0 ca1 cq0 cq1 fa0 fa1 fq0 fq1
        generalize (wl.setCell ⟨sa, 0, none⟩ (.slice B2 m2 d2)).setCell ⟨sa, 1, none⟩ (.int .i64 fr) = x4 at *
        replace hS := HS
        have cq0 : x4.cell? ⟨sq, 0, none⟩ = some (.int .i64 0) := (blk_cell Vq 0).trans rfl
        have cq1 : x4.cell? ⟨sq, 1, none⟩ = some (.int .i64 0) := (blk_cell Vq 1).trans rfl
        have fq0 := blk_frozen Vq 0
        have fq1 := blk_frozen Vq 1
        refine Shut.out hK _ _ hS (fun _ => ?_)
        clear hK K
        try simp only [Act.put, List.setIfInBounds_toArray, List.set_cons_zero, List.set_cons_succ]
        refine wpAnyH_ready (rs := [18]) (by kernel_rfl) (by simp) (AllReadyH.cons (o := ⟨none, .store 26 (.tmp 11) (.tmp 31), 0, "ref.go:89", #[⟨16, .data⟩, ⟨14, .data⟩, ⟨17, .chain⟩, ⟨0, .phase⟩, ⟨1, .phase⟩, ⟨2, .phase⟩, ⟨3, .phase⟩, ⟨4, .phase⟩, ⟨5, .phase⟩, ⟨6, .phase⟩, ⟨7, .phase⟩, ⟨8, .phase⟩, ⟨9, .phase⟩, ⟨10, .phase⟩, ⟨11, .phase⟩, ⟨12, .phase⟩, ⟨13, .phase⟩, ⟨14, .phase⟩, ⟨15, .phase⟩, ⟨16, .phase⟩, ⟨17, .phase⟩], none⟩) rfl (fun K hK => ?_) AllReadyH.nil)
        go_simp
        replace RR := own_pair RR Vq (by decide) (.int .i64 (laidQ (butL pl k)).1) (.int .i64 (laidQ (butL pl k)).2)
        replace Vq := blk_pair Vq (.int .i64 (laidQ (butL pl k)).1) (.int .i64 (laidQ (butL pl k)).2)
        replace Va := keep_pair Va naq (.int .i64 (laidQ (butL pl k)).1) (.int .i64 (laidQ (butL pl k)).2)
        replace HS := bel_pair HS geq (.int .i64 (laidQ (butL pl k)).1) (.int .i64 (laidQ (butL pl k)).2)
        clear cq0 cq1 fq0 fq1
        generalize (x4.setCell ⟨sq, 0, none⟩ (.int .i64 (laidQ (butL pl k)).1)).setCell ⟨sq, 1, none⟩ (.int .i64 (laidQ (butL pl k)).2) = x5 at *
        replace hS := HS
        refine Shut.out hK _ _ hS (fun _ => ?_)
        clear hK K
        try simp only [Act.put, List.setIfInBounds_toArray, List.set_cons_zero, List.set_cons_succ]
        refine wpAnyH_done (by kernel_rfl) ?_ _
        refine NoPanic.normal ?_
        go_wp2_with fail
        go_meet
        exact ⟨sa, sq, m2, d2, B2, rfl, rfl, Lib.hid Va, Lib.hid Vq, Lib.hid RR, Lib.hid HS, gea, geq⟩
     ·
      go_simp
      have HSZ : z ≤ x1.heap.size := HZ.out _ HS
      have bd : Below x1.heap.size x1 (x1.alloc (.cells #[.slice none 0 0, .int .i64 0] 24)) := (Below.refl _ _).alloc (Nat.le_refl _) _
      replace HS := HS.trans (bd.mono HSZ)
      replace OL := own_below OL bd
      have Va : (x1.alloc (.cells #[.slice none 0 0, .int .i64 0] 24)).heap[x1.heap.size]? = some (.cells #[.slice none 0 0, .int .i64 0] 24) := heap_alloc_new _ _
      have gea : z ≤ x1.heap.size := HSZ
      clear bd HSZ
      generalize x1.alloc (.cells #[.slice none 0 0, .int .i64 0] 24) = x2 at *
      generalize hsa : x1.heap.size = sa at *
      replace hS := HS.drew
      go_wp2_with fail
      refine Shut.out hK _ _ hS (fun _ => ?_)
      clear hK K
      try simp only [Act.put, List.setIfInBounds_toArray, List.set_cons_zero, List.set_cons_succ]
      refine wpAnyH_ready (rs := [5, 16]) (by kernel_rfl) (by simp) (AllReadyH.cons (o := ⟨some 23, .call { callee := .builtin .append, args := #[.tmp 19, .tmp 22], argTypes := #[37, 37] }, 37, "ref.go:89", #[⟨1, .data⟩, ⟨4, .data⟩], none⟩) rfl (fun K hK => ?_) (AllReadyH.cons (o := ⟨some 11, .alloc 26, 0, "ref.go:89", #[], none⟩) rfl (fun K hK => ?_) AllReadyH.nil))
      ·
       have bdr : Below x2.heap.size x2 x2.drew := (Below.refl _ _).drew
       replace OL := own_below OL bdr
       replace Va : x2.drew.heap[_]? = _ := Va
       replace HS := HS.drew
       clear bdr
       obtain ⟨A5, c5, u5_, hap5, own5, gr5⟩ := app_ints x2.drew z _ (0) _ OL Ch (k) ch _ (IH.out.below (BZ.out _ HS)) (by omega) (HZ.out _ HS)
       rw [Nat.zero_add] at hap5 own5
       replace Va := keep_grown Va gr5 (row_int OL) (by decide)
       replace HS := HS.grown gr5 (HZ.out _ HS) (fun j hj => (OL.lt j hj).1)
       clear gr5 OL
       have OL := own5
       clear own5
       refine op_app_run7 (by rfl) rfl rfl rfl hap5 ?_
       clear hap5
       replace hS := HS
       refine Shut.out hK _ _ hS (fun _ => ?_)
       clear hK K
       try simp only [Act.put, List.setIfInBounds_toArray, List.set_cons_zero, List.set_cons_succ]
       refine wpAnyH_ready (rs := [10, 16]) (by kernel_rfl) (by simp) (AllReadyH.cons (o := ⟨some 28, .call { callee := .builtin .append, args := #[.tmp 23, .tmp 27], argTypes := #[37, 37] }, 37, "ref.go:89", #[⟨5, .data⟩, ⟨9, .data⟩, ⟨5, .chain⟩], none⟩) rfl (fun K hK => ?_) (AllReadyH.cons (o := ⟨some 11, .alloc 26, 0, "ref.go:89", #[], none⟩) rfl (fun K hK => ?_) AllReadyH.nil))
       ·
        obtain ⟨A6, c6, u6_, hap6, own6, gr6⟩ := app_ints u5_ z _ (k) _ OL Ct (m - (k + 1)) ct _ (IT.out.below (BZ.out _ HS)) (by omega) (HZ.out _ HS)
        rw [hN.out] at hap6 own6
        replace Va := keep_grown Va gr6 (row_int OL) (by decide)
        replace HS := HS.grown gr6 (HZ.out _ HS) (fun j hj => (OL.lt j hj).1)
        clear gr6 OL
        have OL := own6
        clear own6
        refine op_app_run7 (by rfl) rfl rfl rfl hap6 ?_
        clear hap6
        replace hS := HS
        refine Shut.out hK _ _ hS (fun _ => ?_)
        clear hK K
        try simp only [Act.put, List.setIfInBounds_toArray, List.set_cons_zero, List.set_cons_succ]
        refine wpAnyH_ready (rs := [11, 16]) (by kernel_rfl) (by simp) (AllReadyH.cons (o := ⟨some 29, .call { callee := .value (.func 36), args := #[.tmp 18, .tmp 28], argTypes := #[24, 37] }, 61, "ref.go:89", #[⟨0, .data⟩, ⟨10, .data⟩, ⟨10, .chain⟩], none⟩) rfl (fun K hK => ?_) (AllReadyH.cons (o := ⟨some 11, .alloc 26, 0, "ref.go:89", #[], none⟩) rfl (fun K hK => ?_) AllReadyH.nil))
        ·
         go_simp
         obtain ⟨_, _, he, hi6⟩ := Es.of_own OL (intC_one _)
         injection he with he1 he2 he3; subst he1; subst he3
         refine (LDH.out A6 _ c6 u6_ ((FR.out.step (BZ.out _ HS)).es RX.out) (show Is u6_ A6 N c6 (butL pl k) from hi6)).mono ?_
         rintro e wl ⟨B2, m2, d2, rfl, hrs, hb⟩
         replace Va := blk_below Va hb (blk_lt Va)
         have RR := own_base hrs (show q + 4 ≤ u6_.heap.size from Nat.le_trans hqW (HZ.out _ HS))
         replace HS := HS.trans (hb.mono (HZ.out _ HS))
         clear hb hrs hi6 OL
         replace hS := HS
         go_wp2_with fail
         refine Shut.out hK _ _ hS (fun _ => ?_)
         clear hK K
         try simp only [Act.put, List.setIfInBounds_toArray, List.set_cons_zero, List.set_cons_succ]
         refine wpAnyH_take (i := 12) (oi := ⟨some 17, .move (.tmp 29), 61, "ref.go:89", #[⟨11, .data⟩], none⟩) (v := ?_) rfl (by kernel_rfl) (by kernel_rfl) (by kernel_rfl) (fun _ _ _ h => h) (Or.inl ⟨by rfl, ?_⟩) hS ?_
         rotate_left
         · intro wv _; go_simp; try with_reducible rfl
         try simp only [Act.put, List.setIfInBounds_toArray, List.set_cons_zero, List.set_cons_succ]
         refine wpAnyH_take (i := 13) (oi := ⟨some 30, .extract (.tmp 17) 0, 24, "ref.go:89", #[⟨12, .data⟩], none⟩) (v := ?_) rfl (by kernel_rfl) (by kernel_rfl) (by kernel_rfl) (fun _ _ _ h => h) (Or.inl ⟨by rfl, ?_⟩) hS ?_
         rotate_left
         · intro wv _; go_simp; try with_reducible rfl
         try simp only [Act.put, List.setIfInBounds_toArray, List.set_cons_zero, List.set_cons_succ]
         refine wpAnyH_take (i := 14) (oi := ⟨some 31, .extract (.tmp 17) 1, 26, "ref.go:89", #[⟨12, .data⟩, ⟨17, .gcOnly .lateStores⟩], none⟩) (v := ?_) rfl (by kernel_rfl) (by kernel_rfl) (by kernel_rfl) (fun _ _ _ h => h) (Or.inl ⟨by rfl, ?_⟩) hS ?_
         rotate_left
         · intro wv _; go_simp; try with_reducible rfl
         try simp only [Act.put, List.setIfInBounds_toArray, List.set_cons_zero, List.set_cons_succ]
         refine wpAnyH_ready (rs := [16]) (by kernel_rfl) (by simp) (AllReadyH.cons (o := ⟨some 11, .alloc 26, 0, "ref.go:89", #[], none⟩) rfl (fun K hK => ?_) AllReadyH.nil)
         go_simp
         have HSZ : z ≤ wl.heap.size := HZ.out _ HS
         have bd : Below wl.heap.size wl (wl.alloc (.cells #[.int .i64 0, .int .i64 0] 26)) := (Below.refl _ _).alloc (Nat.le_refl _) _
         replace HS := HS.trans (bd.mono HSZ)
         replace Va := blk_below Va bd (blk_lt Va)
         replace RR := own_below RR bd
         have Vq : (wl.alloc (.cells #[.int .i64 0, .int .i64 0] 26)).heap[wl.heap.size]? = some (.cells #[.int .i64 0, .int .i64 0] 26) := heap_alloc_new _ _
         have geq : z ≤ wl.heap.size := HSZ
         clear bd HSZ
         generalize wl.alloc (.cells #[.int .i64 0, .int .i64 0] 26) = x3 at *
         generalize hsq : wl.heap.size = sq at *
         replace hS := HS
         have ca0 : x3.cell? ⟨sa, 0, none⟩ = some (.slice none 0 0) := (blk_cell Va 0).trans rfl
         have ca1 : x3.cell? ⟨sa, 1, none⟩ = some (.int .i64 0) := (blk_cell Va 1).trans rfl
         have fa0 := blk_frozen Va 0
         have fa1 := blk_frozen Va 1
         have cq0 : x3.cell? ⟨sq, 0, none⟩ = some (.int .i64 0) := (blk_cell Vq 0).trans rfl
         have cq1 : x3.cell? ⟨sq, 1, none⟩ = some (.int .i64 0) := (blk_cell Vq 1).trans rfl
         have fq0 := blk_frozen Vq 0
         have fq1 := blk_frozen Vq 1
         have naq : sa ≠ sq := blk_ne Va Vq (by decide)
         have nqa := naq.symm
         go_wp2_with fail
         refine Shut.out hK _ _ hS (fun _ => ?_)
         clear hK K
         try simp only [Act.put, List.setIfInBounds_toArray, List.set_cons_zero, List.set_cons_succ]
         refine wpAnyH_ready (rs := [17]) (by kernel_rfl) (by simp) (AllReadyH.cons (o := ⟨none, .store 24 (.tmp 10) (.tmp 30), 0, "ref.go:89", #[⟨15, .data⟩, ⟨13, .data⟩, ⟨11, .chain⟩, ⟨0, .phase⟩, ⟨1, .phase⟩, ⟨2, .phase⟩, ⟨3, .phase⟩, ⟨4, .phase⟩, ⟨5, .phase⟩, ⟨6, .phase⟩, ⟨7, .phase⟩, ⟨8, .phase⟩, ⟨9, .phase⟩, ⟨10, .phase⟩, ⟨11, .phase⟩, ⟨12, .phase⟩, ⟨13, .phase⟩, ⟨14, .textOnly .lateStores⟩, ⟨15, .phase⟩, ⟨16, .phase⟩], none⟩) rfl (fun K hK => ?_) AllReadyH.nil)
         go_simp
         replace RR := own_pair RR Va (by decide) (.slice B2 m2 d2) (.int .i64 fr)
         replace Va := blk_pair Va (.slice B2 m2 d2) (.int .i64 fr)
         replace Vq := keep_pair Vq nqa (.slice B2 m2 d2) (.int .i64 fr)
         replace HS := bel_pair HS gea (.slice B2 m2 d2) (.int .i64 fr)
         clear ca0 ca1 cq0 cq1 fa0 fa1 fq0 fq1
         generalize (x3.setCell ⟨sa, 0, none⟩ (.slice B2 m2 d2)).setCell ⟨sa, 1, none⟩ (.int .i64 fr) = x4 at *
         replace hS := HS
         have cq0 : x4.cell? ⟨sq, 0, none⟩ = some (.int .i64 0) := (blk_cell Vq 0).trans rfl
         have cq1 : x4.cell? ⟨sq, 1, none⟩ = some (.int .i64 0) := (blk_cell Vq 1).trans rfl
         have fq0 := blk_frozen Vq 0
         have fq1 := blk_frozen Vq 1
         refine Shut.out hK _ _ hS (fun _ => ?_)
         clear hK K
         try simp only [Act.put, List.setIfInBounds_toArray, List.set_cons_zero, List.set_cons_succ]
         refine wpAnyH_ready (rs := [18]) (by kernel_rfl) (by simp) (AllReadyH.cons (o := ⟨none, .store 26 (.tmp 11) (.tmp 31), 0, "ref.go:89", #[⟨16, .data⟩, ⟨14, .data⟩, ⟨17, .chain⟩, ⟨0, .phase⟩, ⟨1, .phase⟩, ⟨2, .phase⟩, ⟨3, .phase⟩, ⟨4, .phase⟩, ⟨5, .phase⟩, ⟨6, .phase⟩, ⟨7, .phase⟩, ⟨8, .phase⟩, ⟨9, .phase⟩, ⟨10, .phase⟩, ⟨11, .phase⟩, ⟨12, .phase⟩, ⟨13, .phase⟩, ⟨14, .phase⟩, ⟨15, .phase⟩, ⟨16, .phase⟩, ⟨17, .phase⟩], none⟩) rfl (fun K hK => ?_) AllReadyH.nil)
         go_simp
         replace RR := own_pair RR Vq (by decide) (.int .i64 (laidQ (butL pl k)).1) (.int .i64 (laidQ (butL pl k)).2)
         replace Vq := blk_pair Vq (.int .i64 (laidQ (butL pl k)).1) (.int .i64 (laidQ (butL pl k)).2)
         replace Va := keep_pair Va naq (.int .i64 (laidQ (butL pl k)).1) (.int .i64 (laidQ (butL pl k)).2)
         replace HS := bel_pair HS geq (.int .i64 (laidQ (butL pl k)).1) (.int .i64 (laidQ (butL pl k)).2)
         clear cq0 cq1 fq0 fq1
         generalize (x4.setCell ⟨sq, 0, none⟩ (.int .i64 (laidQ (butL pl k)).1)).setCell ⟨sq, 1, none⟩ (.int .i64 (laidQ (butL pl k)).2) = x5 at *
         replace hS := HS
         refine Shut.out hK _ _ hS (fun _ => ?_)
         clear hK K
         try simp only [Act.put, List.setIfInBounds_toArray, List.set_cons_zero, List.set_cons_succ]
         refine wpAnyH_done (by kernel_rfl) ?_ _
         refine NoPanic.normal ?_
         go_wp2_with fail
         go_meet
         exact ⟨sa, sq, m2, d2, B2, rfl, rfl, Lib.hid Va, Lib.hid Vq, Lib.hid RR, Lib.hid HS, gea, geq⟩
        ·
         go_simp
         have HSZ : z ≤ u6_.heap.size := HZ.out _ HS
         have bd : Below u6_.heap.size u6_ (u6_.alloc (.cells #[.int .i64 0, .int .i64 0] 26)) := (Below.refl _ _).alloc (Nat.le_refl _) _
         replace HS := HS.trans (bd.mono HSZ)
         replace Va := blk_below Va bd (blk_lt Va)
         replace OL := own_below OL bd
         have Vq : (u6_.alloc (.cells #[.int .i64 0, .int .i64 0] 26)).heap[u6_.heap.size]? = some (.cells #[.int .i64 0, .int .i64 0] 26) := heap_alloc_new _ _
         have geq : z ≤ u6_.heap.size := HSZ
         clear bd HSZ
         generalize u6_.alloc (.cells #[.int .i64 0, .int .i64 0] 26) = x3 at *
         generalize hsq : u6_.heap.size = sq at *
         replace hS := HS
         go_wp2_with fail
         refine Shut.out hK _ _ hS (fun _ => ?_)
         clear hK K
         try simp only [Act.put, List.setIfInBounds_toArray, List.set_cons_zero, List.set_cons_succ]
         refine wpAnyH_ready (rs := [11]) (by kernel_rfl) (by simp) (AllReadyH.cons (o := ⟨some 29, .call { callee := .value (.func 36), args := #[.tmp 18, .tmp 28], argTypes := #[24, 37] }, 61, "ref.go:89", #[⟨0, .data⟩, ⟨10, .data⟩, ⟨10, .chain⟩], none⟩) rfl (fun K hK => ?_) AllReadyH.nil)
         go_simp
         obtain ⟨_, _, he, hi6⟩ := Es.of_own OL (intC_one _)
         injection he with he1 he2 he3; subst he1; subst he3
         refine (LDH.out A6 _ c6 x3 ((FR.out.step (BZ.out _ HS)).es RX.out) (show Is x3 A6 N c6 (butL pl k) from hi6)).mono ?_
         rintro e wl ⟨B2, m2, d2, rfl, hrs, hb⟩
         replace Va := blk_below Va hb (blk_lt Va)
         replace Vq := blk_below Vq hb (blk_lt Vq)
         have RR := own_base hrs (show q + 4 ≤ x3.heap.size from Nat.le_trans hqW (HZ.out _ HS))
         replace HS := HS.trans (hb.mono (HZ.out _ HS))
         clear hb hrs hi6 OL
         replace hS := HS
         have ca0 : wl.cell? ⟨sa, 0, none⟩ = some (.slice none 0 0) := (blk_cell Va 0).trans rfl
         have ca1 : wl.cell? ⟨sa, 1, none⟩ = some (.int .i64 0) := (blk_cell Va 1).trans rfl
         have fa0 := blk_frozen Va 0
         have fa1 := blk_frozen Va 1
         have cq0 : wl.cell? ⟨sq, 0, none⟩ = some (.int .i64 0) := (blk_cell Vq 0).trans rfl
         have cq1 : wl.cell? ⟨sq, 1, none⟩ = some (.int .i64 0) := (blk_cell Vq 1).trans rfl
         have fq0 := blk_frozen Vq 0
         have fq1 := blk_frozen Vq 1
         have naq : sa ≠ sq := blk_ne Va Vq (by decide)
         have nqa := naq.symm
         go_wp2_with fail
         refine Shut.out hK _ _ hS (fun _ => ?_)
         clear hK K
         try simp only [Act.put, List.setIfInBounds_toArray, List.set_cons_zero, List.set_cons_succ]
         refine wpAnyH_take (i := 12) (oi := ⟨some 17, .move (.tmp 29), 61, "ref.go:89", #[⟨11, .data⟩], none⟩) (v := ?_) rfl (by kernel_rfl) (by kernel_rfl) (by kernel_rfl) (fun _ _ _ h => h) (Or.inl ⟨by rfl, ?_⟩) hS ?_
         rotate_left
         · intro wv _; go_simp; try with_reducible rfl
         try simp only [Act.put, List.setIfInBounds_toArray, List.set_cons_zero, List.set_cons_succ]
         refine wpAnyH_take (i := 13) (oi := ⟨some 30, .extract (.tmp 17) 0, 24, "ref.go:89", #[⟨12, .data⟩], none⟩) (v := ?_) rfl (by kernel_rfl) (by kernel_rfl) (by kernel_rfl) (fun _ _ _ h => h) (Or.inl ⟨by rfl, ?_⟩) hS ?_
         rotate_left
         · intro wv _; go_simp; try with_reducible rfl
         try simp only [Act.put, List.setIfInBounds_toArray, List.set_cons_zero, List.set_cons_succ]
         refine wpAnyH_take (i := 14) (oi := ⟨some 31, .extract (.tmp 17) 1, 26, "ref.go:89", #[⟨12, .data⟩, ⟨17, .gcOnly .lateStores⟩], none⟩) (v := ?_) rfl (by kernel_rfl) (by kernel_rfl) (by kernel_rfl) (fun _ _ _ h => h) (Or.inl ⟨by rfl, ?_⟩) hS ?_
         rotate_left
         · intro wv _; go_simp; try with_reducible rfl
         try simp only [Act.put, List.setIfInBounds_toArray, List.set_cons_zero, List.set_cons_succ]
         refine wpAnyH_ready (rs := [17]) (by kernel_rfl) (by simp) (AllReadyH.cons (o := ⟨none, .store 24 (.tmp 10) (.tmp 30), 0, "ref.go:89", #[⟨15, .data⟩, ⟨13, .data⟩, ⟨11, .chain⟩, ⟨0, .phase⟩, ⟨1, .phase⟩, ⟨2, .phase⟩, ⟨3, .phase⟩, ⟨4, .phase⟩, ⟨5, .phase⟩, ⟨6, .phase⟩, ⟨7, .phase⟩, ⟨8, .phase⟩, ⟨9, .phase⟩, ⟨10, .phase⟩, ⟨11, .phase⟩, ⟨12, .phase⟩, ⟨13, .phase⟩, ⟨14, .textOnly .lateStores⟩, ⟨15, .phase⟩, ⟨16, .phase⟩], none⟩) rfl (fun K hK => ?_) AllReadyH.nil)
         go_simp
         replace RR := own_pair RR Va (by decide) (.slice B2 m2 d2) (.int .i64 fr)
         replace Va := blk_pair Va (.slice B2 m2 d2) (.int .i64 fr)
         replace Vq := keep_pair Vq nqa (.slice B2 m2 d2) (.int .i64 fr)
         replace HS := bel_pair HS gea (.slice B2 m2 d2) (.int .i64 fr)
         clear ca0 ca1 cq0 cq1 fa0 fa1 fq0 fq1
         generalize (wl.setCell ⟨sa, 0, none⟩ (.slice B2 m2 d2)).setCell ⟨sa, 1, none⟩ (.int .i64 fr) = x4 at *
         replace hS := HS
         have cq0 : x4.cell? ⟨sq, 0, none⟩ = some (.int .i64 0) := (blk_cell Vq 0).trans rfl
         have cq1 : x4.cell? ⟨sq, 1, none⟩ = some (.int .i64 0) := (blk_cell Vq 1).trans rfl
         have fq0 := blk_frozen Vq 0
         have fq1 := blk_frozen Vq 1
         refine Shut.out hK _ _ hS (fun _ => ?_)
         clear hK K
         try simp only [Act.put, List.setIfInBounds_toArray, List.set_cons_zero, List.set_cons_succ]
         refine wpAnyH_ready (rs := [18]) (by kernel_rfl) (by simp) (AllReadyH.cons (o := ⟨none, .store 26 (.tmp 11) (.tmp 31), 0, "ref.go:89", #[⟨16, .data⟩, ⟨14, .data⟩, ⟨17, .chain⟩, ⟨0, .phase⟩, ⟨1, .phase⟩, ⟨2, .phase⟩, ⟨3, .phase⟩, ⟨4, .phase⟩, ⟨5, .phase⟩, ⟨6, .phase⟩, ⟨7, .phase⟩, ⟨8, .phase⟩, ⟨9, .phase⟩, ⟨10, .phase⟩, ⟨11, .phase⟩, ⟨12, .phase⟩, ⟨13, .phase⟩, ⟨14, .phase⟩, ⟨15, .phase⟩, ⟨16, .phase⟩, ⟨17, .phase⟩], none⟩) rfl (fun K hK => ?_) AllReadyH.nil)
         go_simp
         replace RR := own_pair RR Vq (by decide) (.int .i64 (laidQ (butL pl k)).1) (.int .i64 (laidQ (butL pl k)).2)
         replace Vq := blk_pair Vq (.int .i64 (laidQ (butL pl k)).1) (.int .i64 (laidQ (butL pl k)).2)
         replace Va := keep_pair Va naq (.int .i64 (laidQ (butL pl k)).1) (.int .i64 (laidQ (butL pl k)).2)
         replace HS := bel_pair HS geq (.int .i64 (laidQ (butL pl k)).1) (.int .i64 (laidQ (butL pl k)).2)
         clear cq0 cq1 fq0 fq1
         generalize (x4.setCell ⟨sq, 0, none⟩ (.int .i64 (laidQ (butL pl k)).1)).setCell ⟨sq, 1, none⟩ (.int .i64 (laidQ (butL pl k)).2) = x5 at *
         replace hS := HS
         refine Shut.out hK _ _ hS (fun _ => ?_)
         clear hK K
         try simp only [Act.put, List.setIfInBounds_toArray, List.set_cons_zero, List.set_cons_succ]
         refine wpAnyH_done (by kernel_rfl) ?_ _
         refine NoPanic.normal ?_
         go_wp2_with fail
         go_meet
         exact ⟨sa, sq, m2, d2, B2, rfl, rfl, Lib.hid Va, Lib.hid Vq, Lib.hid RR, Lib.hid HS, gea, geq⟩
       ·
        go_simp
        have HSZ : z ≤ u5_.heap.size := HZ.out _ HS
        have bd : Below u5_.heap.size u5_ (u5_.alloc (.cells #[.int .i64 0, .int .i64 0] 26)) := (Below.refl _ _).alloc (Nat.le_refl _) _
        replace HS := HS.trans (bd.mono HSZ)
        replace Va := blk_below Va bd (blk_lt Va)
        replace OL := own_below OL bd
        have Vq : (u5_.alloc (.cells #[.int .i64 0, .int .i64 0] 26)).heap[u5_.heap.size]? = some (.cells #[.int .i64 0, .int .i64 0] 26) := heap_alloc_new _ _
        have geq : z ≤ u5_.heap.size := HSZ
        clear bd HSZ
        generalize u5_.alloc (.cells #[.int .i64 0, .int .i64 0] 26) = x3 at *
        generalize hsq : u5_.heap.size = sq at *
        replace hS := HS
        go_wp2_with fail
        refine Shut.out hK _ _ hS (fun _ => ?_)
        clear hK K
        try simp only [Act.put, List.setIfInBounds_toArray, List.set_cons_zero, List.set_cons_succ]
        refine wpAnyH_ready (rs := [10]) (by kernel_rfl) (by simp) (AllReadyH.cons (o := ⟨some 28, .call { callee := .builtin .append, args := #[.tmp 23, .tmp 27], argTypes := #[37, 37] }, 37, "ref.go:89", #[⟨5, .data⟩, ⟨9, .data⟩, ⟨5, .chain⟩], none⟩) rfl (fun K hK => ?_) AllReadyH.nil)
        obtain ⟨A6, c6, u6_, hap6, own6, gr6⟩ := app_ints x3 z _ (k) _ OL Ct (m - (k + 1)) ct _ (IT.out.below (BZ.out _ HS)) (by omega) (HZ.out _ HS)
        rw [hN.out] at hap6 own6
        replace Va := keep_grown Va gr6 (row_int OL) (by decide)
        replace Vq := keep_grown Vq gr6 (row_int OL) (by decide)
        replace HS := HS.grown gr6 (HZ.out _ HS) (fun j hj => (OL.lt j hj).1)
        clear gr6 OL
        have OL := own6
        clear own6
        refine op_app_run7 (by rfl) rfl rfl rfl hap6 ?_
        clear hap6
        replace hS := HS
        refine Shut.out hK _ _ hS (fun _ => ?_)
        clear hK K
        try simp only [Act.put, List.setIfInBounds_toArray, List.set_cons_zero, List.set_cons_succ]
        refine wpAnyH_ready (rs := [11]) (by kernel_rfl) (by simp) (AllReadyH.cons (o := ⟨some 29, .call { callee := .value (.func 36), args := #[.tmp 18, .tmp 28], argTypes := #[24, 37] }, 61, "ref.go:89", #[⟨0, .data⟩, ⟨10, .data⟩, ⟨10, .chain⟩], none⟩) rfl (fun K hK => ?_) AllReadyH.nil)
        go_simp
        obtain ⟨_, _, he, hi6⟩ := Es.of_own OL (intC_one _)
        injection he with he1 he2 he3; subst he1; subst he3
        refine (LDH.out A6 _ c6 u6_ ((FR.out.step (BZ.out _ HS)).es RX.out) (show Is u6_ A6 N c6 (butL pl k) from hi6)).mono ?_
        rintro e wl ⟨B2, m2, d2, rfl, hrs, hb⟩
        replace Va := blk_below Va hb (blk_lt Va)
        replace Vq := blk_below Vq hb (blk_lt Vq)
        have RR := own_base hrs (show q + 4 ≤ u6_.heap.size from Nat.le_trans hqW (HZ.out _ HS))
        replace HS := HS.trans (hb.mono (HZ.out _ HS))
        clear hb hrs hi6 OL
        replace hS := HS
        have ca0 : wl.cell? ⟨sa, 0, none⟩ = some (.slice none 0 0) := (blk_cell Va 0).trans rfl
        have ca1 : wl.cell? ⟨sa, 1, none⟩ = some (.int .i64 0) := (blk_cell Va 1).trans rfl
        have fa0 := blk_frozen Va 0
        have fa1 := blk_frozen Va 1
        have cq0 : wl.cell? ⟨sq, 0, none⟩ = some (.int .i64 0) := (blk_cell Vq 0).trans rfl
        have cq1 : wl.cell? ⟨sq, 1, none⟩ = some (.int .i64 0) := (blk_cell Vq 1).trans rfl
        have fq0 := blk_frozen Vq 0
        have fq1 := blk_frozen Vq 1
        have naq : sa ≠ sq := blk_ne Va Vq (by decide)
        have nqa := naq.symm
        go_wp2_with fail
        refine Shut.out hK _ _ hS (fun _ => ?_)
        clear hK K
        try simp only [Act.put, List.setIfInBounds_toArray, List.set_cons_zero, List.set_cons_succ]
        refine wpAnyH_take (i := 12) (oi := ⟨some 17, .move (.tmp 29), 61, "ref.go:89", #[⟨11, .data⟩], none⟩) (v := ?_) rfl (by kernel_rfl) (by kernel_rfl) (by kernel_rfl) (fun _ _ _ h => h) (Or.inl ⟨by rfl, ?_⟩) hS ?_
        rotate_left
        · intro wv _; go_simp; try with_reducible rfl
        try simp only [Act.put, List.setIfInBounds_toArray, List.set_cons_zero, List.set_cons_succ]
        refine wpAnyH_take (i := 13) (oi := ⟨some 30, .extract (.tmp 17) 0, 24, "ref.go:89", #[⟨12, .data⟩], none⟩) (v := ?_) rfl (by kernel_rfl) (by kernel_rfl) (by kernel_rfl) (fun _ _ _ h => h) (Or.inl ⟨by rfl, ?_⟩) hS ?_
        rotate_left
        · intro wv _; go_simp; try with_reducible rfl
        try simp only [Act.put, List.setIfInBounds_toArray, List.set_cons_zero, List.set_cons_succ]
        refine wpAnyH_take (i := 14) (oi := ⟨some 31, .extract (.tmp 17) 1, 26, "ref.go:89", #[⟨12, .data⟩, ⟨17, .gcOnly .lateStores⟩], none⟩) (v := ?_) rfl (by kernel_rfl) (by kernel_rfl) (by kernel_rfl) (fun _ _ _ h => h) (Or.inl ⟨by rfl, ?_⟩) hS ?_
        rotate_left
        · intro wv _; go_simp; try with_reducible rfl
        try simp only [Act.put, List.setIfInBounds_toArray, List.set_cons_zero, List.set_cons_succ]
        refine wpAnyH_ready (rs := [17]) (by kernel_rfl) (by simp) (AllReadyH.cons (o := ⟨none, .store 24 (.tmp 10) (.tmp 30), 0, "ref.go:89", #[⟨15, .data⟩, ⟨13, .data⟩, ⟨11, .chain⟩, ⟨0, .phase⟩, ⟨1, .phase⟩, ⟨2, .phase⟩, ⟨3, .phase⟩, ⟨4, .phase⟩, ⟨5, .phase⟩, ⟨6, .phase⟩, ⟨7, .phase⟩, ⟨8, .phase⟩, ⟨9, .phase⟩, ⟨10, .phase⟩, ⟨11, .phase⟩, ⟨12, .phase⟩, ⟨13, .phase⟩, ⟨14, .textOnly .lateStores⟩, ⟨15, .phase⟩, ⟨16, .phase⟩], none⟩) rfl (fun K hK => ?_) AllReadyH.nil)
        go_simp
        replace RR := own_pair RR Va (by decide) (.slice B2 m2 d2) (.int .i64 fr)
        replace Va := blk_pair Va (.slice B2 m2 d2) (.int .i64 fr)
        replace Vq := keep_pair Vq nqa (.slice B2 m2 d2) (.int .i64 fr)
        replace HS := bel_pair HS gea (.slice B2 m2 d2) (.int .i64 fr)
        clear ca0 ca1 cq0 cq1 fa0 fa1 fq0 fq1
        generalize (wl.setCell ⟨sa, 0, none⟩ (.slice B2 m2 d2)).setCell ⟨sa, 1, none⟩ (.int .i64 fr) = x4 at *
        replace hS := HS
        have cq0 : x4.cell? ⟨sq, 0, none⟩ = some (.int .i64 0) := (blk_cell Vq 0).trans rfl
        have cq1 : x4.cell? ⟨sq, 1, none⟩ = some (.int .i64 0) := (blk_cell Vq 1).trans rfl
        have fq0 := blk_frozen Vq 0
        have fq1 := blk_frozen Vq 1
        refine Shut.out hK _ _ hS (fun _ => ?_)
        clear hK K
        try simp only [Act.put, List.setIfInBounds_toArray, List.set_cons_zero, List.set_cons_succ]
        refine wpAnyH_ready (rs := [18]) (by kernel_rfl) (by simp) (AllReadyH.cons (o := ⟨none, .store 26 (.tmp 11) (.tmp 31), 0, "ref.go:89", #[⟨16, .data⟩, ⟨14, .data⟩, ⟨17, .chain⟩, ⟨0, .phase⟩, ⟨1, .phase⟩, ⟨2, .phase⟩, ⟨3, .phase⟩, ⟨4, .phase⟩, ⟨5, .phase⟩, ⟨6, .phase⟩, ⟨7, .phase⟩, ⟨8, .phase⟩, ⟨9, .phase⟩, ⟨10, .phase⟩, ⟨11, .phase⟩, ⟨12, .phase⟩, ⟨13, .phase⟩, ⟨14, .phase⟩, ⟨15, .phase⟩, ⟨16, .phase⟩, ⟨17, .phase⟩], none⟩) rfl (fun K hK => ?_) AllReadyH.nil)
        go_simp
        replace RR := own_pair RR Vq (by decide) (.int .i64 (laidQ (butL pl k)).1) (.int .i64 (laidQ (butL pl k)).2)
        replace Vq := blk_pair Vq (.int .i64 (laidQ (butL pl k)).1) (.int .i64 (laidQ (butL pl k)).2)
        replace Va := keep_pair Va naq (.int .i64 (laidQ (butL pl k)).1) (.int .i64 (laidQ (butL pl k)).2)
        replace HS := bel_pair HS geq (.int .i64 (laidQ (butL pl k)).1) (.int .i64 (laidQ (butL pl k)).2)
        clear cq0 cq1 fq0 fq1
        generalize (x4.setCell ⟨sq, 0, none⟩ (.int .i64 (laidQ (butL pl k)).1)).setCell ⟨sq, 1, none⟩ (.int .i64 (laidQ (butL pl k)).2) = x5 at *
        replace hS := HS
        refine Shut.out hK _ _ hS (fun _ => ?_)
        clear hK K
        try simp only [Act.put, List.setIfInBounds_toArray, List.set_cons_zero, List.set_cons_succ]
        refine wpAnyH_done (by kernel_rfl) ?_ _
        refine NoPanic.normal ?_
        go_wp2_with fail
        go_meet
        exact ⟨sa, sq, m2, d2, B2, rfl, rfl, Lib.hid Va, Lib.hid Vq, Lib.hid RR, Lib.hid HS, gea, geq⟩
      ·
       go_simp
       have HSZ : z ≤ x2.heap.size := HZ.out _ HS
       have bd : Below x2.heap.size x2 (x2.alloc (.cells #[.int .i64 0, .int .i64 0] 26)) := (Below.refl _ _).alloc (Nat.le_refl _) _
       replace HS := HS.trans (bd.mono HSZ)
       replace Va := blk_below Va bd (blk_lt Va)
       replace OL := own_below OL bd
       have Vq : (x2.alloc (.cells #[.int .i64 0, .int .i64 0] 26)).heap[x2.heap.size]? = some (.cells #[.int .i64 0, .int .i64 0] 26) := heap_alloc_new _ _
       have geq : z ≤ x2.heap.size := HSZ
       clear bd HSZ
       generalize x2.alloc (.cells #[.int .i64 0, .int .i64 0] 26) = x3 at *
       generalize hsq : x2.heap.size = sq at *
       replace hS := HS.drew
       go_wp2_with fail
       refine Shut.out hK _ _ hS (fun _ => ?_)
       clear hK K
       try simp only [Act.put, List.setIfInBounds_toArray, List.set_cons_zero, List.set_cons_succ]
       refine wpAnyH_ready (rs := [5]) (by kernel_rfl) (by simp) (AllReadyH.cons (o := ⟨some 23, .call { callee := .builtin .append, args := #[.tmp 19, .tmp 22], argTypes := #[37, 37] }, 37, "ref.go:89", #[⟨1, .data⟩, ⟨4, .data⟩], none⟩) rfl (fun K hK => ?_) AllReadyH.nil)
       have bdr : Below x3.heap.size x3 x3.drew := (Below.refl _ _).drew
       replace OL := own_below OL bdr
       replace Va : x3.drew.heap[_]? = _ := Va
       replace Vq : x3.drew.heap[_]? = _ := Vq
       replace HS := HS.drew
       clear bdr
       obtain ⟨A5, c5, u5_, hap5, own5, gr5⟩ := app_ints x3.drew z _ (0) _ OL Ch (k) ch _ (IH.out.below (BZ.out _ HS)) (by omega) (HZ.out _ HS)
       rw [Nat.zero_add] at hap5 own5
       replace Va := keep_grown Va gr5 (row_int OL) (by decide)
       replace Vq := keep_grown Vq gr5 (row_int OL) (by decide)
       replace HS := HS.grown gr5 (HZ.out _ HS) (fun j hj => (OL.lt j hj).1)
       clear gr5 OL
       have OL := own5
       clear own5
       refine op_app_run7 (by rfl) rfl rfl rfl hap5 ?_
       clear hap5
       replace hS := HS
       refine Shut.out hK _ _ hS (fun _ => ?_)
       clear hK K
       try simp only [Act.put, List.setIfInBounds_toArray, List.set_cons_zero, List.set_cons_succ]
       refine wpAnyH_ready (rs := [10]) (by kernel_rfl) (by simp) (AllReadyH.cons (o := ⟨some 28, .call { callee := .builtin .append, args := #[.tmp 23, .tmp 27], argTypes := #[37, 37] }, 37, "ref.go:89", #[⟨5, .data⟩, ⟨9, .data⟩, ⟨5, .chain⟩], none⟩) rfl (fun K hK => ?_) AllReadyH.nil)
       obtain ⟨A6, c6, u6_, hap6, own6, gr6⟩ := app_ints u5_ z _ (k) _ OL Ct (m - (k + 1)) ct _ (IT.out.below (BZ.out _ HS)) (by omega) (HZ.out _ HS)
       rw [hN.out] at hap6 own6
       replace Va := keep_grown Va gr6 (row_int OL) (by decide)
       replace Vq := keep_grown Vq gr6 (row_int OL) (by decide)
       replace HS := HS.grown gr6 (HZ.out _ HS) (fun j hj => (OL.lt j hj).1)
       clear gr6 OL
       have OL := own6
       clear own6
       refine op_app_run7 (by rfl) rfl rfl rfl hap6 ?_
       clear hap6
       replace hS := HS
       refine Shut.out hK _ _ hS (fun _ => ?_)
       clear hK K
       try simp only [Act.put, List.setIfInBounds_toArray, List.set_cons_zero, List.set_cons_succ]
       refine wpAnyH_ready (rs := [11]) (by kernel_rfl) (by simp) (AllReadyH.cons (o := ⟨some 29, .call { callee := .value (.func 36), args := #[.tmp 18, .tmp 28], argTypes := #[24, 37] }, 61, "ref.go:89", #[⟨0, .data⟩, ⟨10, .data⟩, ⟨10, .chain⟩], none⟩) rfl (fun K hK => ?_) AllReadyH.nil)
       go_simp
       obtain ⟨_, _, he, hi6⟩ := Es.of_own OL (intC_one _)
       injection he with he1 he2 he3; subst he1; subst he3
       refine (LDH.out A6 _ c6 u6_ ((FR.out.step (BZ.out _ HS)).es RX.out) (show Is u6_ A6 N c6 (butL pl k) from hi6)).mono ?_
       rintro e wl ⟨B2, m2, d2, rfl, hrs, hb⟩
       replace Va := blk_below Va hb (blk_lt Va)
       replace Vq := blk_below Vq hb (blk_lt Vq)
       have RR := own_base hrs (show q + 4 ≤ u6_.heap.size from Nat.le_trans hqW (HZ.out _ HS))
       replace HS := HS.trans (hb.mono (HZ.out _ HS))
       clear hb hrs hi6 OL
       replace hS := HS
       have ca0 : wl.cell? ⟨sa, 0, none⟩ = some (.slice none 0 0) := (blk_cell Va 0).trans rfl
       have ca1 : wl.cell? ⟨sa, 1, none⟩ = some (.int .i64 0) := (blk_cell Va 1).trans rfl
       have fa0 := blk_frozen Va 0
       have fa1 := blk_frozen Va 1
       have cq0 : wl.cell? ⟨sq, 0, none⟩ = some (.int .i64 0) := (blk_cell Vq 0).trans rfl
       have cq1 : wl.cell? ⟨sq, 1, none⟩ = some (.int .i64 0) := (blk_cell Vq 1).trans rfl
       have fq0 := blk_frozen Vq 0
       have fq1 := blk_frozen Vq 1
       have naq : sa ≠ sq := blk_ne Va Vq (by decide)
       have nqa := naq.symm
       go_wp2_with fail
       refine Shut.out hK _ _ hS (fun _ => ?_)
       clear hK K
       try simp only [Act.put, List.setIfInBounds_toArray, List.set_cons_zero, List.set_cons_succ]
       refine wpAnyH_take (i := 12) (oi := ⟨some 17, .move (.tmp 29), 61, "ref.go:89", #[⟨11, .data⟩], none⟩) (v := ?_) rfl (by kernel_rfl) (by kernel_rfl) (by kernel_rfl) (fun _ _ _ h => h) (Or.inl ⟨by rfl, ?_⟩) hS ?_
       rotate_left
       · intro wv _; go_simp; try with_reducible rfl
       try simp only [Act.put, List.setIfInBounds_toArray, List.set_cons_zero, List.set_cons_succ]
       refine wpAnyH_take (i := 13) (oi := ⟨some 30, .extract (.tmp 17) 0, 24, "ref.go:89", #[⟨12, .data⟩], none⟩) (v := ?_) rfl (by kernel_rfl) (by kernel_rfl) (by kernel_rfl) (fun _ _ _ h => h) (Or.inl ⟨by rfl, ?_⟩) hS ?_
       rotate_left
       · intro wv _; go_simp; try with_reducible rfl
       try simp only [Act.put, List.setIfInBounds_toArray, List.set_cons_zero, List.set_cons_succ]
       refine wpAnyH_take (i := 14) (oi := ⟨some 31, .extract (.tmp 17) 1, 26, "ref.go:89", #[⟨12, .data⟩, ⟨17, .gcOnly .lateStores⟩], none⟩) (v := ?_) rfl (by kernel_rfl) (by kernel_rfl) (by kernel_rfl) (fun _ _ _ h => h) (Or.inl ⟨by rfl, ?_⟩) hS ?_
       rotate_left
       · intro wv _; go_simp; try with_reducible rfl
       try simp only [Act.put, List.setIfInBounds_toArray, List.set_cons_zero, List.set_cons_succ]
       refine wpAnyH_ready (rs := [17]) (by kernel_rfl) (by simp) (AllReadyH.cons (o := ⟨none, .store 24 (.tmp 10) (.tmp 30), 0, "ref.go:89", #[⟨15, .data⟩, ⟨13, .data⟩, ⟨11, .chain⟩, ⟨0, .phase⟩, ⟨1, .phase⟩, ⟨2, .phase⟩, ⟨3, .phase⟩, ⟨4, .phase⟩, ⟨5, .phase⟩, ⟨6, .phase⟩, ⟨7, .phase⟩, ⟨8, .phase⟩, ⟨9, .phase⟩, ⟨10, .phase⟩, ⟨11, .phase⟩, ⟨12, .phase⟩, ⟨13, .phase⟩, ⟨14, .textOnly .lateStores⟩, ⟨15, .phase⟩, ⟨16, .phase⟩], none⟩) rfl (fun K hK => ?_) AllReadyH.nil)
       go_simp
       replace RR := own_pair RR Va (by decide) (.slice B2 m2 d2) (.int .i64 fr)
       replace Va := blk_pair Va (.slice B2 m2 d2) (.int .i64 fr)
       replace Vq := keep_pair Vq nqa (.slice B2 m2 d2) (.int .i64 fr)
       replace HS := bel_pair HS gea (.slice B2 m2 d2) (.int .i64 fr)
       clear ca0 ca1 cq0 cq1 fa0 fa1 fq0 fq1
       generalize (wl.setCell ⟨sa, 0, none⟩ (.slice B2 m2 d2)).setCell ⟨sa, 1, none⟩ (.int .i64 fr) = x4 at *
       replace hS := HS
       have cq0 : x4.cell? ⟨sq, 0, none⟩ = some (.int .i64 0) := (blk_cell Vq 0).trans rfl
       have cq1 : x4.cell? ⟨sq, 1, none⟩ = some (.int .i64 0) := (blk_cell Vq 1).trans rfl
       have fq0 := blk_frozen Vq 0
       have fq1 := blk_frozen Vq 1
       refine Shut.out hK _ _ hS (fun _ => ?_)
       clear hK K
       try simp only [Act.put, List.setIfInBounds_toArray, List.set_cons_zero, List.set_cons_succ]
       refine wpAnyH_ready (rs := [18]) (by kernel_rfl) (by simp) (AllReadyH.cons (o := ⟨none, .store 26 (.tmp 11) (.tmp 31), 0, "ref.go:89", #[⟨16, .data⟩, ⟨14, .data⟩, ⟨17, .chain⟩, ⟨0, .phase⟩, ⟨1, .phase⟩, ⟨2, .phase⟩, ⟨3, .phase⟩, ⟨4, .phase⟩, ⟨5, .phase⟩, ⟨6, .phase⟩, ⟨7, .phase⟩, ⟨8, .phase⟩, ⟨9, .phase⟩, ⟨10, .phase⟩, ⟨11, .phase⟩, ⟨12, .phase⟩, ⟨13, .phase⟩, ⟨14, .phase⟩, ⟨15, .phase⟩, ⟨16, .phase⟩, ⟨17, .phase⟩], none⟩) rfl (fun K hK => ?_) AllReadyH.nil)
       go_simp
       replace RR := own_pair RR Vq (by decide) (.int .i64 (laidQ (butL pl k)).1) (.int .i64 (laidQ (butL pl k)).2)
       replace Vq := blk_pair Vq (.int .i64 (laidQ (butL pl k)).1) (.int .i64 (laidQ (butL pl k)).2)
       replace Va := keep_pair Va naq (.int .i64 (laidQ (butL pl k)).1) (.int .i64 (laidQ (butL pl k)).2)
       replace HS := bel_pair HS geq (.int .i64 (laidQ (butL pl k)).1) (.int .i64 (laidQ (butL pl k)).2)
       clear cq0 cq1 fq0 fq1
       generalize (x4.setCell ⟨sq, 0, none⟩ (.int .i64 (laidQ (butL pl k)).1)).setCell ⟨sq, 1, none⟩ (.int .i64 (laidQ (butL pl k)).2) = x5 at *
       replace hS := HS
       refine Shut.out hK _ _ hS (fun _ => ?_)
       clear hK K
       try simp only [Act.put, List.setIfInBounds_toArray, List.set_cons_zero, List.set_cons_succ]
       refine wpAnyH_done (by kernel_rfl) ?_ _
       refine NoPanic.normal ?_
       go_wp2_with fail
       go_meet
       exact ⟨sa, sq, m2, d2, B2, rfl, rfl, Lib.hid Va, Lib.hid Vq, Lib.hid RR, Lib.hid HS, gea, geq⟩
     ·
      go_simp
      have HSZ : z ≤ x1.heap.size := HZ.out _ HS
      have bd : Below x1.heap.size x1 (x1.alloc (.cells #[.int .i64 0, .int .i64 0] 26)) := (Below.refl _ _).alloc (Nat.le_refl _) _
      replace HS := HS.trans (bd.mono HSZ)
      replace OL := own_below OL bd
      have Vq : (x1.alloc (.cells #[.int .i64 0, .int .i64 0] 26)).heap[x1.heap.size]? = some (.cells #[.int .i64 0, .int .i64 0] 26) := heap_alloc_new _ _
      have geq : z ≤ x1.heap.size := HSZ
      clear bd HSZ
      generalize x1.alloc (.cells #[.int .i64 0, .int .i64 0] 26) = x2 at *
      generalize hsq : x1.heap.size = sq at *
      replace hS := HS.drew
      go_wp2_with fail
      refine Shut.out hK _ _ hS (fun _ => ?_)
      clear hK K
      try simp only [Act.put, List.setIfInBounds_toArray, List.set_cons_zero, List.set_cons_succ]
      refine wpAnyH_ready (rs := [5, 15]) (by kernel_rfl) (by simp) (AllReadyH.cons (o := ⟨some 23, .call { callee := .builtin .append, args := #[.tmp 19, .tmp 22], argTypes := #[37, 37] }, 37, "ref.go:89", #[⟨1, .data⟩, ⟨4, .data⟩], none⟩) rfl (fun K hK => ?_) (AllReadyH.cons (o := ⟨some 10, .alloc 24, 0, "ref.go:89", #[], none⟩) rfl (fun K hK => ?_) AllReadyH.nil))
      ·
       have bdr : Below x2.heap.size x2 x2.drew := (Below.refl _ _).drew
       replace OL := own_below OL bdr
       replace Vq : x2.drew.heap[_]? = _ := Vq
       replace HS := HS.drew
       clear bdr
       obtain ⟨A5, c5, u5_, hap5, own5, gr5⟩ := app_ints x2.drew z _ (0) _ OL Ch (k) ch _ (IH.out.below (BZ.out _ HS)) (by omega) (HZ.out _ HS)
       rw [Nat.zero_add] at hap5 own5
       replace Vq := keep_grown Vq gr5 (row_int OL) (by decide)
       replace HS := HS.grown gr5 (HZ.out _ HS) (fun j hj => (OL.lt j hj).1)
       clear gr5 OL
       have OL := own5
       clear own5
       refine op_app_run7 (by rfl) rfl rfl rfl hap5 ?_
       clear hap5
       replace hS := HS
       refine Shut.out hK _ _ hS (fun _ => ?_)
       clear hK K
       try simp only [Act.put, List.setIfInBounds_toArray, List.set_cons_zero, List.set_cons_succ]
       refine wpAnyH_ready (rs := [10, 15]) (by kernel_rfl) (by simp) (AllReadyH.cons (o := ⟨some 28, .call { callee := .builtin .append, args := #[.tmp 23, .tmp 27], argTypes := #[37, 37] }, 37, "ref.go:89", #[⟨5, .data⟩, ⟨9, .data⟩, ⟨5, .chain⟩], none⟩) rfl (fun K hK => ?_) (AllReadyH.cons (o := ⟨some 10, .alloc 24, 0, "ref.go:89", #[], none⟩) rfl (fun K hK => ?_) AllReadyH.nil))
       ·
        obtain ⟨A6, c6, u6_, hap6, own6, gr6⟩ := app_ints u5_ z _ (k) _ OL Ct (m - (k + 1)) ct _ (IT.out.below (BZ.out _ HS)) (by omega) (HZ.out _ HS)
        rw [hN.out] at hap6 own6
        replace Vq := keep_grown Vq gr6 (row_int OL) (by decide)
        replace HS := HS.grown gr6 (HZ.out _ HS) (fun j hj => (OL.lt j hj).1)
        clear gr6 OL
        have OL := own6
        clear own6
        refine op_app_run7 (by rfl) rfl rfl rfl hap6 ?_
        clear hap6
        replace hS := HS
        refine Shut.out hK _ _ hS (fun _ => ?_)
        clear hK K
        try simp only [Act.put, List.setIfInBounds_toArray, List.set_cons_zero, List.set_cons_succ]
        refine wpAnyH_ready (rs := [11, 15]) (by kernel_rfl) (by simp) (AllReadyH.cons (o := ⟨some 29, .call { callee := .value (.func 36), args := #[.tmp 18, .tmp 28], argTypes := #[24, 37] }, 61, "ref.go:89", #[⟨0, .data⟩, ⟨10, .data⟩, ⟨10, .chain⟩], none⟩) rfl (fun K hK => ?_) (AllReadyH.cons (o := ⟨some 10, .alloc 24, 0, "ref.go:89", #[], none⟩) rfl (fun K hK => ?_) AllReadyH.nil))
        ·
         go_simp
         obtain ⟨_, _, he, hi6⟩ := Es.of_own OL (intC_one _)
         injection he with he1 he2 he3; subst he1; subst he3
         refine (LDH.out A6 _ c6 u6_ ((FR.out.step (BZ.out _ HS)).es RX.out) (show Is u6_ A6 N c6 (butL pl k) from hi6)).mono ?_
         rintro e wl ⟨B2, m2, d2, rfl, hrs, hb⟩
         replace Vq := blk_below Vq hb (blk_lt Vq)
         have RR := own_base hrs (show q + 4 ≤ u6_.heap.size from Nat.le_trans hqW (HZ.out _ HS))
         replace HS := HS.trans (hb.mono (HZ.out _ HS))
         clear hb hrs hi6 OL
         replace hS := HS
         go_wp2_with fail
         refine Shut.out hK _ _ hS (fun _ => ?_)
         clear hK K
         try simp only [Act.put, List.setIfInBounds_toArray, List.set_cons_zero, List.set_cons_succ]
         refine wpAnyH_take (i := 12) (oi := ⟨some 17, .move (.tmp 29), 61, "ref.go:89", #[⟨11, .data⟩], none⟩) (v := ?_) rfl (by kernel_rfl) (by kernel_rfl) (by kernel_rfl) (fun _ _ _ h => h) (Or.inl ⟨by rfl, ?_⟩) hS ?_
         rotate_left
         · intro wv _; go_simp; try with_reducible rfl
         try simp only [Act.put, List.setIfInBounds_toArray, List.set_cons_zero, List.set_cons_succ]
         refine wpAnyH_take (i := 13) (oi := ⟨some 30, .extract (.tmp 17) 0, 24, "ref.go:89", #[⟨12, .data⟩], none⟩) (v := ?_) rfl (by kernel_rfl) (by kernel_rfl) (by kernel_rfl) (fun _ _ _ h => h) (Or.inl ⟨by rfl, ?_⟩) hS ?_
         rotate_left
         · intro wv _; go_simp; try with_reducible rfl
         try simp only [Act.put, List.setIfInBounds_toArray, List.set_cons_zero, List.set_cons_succ]
         refine wpAnyH_take (i := 14) (oi := ⟨some 31, .extract (.tmp 17) 1, 26, "ref.go:89", #[⟨12, .data⟩, ⟨17, .gcOnly .lateStores⟩], none⟩) (v := ?_) rfl (by kernel_rfl) (by kernel_rfl) (by kernel_rfl) (fun _ _ _ h => h) (Or.inl ⟨by rfl, ?_⟩) hS ?_
         rotate_left
         · intro wv _; go_simp; try with_reducible rfl
         try simp only [Act.put, List.setIfInBounds_toArray, List.set_cons_zero, List.set_cons_succ]
         refine wpAnyH_ready (rs := [15]) (by kernel_rfl) (by simp) (AllReadyH.cons (o := ⟨some 10, .alloc 24, 0, "ref.go:89", #[], none⟩) rfl (fun K hK => ?_) AllReadyH.nil)
         go_simp
         have HSZ : z ≤ wl.heap.size := HZ.out _ HS
         have bd : Below wl.heap.size wl (wl.alloc (.cells #[.slice none 0 0, .int .i64 0] 24)) := (Below.refl _ _).alloc (Nat.le_refl _) _
         replace HS := HS.trans (bd.mono HSZ)
         replace Vq := blk_below Vq bd (blk_lt Vq)
         replace RR := own_below RR bd
         have Va : (wl.alloc (.cells #[.slice none 0 0, .int .i64 0] 24)).heap[wl.heap.size]? = some (.cells #[.slice none 0 0, .int .i64 0] 24) := heap_alloc_new _ _
         have gea : z ≤ wl.heap.size := HSZ
         clear bd HSZ
         generalize wl.alloc (.cells #[.slice none 0 0, .int .i64 0] 24) = x3 at *
         generalize hsa : wl.heap.size = sa at *
         replace hS := HS
         have ca0 : x3.cell? ⟨sa, 0, none⟩ = some (.slice none 0 0) := (blk_cell Va 0).trans rfl
         have ca1 : x3.cell? ⟨sa, 1, none⟩ = some (.int .i64 0) := (blk_cell Va 1).trans rfl
         have fa0 := blk_frozen Va 0
         have fa1 := blk_frozen Va 1
         have cq0 : x3.cell? ⟨sq, 0, none⟩ = some (.int .i64 0) := (blk_cell Vq 0).trans rfl
         have cq1 : x3.cell? ⟨sq, 1, none⟩ = some (.int .i64 0) := (blk_cell Vq 1).trans rfl
         have fq0 := blk_frozen Vq 0
         have fq1 := blk_frozen Vq 1
         have naq : sa ≠ sq := blk_ne Va Vq (by decide)
         have nqa := naq.symm
         go_wp2_with fail
         refine Shut.out hK _ _ hS (fun _ => ?_)
         clear hK K
         try simp only [Act.put, List.setIfInBounds_toArray, List.set_cons_zero, List.set_cons_succ]
         refine wpAnyH_ready (rs := [17]) (by kernel_rfl) (by simp) (AllReadyH.cons (o := ⟨none, .store 24 (.tmp 10) (.tmp 30), 0, "ref.go:89", #[⟨15, .data⟩, ⟨13, .data⟩, ⟨11, .chain⟩, ⟨0, .phase⟩, ⟨1, .phase⟩, ⟨2, .phase⟩, ⟨3, .phase⟩, ⟨4, .phase⟩, ⟨5, .phase⟩, ⟨6, .phase⟩, ⟨7, .phase⟩, ⟨8, .phase⟩, ⟨9, .phase⟩, ⟨10, .phase⟩, ⟨11, .phase⟩, ⟨12, .phase⟩, ⟨13, .phase⟩, ⟨14, .textOnly .lateStores⟩, ⟨15, .phase⟩, ⟨16, .phase⟩], none⟩) rfl (fun K hK => ?_) AllReadyH.nil)
         go_simp
         replace RR := own_pair RR Va (by decide) (.slice B2 m2 d2) (.int .i64 fr)
         replace Va := blk_pair Va (.slice B2 m2 d2) (.int .i64 fr)
         replace Vq := keep_pair Vq nqa (.slice B2 m2 d2) (.int .i64 fr)
         replace HS := bel_pair HS gea (.slice B2 m2 d2) (.int .i64 fr)
         clear ca0 ca1 cq0 cq1 fa0 fa1 fq0 fq1
         generalize (x3.setCell ⟨sa, 0, none⟩ (.slice B2 m2 d2)).setCell ⟨sa, 1, none⟩ (.int .i64 fr) = x4 at *
         replace hS := HS
         have cq0 : x4.cell? ⟨sq, 0, none⟩ = some (.int .i64 0) := (blk_cell Vq 0).trans rfl
         have cq1 : x4.cell? ⟨sq, 1, none⟩ = some (.int .i64 0) := (blk_cell Vq 1).trans rfl
         have fq0 := blk_frozen Vq 0
         have fq1 := blk_frozen Vq 1
         refine Shut.out hK _ _ hS (fun _ => ?_)
         clear hK K
         try simp only [Act.put, List.setIfInBounds_toArray, List.set_cons_zero, List.set_cons_succ]
         refine wpAnyH_ready (rs := [18]) (by kernel_rfl) (by simp) (AllReadyH.cons (o := ⟨none, .store 26 (.tmp 11) (.tmp 31), 0, "ref.go:89", #[⟨16, .data⟩, ⟨14, .data⟩, ⟨17, .chain⟩, ⟨0, .phase⟩, ⟨1, .phase⟩, ⟨2, .phase⟩, ⟨3, .phase⟩, ⟨4, .phase⟩, ⟨5, .phase⟩, ⟨6, .phase⟩, ⟨7, .phase⟩, ⟨8, .phase⟩, ⟨9, .phase⟩, ⟨10, .phase⟩, ⟨11, .phase⟩, ⟨12, .phase⟩, ⟨13, .phase⟩, ⟨14, .phase⟩, ⟨15, .phase⟩, ⟨16, .phase⟩, ⟨17, .phase⟩], none⟩) rfl (fun K hK => ?_) AllReadyH.nil)
         go_simp
         replace RR := own_pair RR Vq (by decide) (.int .i64 (laidQ (butL pl k)).1) (.int .i64 (laidQ (butL pl k)).2)
         replace Vq := blk_pair Vq (.int .i64 (laidQ (butL pl k)).1) (.int .i64 (laidQ (butL pl k)).2)
         replace Va := keep_pair Va naq (.int .i64 (laidQ (butL pl k)).1) (.int .i64 (laidQ (butL pl k)).2)
         replace HS := bel_pair HS geq (.int .i64 (laidQ (butL pl k)).1) (.int .i64 (laidQ (butL pl k)).2)
         clear cq0 cq1 fq0 fq1
         generalize (x4.setCell ⟨sq, 0, none⟩ (.int .i64 (laidQ (butL pl k)).1)).setCell ⟨sq, 1, none⟩ (.int .i64 (laidQ (butL pl k)).2) = x5 at *
         replace hS := HS
         refine Shut.out hK _ _ hS (fun _ => ?_)
         clear hK K
         try simp only [Act.put, List.setIfInBounds_toArray, List.set_cons_zero, List.set_cons_succ]
         refine wpAnyH_done (by kernel_rfl) ?_ _
         refine NoPanic.normal ?_
         go_wp2_with fail
         go_meet
         exact ⟨sa, sq, m2, d2, B2, rfl, rfl, Lib.hid Va, Lib.hid Vq, Lib.hid RR, Lib.hid HS, gea, geq⟩
        ·
         go_simp
         have HSZ : z ≤ u6_.heap.size := HZ.out _ HS
         have bd : Below u6_.heap.size u6_ (u6_.alloc (.cells #[.slice none 0 0, .int .i64 0] 24)) := (Below.refl _ _).alloc (Nat.le_refl _) _
         replace HS := HS.trans (bd.mono HSZ)
         replace Vq := blk_below Vq bd (blk_lt Vq)
         replace OL := own_below OL bd
         have Va : (u6_.alloc (.cells #[.slice none 0 0, .int .i64 0] 24)).heap[u6_.heap.size]? = some (.cells #[.slice none 0 0, .int .i64 0] 24) := heap_alloc_new _ _
         have gea : z ≤ u6_.heap.size := HSZ
         clear bd HSZ
         generalize u6_.alloc (.cells #[.slice none 0 0, .int .i64 0] 24) = x3 at *
         generalize hsa : u6_.heap.size = sa at *
         replace hS := HS
         go_wp2_with fail
         refine Shut.out hK _ _ hS (fun _ => ?_)
         clear hK K
         try simp only [Act.put, List.setIfInBounds_toArray, List.set_cons_zero, List.set_cons_succ]
         refine wpAnyH_ready (rs := [11]) (by kernel_rfl) (by simp) (AllReadyH.cons (o := ⟨some 29, .call { callee := .value (.func 36), args := #[.tmp 18, .tmp 28], argTypes := #[24, 37] }, 61, "ref.go:89", #[⟨0, .data⟩, ⟨10, .data⟩, ⟨10, .chain⟩], none⟩) rfl (fun K hK => ?_) AllReadyH.nil)
         go_simp
         obtain ⟨_, _, he, hi6⟩ := Es.of_own OL (intC_one _)
         injection he with he1 he2 he3; subst he1; subst he3
         refine (LDH.out A6 _ c6 x3 ((FR.out.step (BZ.out _ HS)).es RX.out) (show Is x3 A6 N c6 (butL pl k) from hi6)).mono ?_
         rintro e wl ⟨B2, m2, d2, rfl, hrs, hb⟩
         replace Vq := blk_below Vq hb (blk_lt Vq)
         replace Va := blk_below Va hb (blk_lt Va)
         have RR := own_base hrs (show q + 4 ≤ x3.heap.size from Nat.le_trans hqW (HZ.out _ HS))
         replace HS := HS.trans (hb.mono (HZ.out _ HS))
         clear hb hrs hi6 OL
         replace hS := HS
         have ca0 : wl.cell? ⟨sa, 0, none⟩ = some (.slice none 0 0) := (blk_cell Va 0).trans rfl
         have ca1 : wl.cell? ⟨sa, 1, none⟩ = some (.int .i64 0) := (blk_cell Va 1).trans rfl
         have fa0 := blk_frozen Va 0
         have fa1 := blk_frozen Va 1
         have cq0 : wl.cell? ⟨sq, 0, none⟩ = some (.int .i64 0) := (blk_cell Vq 0).trans rfl
         have cq1 : wl.cell? ⟨sq, 1, none⟩ = some (.int .i64 0) := (blk_cell Vq 1).trans rfl
         have fq0 := blk_frozen Vq 0
         have fq1 := blk_frozen Vq 1
         have naq : sa ≠ sq := blk_ne Va Vq (by decide)
         have nqa := naq.symm
         go_wp2_with fail
         refine Shut.out hK _ _ hS (fun _ => ?_)
         clear hK K
         try simp only [Act.put, List.setIfInBounds_toArray, List.set_cons_zero, List.set_cons_succ]
         refine wpAnyH_take (i := 12) (oi := ⟨some 17, .move (.tmp 29), 61, "ref.go:89", #[⟨11, .data⟩], none⟩) (v := ?_) rfl (by kernel_rfl) (by kernel_rfl) (by kernel_rfl) (fun _ _ _ h => h) (Or.inl ⟨by rfl, ?_⟩) hS ?_
         rotate_left
         · intro wv _; go_simp; try with_reducible rfl
         try simp only [Act.put, List.setIfInBounds_toArray, List.set_cons_zero, List.set_cons_succ]
         refine wpAnyH_take (i := 13) (oi := ⟨some 30, .extract (.tmp 17) 0, 24, "ref.go:89", #[⟨12, .data⟩], none⟩) (v := ?_) rfl (by kernel_rfl) (by kernel_rfl) (by kernel_rfl) (fun _ _ _ h => h) (Or.inl ⟨by rfl, ?_⟩) hS ?_
         rotate_left
         · intro wv _; go_simp; try with_reducible rfl
         try simp only [Act.put, List.setIfInBounds_toArray, List.set_cons_zero, List.set_cons_succ]
         refine wpAnyH_take (i := 14) (oi := ⟨some 31, .extract (.tmp 17) 1, 26, "ref.go:89", #[⟨12, .data⟩, ⟨17, .gcOnly .lateStores⟩], none⟩) (v := ?_) rfl (by kernel_rfl) (by kernel_rfl) (by kernel_rfl) (fun _ _ _ h => h) (Or.inl ⟨by rfl, ?_⟩) hS ?_
         rotate_left
         · intro wv _; go_simp; try with_reducible rfl
         try simp only [Act.put, List.setIfInBounds_toArray, List.set_cons_zero, List.set_cons_succ]
         refine wpAnyH_ready (rs := [17]) (by kernel_rfl) (by simp) (AllReadyH.cons (o := ⟨none, .store 24 (.tmp 10) (.tmp 30), 0, "ref.go:89", #[⟨15, .data⟩, ⟨13, .data⟩, ⟨11, .chain⟩, ⟨0, .phase⟩, ⟨1, .phase⟩, ⟨2, .phase⟩, ⟨3, .phase⟩, ⟨4, .phase⟩, ⟨5, .phase⟩, ⟨6, .phase⟩, ⟨7, .phase⟩, ⟨8, .phase⟩, ⟨9, .phase⟩, ⟨10, .phase⟩, ⟨11, .phase⟩, ⟨12, .phase⟩, ⟨13, .phase⟩, ⟨14, .textOnly .lateStores⟩, ⟨15, .phase⟩, ⟨16, .phase⟩], none⟩) rfl (fun K hK => ?_) AllReadyH.nil)
         go_simp
         replace RR := own_pair RR Va (by decide) (.slice B2 m2 d2) (.int .i64 fr)
         replace Va := blk_pair Va (.slice B2 m2 d2) (.int .i64 fr)
         replace Vq := keep_pair Vq nqa (.slice B2 m2 d2) (.int .i64 fr)
         replace HS := bel_pair HS gea (.slice B2 m2 d2) (.int .i64 fr)
         clear ca0 ca1 cq0 cq1 fa0 fa1 fq0 fq1
         generalize (wl.setCell ⟨sa, 0, none⟩ (.slice B2 m2 d2)).setCell ⟨sa, 1, none⟩ (.int .i64 fr) = x4 at *
         replace hS := HS
         have cq0 : x4.cell? ⟨sq, 0, none⟩ = some (.int .i64 0) := (blk_cell Vq 0).trans rfl
         have cq1 : x4.cell? ⟨sq, 1, none⟩ = some (.int .i64 0) := (blk_cell Vq 1).trans rfl
         have fq0 := blk_frozen Vq 0
         have fq1 := blk_frozen Vq 1
         refine Shut.out hK _ _ hS (fun _ => ?_)
         clear hK K
         try simp only [Act.put, List.setIfInBounds_toArray, List.set_cons_zero, List.set_cons_succ]
         refine wpAnyH_ready (rs := [18]) (by kernel_rfl) (by simp) (AllReadyH.cons (o := ⟨none, .store 26 (.tmp 11) (.tmp 31), 0, "ref.go:89", #[⟨16, .data⟩, ⟨14, .data⟩, ⟨17, .chain⟩, ⟨0, .phase⟩, ⟨1, .phase⟩, ⟨2, .phase⟩, ⟨3, .phase⟩, ⟨4, .phase⟩, ⟨5, .phase⟩, ⟨6, .phase⟩, ⟨7, .phase⟩, ⟨8, .phase⟩, ⟨9, .phase⟩, ⟨10, .phase⟩, ⟨11, .phase⟩, ⟨12, .phase⟩, ⟨13, .phase⟩, ⟨14, .phase⟩, ⟨15, .phase⟩, ⟨16, .phase⟩, ⟨17, .phase⟩], none⟩) rfl (fun K hK => ?_) AllReadyH.nil)
         go_simp
         replace RR := own_pair RR Vq (by decide) (.int .i64 (laidQ (butL pl k)).1) (.int .i64 (laidQ (butL pl k)).2)
         replace Vq := blk_pair Vq (.int .i64 (laidQ (butL pl k)).1) (.int .i64 (laidQ (butL pl k)).2)
         replace Va := keep_pair Va naq (.int .i64 (laidQ (butL pl k)).1) (.int .i64 (laidQ (butL pl k)).2)
         replace HS := bel_pair HS geq (.int .i64 (laidQ (butL pl k)).1) (.int .i64 (laidQ (butL pl k)).2)
         clear cq0 cq1 fq0 fq1
         generalize (x4.setCell ⟨sq, 0, none⟩ (.int .i64 (laidQ (butL pl k)).1)).setCell ⟨sq, 1, none⟩ (.int .i64 (laidQ (butL pl k)).2) = x5 at *
         replace hS := HS
         refine Shut.out hK _ _ hS (fun _ => ?_)
         clear hK K
         try simp only [Act.put, List.setIfInBounds_toArray, List.set_cons_zero, List.set_cons_succ]
         refine wpAnyH_done (by kernel_rfl) ?_ _
         refine NoPanic.normal ?_
         go_wp2_with fail
         go_meet
         exact ⟨sa, sq, m2, d2, B2, rfl, rfl, Lib.hid Va, Lib.hid Vq, Lib.hid RR, Lib.hid HS, gea, geq⟩
       ·
        go_simp
        have HSZ : z ≤ u5_.heap.size := HZ.out _ HS
        have bd : Below u5_.heap.size u5_ (u5_.alloc (.cells #[.slice none 0 0, .int .i64 0] 24)) := (Below.refl _ _).alloc (Nat.le_refl _) _
        replace HS := HS.trans (bd.mono HSZ)
        replace Vq := blk_below Vq bd (blk_lt Vq)
        replace OL := own_below OL bd
        have Va : (u5_.alloc (.cells #[.slice none 0 0, .int .i64 0] 24)).heap[u5_.heap.size]? = some (.cells #[.slice none 0 0, .int .i64 0] 24) := heap_alloc_new _ _
        have gea : z ≤ u5_.heap.size := HSZ
        clear bd HSZ
        generalize u5_.alloc (.cells #[.slice none 0 0, .int .i64 0] 24) = x3 at *
        generalize hsa : u5_.heap.size = sa at *
        replace hS := HS
        go_wp2_with fail
        refine Shut.out hK _ _ hS (fun _ => ?_)
        clear hK K
        try simp only [Act.put, List.setIfInBounds_toArray, List.set_cons_zero, List.set_cons_succ]
        refine wpAnyH_ready (rs := [10]) (by kernel_rfl) (by simp) (AllReadyH.cons (o := ⟨some 28, .call { callee := .builtin .append, args := #[.tmp 23, .tmp 27], argTypes := #[37, 37] }, 37, "ref.go:89", #[⟨5, .data⟩, ⟨9, .data⟩, ⟨5, .chain⟩], none⟩) rfl (fun K hK => ?_) AllReadyH.nil)
        obtain ⟨A6, c6, u6_, hap6, own6, gr6⟩ := app_ints x3 z _ (k) _ OL Ct (m - (k + 1)) ct _ (IT.out.below (BZ.out _ HS)) (by omega) (HZ.out _ HS)
        rw [hN.out] at hap6 own6
        replace Vq := keep_grown Vq gr6 (row_int OL) (by decide)
        replace Va := keep_grown Va gr6 (row_int OL) (by decide)
        replace HS := HS.grown gr6 (HZ.out _ HS) (fun j hj => (OL.lt j hj).1)
        clear gr6 OL
        have OL := own6
        clear own6
        refine op_app_run7 (by rfl) rfl rfl rfl hap6 ?_
        clear hap6
        replace hS := HS
        refine Shut.out hK _ _ hS (fun _ => ?_)
        clear hK K
        try simp only [Act.put, List.setIfInBounds_toArray, List.set_cons_zero, List.set_cons_succ]
        refine wpAnyH_ready (rs := [11]) (by kernel_rfl) (by simp) (AllReadyH.cons (o := ⟨some 29, .call { callee := .value (.func 36), args := #[.tmp 18, .tmp 28], argTypes := #[24, 37] }, 61, "ref.go:89", #[⟨0, .data⟩, ⟨10, .data⟩, ⟨10, .chain⟩], none⟩) rfl (fun K hK => ?_) AllReadyH.nil)
        go_simp
        obtain ⟨_, _, he, hi6⟩ := Es.of_own OL (intC_one _)
        injection he with he1 he2 he3; subst he1; subst he3
        refine (LDH.out A6 _ c6 u6_ ((FR.out.step (BZ.out _ HS)).es RX.out) (show Is u6_ A6 N c6 (butL pl k) from hi6)).mono ?_
        rintro e wl ⟨B2, m2, d2, rfl, hrs, hb⟩
        replace Vq := blk_below Vq hb (blk_lt Vq)
        replace Va := blk_below Va hb (blk_lt Va)
        have RR := own_base hrs (show q + 4 ≤ u6_.heap.size from Nat.le_trans hqW (HZ.out _ HS))
        replace HS := HS.trans (hb.mono (HZ.out _ HS))
        clear hb hrs hi6 OL
        replace hS := HS
        have ca0 : wl.cell? ⟨sa, 0, none⟩ = some (.slice none 0 0) := (blk_cell Va 0).trans rfl
        have ca1 : wl.cell? ⟨sa, 1, none⟩ = some (.int .i64 0) := (blk_cell Va 1).trans rfl
        have fa0 := blk_frozen Va 0
        have fa1 := blk_frozen Va 1
        have cq0 : wl.cell? ⟨sq, 0, none⟩ = some (.int .i64 0) := (blk_cell Vq 0).trans rfl
        have cq1 : wl.cell? ⟨sq, 1, none⟩ = some (.int .i64 0) := (blk_cell Vq 1).trans rfl
        have fq0 := blk_frozen Vq 0
        have fq1 := blk_frozen Vq 1
        have naq : sa ≠ sq := blk_ne Va Vq (by decide)
        have nqa := naq.symm
        go_wp2_with fail
        refine Shut.out hK _ _ hS (fun _ => ?_)
        clear hK K
        try simp only [Act.put, List.setIfInBounds_toArray, List.set_cons_zero, List.set_cons_succ]
        refine wpAnyH_take (i := 12) (oi := ⟨some 17, .move (.tmp 29), 61, "ref.go:89", #[⟨11, .data⟩], none⟩) (v := ?_) rfl (by kernel_rfl) (by kernel_rfl) (by kernel_rfl) (fun _ _ _ h => h) (Or.inl ⟨by rfl, ?_⟩) hS ?_
        rotate_left
        · intro wv _; go_simp; try with_reducible rfl
        try simp only [Act.put, List.setIfInBounds_toArray, List.set_cons_zero, List.set_cons_succ]
        refine wpAnyH_take (i := 13) (oi := ⟨some 30, .extract (.tmp 17) 0, 24, "ref.go:89", #[⟨12, .data⟩], none⟩) (v := ?_) rfl (by kernel_rfl) (by kernel_rfl) (by kernel_rfl) (fun _ _ _ h => h) (Or.inl ⟨by rfl, ?_⟩) hS ?_
        rotate_left
        · intro wv _; go_simp; try with_reducible rfl
        try simp only [Act.put, List.setIfInBounds_toArray, List.set_cons_zero, List.set_cons_succ]
        refine wpAnyH_take (i := 14) (oi := ⟨some 31, .extract (.tmp 17) 1, 26, "ref.go:89", #[⟨12, .data⟩, ⟨17, .gcOnly .lateStores⟩], none⟩) (v := ?_) rfl (by kernel_rfl) (by kernel_rfl) (by kernel_rfl) (fun _ _ _ h => h) (Or.inl ⟨by rfl, ?_⟩) hS ?_
        rotate_left
        · intro wv _; go_simp; try with_reducible rfl
        try simp only [Act.put, List.setIfInBounds_toArray, List.set_cons_zero, List.set_cons_succ]
        refine wpAnyH_ready (rs := [17]) (by kernel_rfl) (by simp) (AllReadyH.cons (o := ⟨none, .store 24 (.tmp 10) (.tmp 30), 0, "ref.go:89", #[⟨15, .data⟩, ⟨13, .data⟩, ⟨11, .chain⟩, ⟨0, .phase⟩, ⟨1, .phase⟩, ⟨2, .phase⟩, ⟨3, .phase⟩, ⟨4, .phase⟩, ⟨5, .phase⟩, ⟨6, .phase⟩, ⟨7, .phase⟩, ⟨8, .phase⟩, ⟨9, .phase⟩, ⟨10, .phase⟩, ⟨11, .phase⟩, ⟨12, .phase⟩, ⟨13, .phase⟩, ⟨14, .textOnly .lateStores⟩, ⟨15, .phase⟩, ⟨16, .phase⟩], none⟩) rfl (fun K hK => ?_) AllReadyH.nil)
        go_simp
        replace RR := own_pair RR Va (by decide) (.slice B2 m2 d2) (.int .i64 fr)
        replace Va := blk_pair Va (.slice B2 m2 d2) (.int .i64 fr)
        replace Vq := keep_pair Vq nqa (.slice B2 m2 d2) (.int .i64 fr)
        replace HS := bel_pair HS gea (.slice B2 m2 d2) (.int .i64 fr)
        clear ca0 ca1 cq0 cq1 fa0 fa1 fq0 fq1
        generalize (wl.setCell ⟨sa, 0, none⟩ (.slice B2 m2 d2)).setCell ⟨sa, 1, none⟩ (.int .i64 fr) = x4 at *
        replace hS := HS
        have cq0 : x4.cell? ⟨sq, 0, none⟩ = some (.int .i64 0) := (blk_cell Vq 0).trans rfl
        have cq1 : x4.cell? ⟨sq, 1, none⟩ = some (.int .i64 0) := (blk_cell Vq 1).trans rfl
        have fq0 := blk_frozen Vq 0
        have fq1 := blk_frozen Vq 1
        refine Shut.out hK _ _ hS (fun _ => ?_)
        clear hK K
        try simp only [Act.put, List.setIfInBounds_toArray, List.set_cons_zero, List.set_cons_succ]
        refine wpAnyH_ready (rs := [18]) (by kernel_rfl) (by simp) (AllReadyH.cons (o := ⟨none, .store 26 (.tmp 11) (.tmp 31), 0, "ref.go:89", #[⟨16, .data⟩, ⟨14, .data⟩, ⟨17, .chain⟩, ⟨0, .phase⟩, ⟨1, .phase⟩, ⟨2, .phase⟩, ⟨3, .phase⟩, ⟨4, .phase⟩, ⟨5, .phase⟩, ⟨6, .phase⟩, ⟨7, .phase⟩, ⟨8, .phase⟩, ⟨9, .phase⟩, ⟨10, .phase⟩, ⟨11, .phase⟩, ⟨12, .phase⟩, ⟨13, .phase⟩, ⟨14, .phase⟩, ⟨15, .phase⟩, ⟨16, .phase⟩, ⟨17, .phase⟩], none⟩) rfl (fun K hK => ?_) AllReadyH.nil)
        go_simp
        replace RR := own_pair RR Vq (by decide) (.int .i64 (laidQ (butL pl k)).1) (.int .i64 (laidQ (butL pl k)).2)
        replace Vq := blk_pair Vq (.int .i64 (laidQ (butL pl k)).1) (.int .i64 (laidQ (butL pl k)).2)
        replace Va := keep_pair Va naq (.int .i64 (laidQ (butL pl k)).1) (.int .i64 (laidQ (butL pl k)).2)
        replace HS := bel_pair HS geq (.int .i64 (laidQ (butL pl k)).1) (.int .i64 (laidQ (butL pl k)).2)
        clear cq0 cq1 fq0 fq1
        generalize (x4.setCell ⟨sq, 0, none⟩ (.int .i64 (laidQ (butL pl k)).1)).setCell ⟨sq, 1, none⟩ (.int .i64 (laidQ (butL pl k)).2) = x5 at *
        replace hS := HS
        refine Shut.out hK _ _ hS (fun _ => ?_)
        clear hK K
        try simp only [Act.put, List.setIfInBounds_toArray, List.set_cons_zero, List.set_cons_succ]
        refine wpAnyH_done (by kernel_rfl) ?_ _
        refine NoPanic.normal ?_
        go_wp2_with fail
        go_meet
        exact ⟨sa, sq, m2, d2, B2, rfl, rfl, Lib.hid Va, Lib.hid Vq, Lib.hid RR, Lib.hid HS, gea, geq⟩
      ·
       go_simp
       have HSZ : z ≤ x2.heap.size := HZ.out _ HS
       have bd : Below x2.heap.size x2 (x2.alloc (.cells #[.slice none 0 0, .int .i64 0] 24)) := (Below.refl _ _).alloc (Nat.le_refl _) _
       replace HS := HS.trans (bd.mono HSZ)
       replace Vq := blk_below Vq bd (blk_lt Vq)
       replace OL := own_below OL bd
       have Va : (x2.alloc (.cells #[.slice none 0 0, .int .i64 0] 24)).heap[x2.heap.size]? = some (.cells #[.slice none 0 0, .int .i64 0] 24) := heap_alloc_new _ _
       have gea : z ≤ x2.heap.size := HSZ
       clear bd HSZ
       generalize x2.alloc (.cells #[.slice none 0 0, .int .i64 0] 24) = x3 at *
       generalize hsa : x2.heap.size = sa at *
       replace hS := HS.drew
       go_wp2_with fail
       refine Shut.out hK _ _ hS (fun _ => ?_)
       clear hK K
       try simp only [Act.put, List.setIfInBounds_toArray, List.set_cons_zero, List.set_cons_succ]
       refine wpAnyH_ready (rs := [5]) (by kernel_rfl) (by simp) (AllReadyH.cons (o := ⟨some 23, .call { callee := .builtin .append, args := #[.tmp 19, .tmp 22], argTypes := #[37, 37] }, 37, "ref.go:89", #[⟨1, .data⟩, ⟨4, .data⟩], none⟩) rfl (fun K hK => ?_) AllReadyH.nil)
       have bdr : Below x3.heap.size x3 x3.drew := (Below.refl _ _).drew
       replace OL := own_below OL bdr
       replace Vq : x3.drew.heap[_]? = _ := Vq
       replace Va : x3.drew.heap[_]? = _ := Va
       replace HS := HS.drew
       clear bdr
       obtain ⟨A5, c5, u5_, hap5, own5, gr5⟩ := app_ints x3.drew z _ (0) _ OL Ch (k) ch _ (IH.out.below (BZ.out _ HS)) (by omega) (HZ.out _ HS)
       rw [Nat.zero_add] at hap5 own5
       replace Vq := keep_grown Vq gr5 (row_int OL) (by decide)
       replace Va := keep_grown Va gr5 (row_int OL) (by decide)
       replace HS := HS.grown gr5 (HZ.out _ HS) (fun j hj => (OL.lt j hj).1)
       clear gr5 OL
       have OL := own5
       clear own5
       refine op_app_run7 (by rfl) rfl rfl rfl hap5 ?_
       clear hap5
       replace hS := HS
       refine Shut.out hK _ _ hS (fun _ => ?_)
       clear hK K
       try simp only [Act.put, List.setIfInBounds_toArray, List.set_cons_zero, List.set_cons_succ]
       refine wpAnyH_ready (rs := [10]) (by kernel_rfl) (by simp) (AllReadyH.cons (o := ⟨some 28, .call { callee := .builtin .append, args := #[.tmp 23, .tmp 27], argTypes := #[37, 37] }, 37, "ref.go:89", #[⟨5, .data⟩, ⟨9, .data⟩, ⟨5, .chain⟩], none⟩) rfl (fun K hK => ?_) AllReadyH.nil)
       obtain ⟨A6, c6, u6_, hap6, own6, gr6⟩ := app_ints u5_ z _ (k) _ OL Ct (m - (k + 1)) ct _ (IT.out.below (BZ.out _ HS)) (by omega) (HZ.out _ HS)
       rw [hN.out] at hap6 own6
       replace Vq := keep_grown Vq gr6 (row_int OL) (by decide)
       replace Va := keep_grown Va gr6 (row_int OL) (by decide)
       replace HS := HS.grown gr6 (HZ.out _ HS) (fun j hj => (OL.lt j hj).1)
       clear gr6 OL
       have OL := own6
       clear own6
       refine op_app_run7 (by rfl) rfl rfl rfl hap6 ?_
       clear hap6
       replace hS := HS
       refine Shut.out hK _ _ hS (fun _ => ?_)
       clear hK K
       try simp only [Act.put, List.setIfInBounds_toArray, List.set_cons_zero, List.set_cons_succ]
       refine wpAnyH_ready (rs := [11]) (by kernel_rfl) (by simp) (AllReadyH.cons (o := ⟨some 29, .call { callee := .value (.func 36), args := #[.tmp 18, .tmp 28], argTypes := #[24, 37] }, 61, "ref.go:89", #[⟨0, .data⟩, ⟨10, .data⟩, ⟨10, .chain⟩], none⟩) rfl (fun K hK => ?_) AllReadyH.nil)
       go_simp
       obtain ⟨_, _, he, hi6⟩ := Es.of_own OL (intC_one _)
       injection he with he1 he2 he3; subst he1; subst he3
       refine (LDH.out A6 _ c6 u6_ ((FR.out.step (BZ.out _ HS)).es RX.out) (show Is u6_ A6 N c6 (butL pl k) from hi6)).mono ?_
       rintro e wl ⟨B2, m2, d2, rfl, hrs, hb⟩
       replace Vq := blk_below Vq hb (blk_lt Vq)
       replace Va := blk_below Va hb (blk_lt Va)
       have RR := own_base hrs (show q + 4 ≤ u6_.heap.size from Nat.le_trans hqW (HZ.out _ HS))
       replace HS := HS.trans (hb.mono (HZ.out _ HS))
       clear hb hrs hi6 OL
       replace hS := HS
       have ca0 : wl.cell? ⟨sa, 0, none⟩ = some (.slice none 0 0) := (blk_cell Va 0).trans rfl
       have ca1 : wl.cell? ⟨sa, 1, none⟩ = some (.int .i64 0) := (blk_cell Va 1).trans rfl
       have fa0 := blk_frozen Va 0
       have fa1 := blk_frozen Va 1
       have cq0 : wl.cell? ⟨sq, 0, none⟩ = some (.int .i64 0) := (blk_cell Vq 0).trans rfl
       have cq1 : wl.cell? ⟨sq, 1, none⟩ = some (.int .i64 0) := (blk_cell Vq 1).trans rfl
       have fq0 := blk_frozen Vq 0
       have fq1 := blk_frozen Vq 1
       have naq : sa ≠ sq := blk_ne Va Vq (by decide)
       have nqa := naq.symm
       go_wp2_with fail
       refine Shut.out hK _ _ hS (fun _ => ?_)
       clear hK K
       try simp only [Act.put, List.setIfInBounds_toArray, List.set_cons_zero, List.set_cons_succ]
       refine wpAnyH_take (i := 12) (oi := ⟨some 17, .move (.tmp 29), 61, "ref.go:89", #[⟨11, .data⟩], none⟩) (v := ?_) rfl (by kernel_rfl) (by kernel_rfl) (by kernel_rfl) (fun _ _ _ h => h) (Or.inl ⟨by rfl, ?_⟩) hS ?_
       rotate_left
       · intro wv _; go_simp; try with_reducible rfl
       try simp only [Act.put, List.setIfInBounds_toArray, List.set_cons_zero, List.set_cons_succ]
       refine wpAnyH_take (i := 13) (oi := ⟨some 30, .extract (.tmp 17) 0, 24, "ref.go:89", #[⟨12, .data⟩], none⟩) (v := ?_) rfl (by kernel_rfl) (by kernel_rfl) (by kernel_rfl) (fun _ _ _ h => h) (Or.inl ⟨by rfl, ?_⟩) hS ?_
       rotate_left
       · intro wv _; go_simp; try with_reducible rfl
       try simp only [Act.put, List.setIfInBounds_toArray, List.set_cons_zero, List.set_cons_succ]
       refine wpAnyH_take (i := 14) (oi := ⟨some 31, .extract (.tmp 17) 1, 26, "ref.go:89", #[⟨12, .data⟩, ⟨17, .gcOnly .lateStores⟩], none⟩) (v := ?_) rfl (by kernel_rfl) (by kernel_rfl) (by kernel_rfl) (fun _ _ _ h => h) (Or.inl ⟨by rfl, ?_⟩) hS ?_
       rotate_left
       · intro wv _; go_simp; try with_reducible rfl
       try simp only [Act.put, List.setIfInBounds_toArray, List.set_cons_zero, List.set_cons_succ]
       refine wpAnyH_ready (rs := [17]) (by kernel_rfl) (by simp) (AllReadyH.cons (o := ⟨none, .store 24 (.tmp 10) (.tmp 30), 0, "ref.go:89", #[⟨15, .data⟩, ⟨13, .data⟩, ⟨11, .chain⟩, ⟨0, .phase⟩, ⟨1, .phase⟩, ⟨2, .phase⟩, ⟨3, .phase⟩, ⟨4, .phase⟩, ⟨5, .phase⟩, ⟨6, .phase⟩, ⟨7, .phase⟩, ⟨8, .phase⟩, ⟨9, .phase⟩, ⟨10, .phase⟩, ⟨11, .phase⟩, ⟨12, .phase⟩, ⟨13, .phase⟩, ⟨14, .textOnly .lateStores⟩, ⟨15, .phase⟩, ⟨16, .phase⟩], none⟩) rfl (fun K hK => ?_) AllReadyH.nil)
       go_simp
       replace RR := own_pair RR Va (by decide) (.slice B2 m2 d2) (.int .i64 fr)
       replace Va := blk_pair Va (.slice B2 m2 d2) (.int .i64 fr)
       replace Vq := keep_pair Vq nqa (.slice B2 m2 d2) (.int .i64 fr)
       replace HS := bel_pair HS gea (.slice B2 m2 d2) (.int .i64 fr)
       clear ca0 ca1 cq0 cq1 fa0 fa1 fq0 fq1
       generalize (wl.setCell ⟨sa, 0, none⟩ (.slice B2 m2 d2)).setCell ⟨sa, 1, none⟩ (.int .i64 fr) = x4 at *
       replace hS := HS
       have cq0 : x4.cell? ⟨sq, 0, none⟩ = some (.int .i64 0) := (blk_cell Vq 0).trans rfl
       have cq1 : x4.cell? ⟨sq, 1, none⟩ = some (.int .i64 0) := (blk_cell Vq 1).trans rfl
       have fq0 := blk_frozen Vq 0
       have fq1 := blk_frozen Vq 1
       refine Shut.out hK _ _ hS (fun _ => ?_)
       clear hK K
       try simp only [Act.put, List.setIfInBounds_toArray, List.set_cons_zero, List.set_cons_succ]
       refine wpAnyH_ready (rs := [18]) (by kernel_rfl) (by simp) (AllReadyH.cons (o := ⟨none, .store 26 (.tmp 11) (.tmp 31), 0, "ref.go:89", #[⟨16, .data⟩, ⟨14, .data⟩, ⟨17, .chain⟩, ⟨0, .phase⟩, ⟨1, .phase⟩, ⟨2, .phase⟩, ⟨3, .phase⟩, ⟨4, .phase⟩, ⟨5, .phase⟩, ⟨6, .phase⟩, ⟨7, .phase⟩, ⟨8, .phase⟩, ⟨9, .phase⟩, ⟨10, .phase⟩, ⟨11, .phase⟩, ⟨12, .phase⟩, ⟨13, .phase⟩, ⟨14, .phase⟩, ⟨15, .phase⟩, ⟨16, .phase⟩, ⟨17, .phase⟩], none⟩) rfl (fun K hK => ?_) AllReadyH.nil)
       go_simp
       replace RR := own_pair RR Vq (by decide) (.int .i64 (laidQ (butL pl k)).1) (.int .i64 (laidQ (butL pl k)).2)
       replace Vq := blk_pair Vq (.int .i64 (laidQ (butL pl k)).1) (.int .i64 (laidQ (butL pl k)).2)
       replace Va := keep_pair Va naq (.int .i64 (laidQ (butL pl k)).1) (.int .i64 (laidQ (butL pl k)).2)
       replace HS := bel_pair HS geq (.int .i64 (laidQ (butL pl k)).1) (.int .i64 (laidQ (butL pl k)).2)
       clear cq0 cq1 fq0 fq1
       generalize (x4.setCell ⟨sq, 0, none⟩ (.int .i64 (laidQ (butL pl k)).1)).setCell ⟨sq, 1, none⟩ (.int .i64 (laidQ (butL pl k)).2) = x5 at *
       replace hS := HS
       refine Shut.out hK _ _ hS (fun _ => ?_)
       clear hK K
       try simp only [Act.put, List.setIfInBounds_toArray, List.set_cons_zero, List.set_cons_succ]
       refine wpAnyH_done (by kernel_rfl) ?_ _
       refine NoPanic.normal ?_
       go_wp2_with fail
       go_meet
       exact ⟨sa, sq, m2, d2, B2, rfl, rfl, Lib.hid Va, Lib.hid Vq, Lib.hid RR, Lib.hid HS, gea, geq⟩
    ·
     go_simp
     have HS : Below z w5 w5 := Below.refl _ _
     have HSZ : z ≤ z := Nat.le_refl _
     have bd : Below z w5 (w5.alloc (.cells #[.slice none 0 0, .int .i64 0] 24)) := by have h := (Below.refl w5.heap.size w5).alloc (Nat.le_refl _) (.cells #[.slice none 0 0, .int .i64 0] 24); rwa [hz] at h
     replace HS := HS.trans (bd.mono HSZ)
     have Va : (w5.alloc (.cells #[.slice none 0 0, .int .i64 0] 24)).heap[z]? = some (.cells #[.slice none 0 0, .int .i64 0] 24) := by have h := heap_alloc_new w5 (.cells #[.slice none 0 0, .int .i64 0] 24); rw [hz] at h; exact h
     have gea : z ≤ z := HSZ
     clear bd HSZ
     generalize w5.alloc (.cells #[.slice none 0 0, .int .i64 0] 24) = x1 at *
     replace hS := HS.drew
     go_wp2_with fail
     refine Shut.out hK _ _ hS (fun _ => ?_)
     clear hK K
     try simp only [Act.put, List.setIfInBounds_toArray, List.set_cons_zero, List.set_cons_succ]
     refine wpAnyH_ready (rs := [1, 16]) (by kernel_rfl) (by simp) (AllReadyH.cons (o := ⟨some 19, .buildSlice 37 0 #[], 37, "ref.go:89", #[], none⟩) rfl (fun K hK => ?_) (AllReadyH.cons (o := ⟨some 11, .alloc 26, 0, "ref.go:89", #[], none⟩) rfl (fun K hK => ?_) AllReadyH.nil))
     ·
      go_simp
      have HSZ : z ≤ x1.heap.size := HZ.out _ HS
      have bd : Below x1.heap.size x1 (x1.alloc (.cells #[] 3)) := (Below.refl _ _).alloc (Nat.le_refl _) _
      replace HS := HS.trans (bd.mono HSZ)
      replace Va := blk_below Va bd (blk_lt Va)
      have OL : (x1.alloc (.cells #[] 3)).ownsRow z 3 1 (.slice (some ⟨x1.heap.size, 0, none⟩) 0 0) 0 (intC []) := lit_ints x1 HSZ [] (by simp) rfl
      clear bd HSZ
      generalize x1.alloc (.cells #[] 3) = x2 at *
      generalize hsl : x1.heap.size = sl at *
      replace hS := HS.drew
      refine Shut.out hK _ _ hS (fun _ => ?_)
      clear hK K
      try simp only [Act.put, List.setIfInBounds_toArray, List.set_cons_zero, List.set_cons_succ]
      refine wpAnyH_ready (rs := [5, 16]) (by kernel_rfl) (by simp) (AllReadyH.cons (o := ⟨some 23, .call { callee := .builtin .append, args := #[.tmp 19, .tmp 22], argTypes := #[37, 37] }, 37, "ref.go:89", #[⟨1, .data⟩, ⟨4, .data⟩], none⟩) rfl (fun K hK => ?_) (AllReadyH.cons (o := ⟨some 11, .alloc 26, 0, "ref.go:89", #[], none⟩) rfl (fun K hK => ?_) AllReadyH.nil))
      ·
       have bdr : Below x2.heap.size x2 x2.drew := (Below.refl _ _).drew
       replace OL := own_below OL bdr
       replace Va : x2.drew.heap[_]? = _ := Va
       replace HS := HS.drew
       clear bdr
       obtain ⟨A5, c5, u5_, hap5, own5, gr5⟩ := app_ints x2.drew z _ (0) _ OL Ch (k) ch _ (IH.out.below (BZ.out _ HS)) (by omega) (HZ.out _ HS)
       rw [Nat.zero_add] at hap5 own5
       replace Va := keep_grown Va gr5 (row_int OL) (by decide)
       replace HS := HS.grown gr5 (HZ.out _ HS) (fun j hj => (OL.lt j hj).1)
       clear gr5 OL
       have OL := own5
       clear own5
       refine op_app_run7 (by rfl) rfl rfl rfl hap5 ?_
       clear hap5
       replace hS := HS
       refine Shut.out hK _ _ hS (fun _ => ?_)
       clear hK K
       try simp only [Act.put, List.setIfInBounds_toArray, List.set_cons_zero, List.set_cons_succ]
       refine wpAnyH_ready (rs := [10, 16]) (by kernel_rfl) (by simp) (AllReadyH.cons (o := ⟨some 28, .call { callee := .builtin .append, args := #[.tmp 23, .tmp 27], argTypes := #[37, 37] }, 37, "ref.go:89", #[⟨5, .data⟩, ⟨9, .data⟩, ⟨5, .chain⟩], none⟩) rfl (fun K hK => ?_) (AllReadyH.cons (o := ⟨some 11, .alloc 26, 0, "ref.go:89", #[], none⟩) rfl (fun K hK => ?_) AllReadyH.nil))
       ·
        obtain ⟨A6, c6, u6_, hap6, own6, gr6⟩ := app_ints u5_ z _ (k) _ OL Ct (m - (k + 1)) ct _ (IT.out.below (BZ.out _ HS)) (by omega) (HZ.out _ HS)
        rw [hN.out] at hap6 own6
        replace Va := keep_grown Va gr6 (row_int OL) (by decide)
        replace HS := HS.grown gr6 (HZ.out _ HS) (fun j hj => (OL.lt j hj).1)
        clear gr6 OL
        have OL := own6
        clear own6
        refine op_app_run7 (by rfl) rfl rfl rfl hap6 ?_
        clear hap6
        replace hS := HS
        refine Shut.out hK _ _ hS (fun _ => ?_)
        clear hK K
        try simp only [Act.put, List.setIfInBounds_toArray, List.set_cons_zero, List.set_cons_succ]
        refine wpAnyH_ready (rs := [11, 16]) (by kernel_rfl) (by simp) (AllReadyH.cons (o := ⟨some 29, .call { callee := .value (.func 36), args := #[.tmp 18, .tmp 28], argTypes := #[24, 37] }, 61, "ref.go:89", #[⟨0, .data⟩, ⟨10, .data⟩, ⟨10, .chain⟩], none⟩) rfl (fun K hK => ?_) (AllReadyH.cons (o := ⟨some 11, .alloc 26, 0, "ref.go:89", #[], none⟩) rfl (fun K hK => ?_) AllReadyH.nil))
        ·
         go_simp
         obtain ⟨_, _, he, hi6⟩ := Es.of_own OL (intC_one _)
         injection he with he1 he2 he3; subst he1; subst he3
         refine (LDH.out A6 _ c6 u6_ ((FR.out.step (BZ.out _ HS)).es RX.out) (show Is u6_ A6 N c6 (butL pl k) from hi6)).mono ?_
         rintro e wl ⟨B2, m2, d2, rfl, hrs, hb⟩
         replace Va := blk_below Va hb (blk_lt Va)
         have RR := own_base hrs (show q + 4 ≤ u6_.heap.size from Nat.le_trans hqW (HZ.out _ HS))
         replace HS := HS.trans (hb.mono (HZ.out _ HS))
         clear hb hrs hi6 OL
         replace hS := HS
         go_wp2_with fail
         refine Shut.out hK _ _ hS (fun _ => ?_)
         clear hK K
         try simp only [Act.put, List.setIfInBounds_toArray, List.set_cons_zero, List.set_cons_succ]
         refine wpAnyH_take (i := 12) (oi := ⟨some 17, .move (.tmp 29), 61, "ref.go:89", #[⟨11, .data⟩], none⟩) (v := ?_) rfl (by kernel_rfl) (by kernel_rfl) (by kernel_rfl) (fun _ _ _ h => h) (Or.inl ⟨by rfl, ?_⟩) hS ?_
         rotate_left
         · intro wv _; go_simp; try with_reducible rfl
         try simp only [Act.put, List.setIfInBounds_toArray, List.set_cons_zero, List.set_cons_succ]
         refine wpAnyH_take (i := 13) (oi := ⟨some 30, .extract (.tmp 17) 0, 24, "ref.go:89", #[⟨12, .data⟩], none⟩) (v := ?_) rfl (by kernel_rfl) (by kernel_rfl) (by kernel_rfl) (fun _ _ _ h => h) (Or.inl ⟨by rfl, ?_⟩) hS ?_
         rotate_left
         · intro wv _; go_simp; try with_reducible rfl
         try simp only [Act.put, List.setIfInBounds_toArray, List.set_cons_zero, List.set_cons_succ]
         refine wpAnyH_take (i := 14) (oi := ⟨some 31, .extract (.tmp 17) 1, 26, "ref.go:89", #[⟨12, .data⟩, ⟨17, .gcOnly .lateStores⟩], none⟩) (v := ?_) rfl (by kernel_rfl) (by kernel_rfl) (by kernel_rfl) (fun _ _ _ h => h) (Or.inl ⟨by rfl, ?_⟩) hS ?_
         rotate_left
         · intro wv _; go_simp; try with_reducible rfl
         try simp only [Act.put, List.setIfInBounds_toArray, List.set_cons_zero, List.set_cons_succ]
         refine wpAnyH_ready (rs := [16]) (by kernel_rfl) (by simp) (AllReadyH.cons (o := ⟨some 11, .alloc 26, 0, "ref.go:89", #[], none⟩) rfl (fun K hK => ?_) AllReadyH.nil)
         go_simp
         have HSZ : z ≤ wl.heap.size := HZ.out _ HS
         have bd : Below wl.heap.size wl (wl.alloc (.cells #[.int .i64 0, .int .i64 0] 26)) := (Below.refl _ _).alloc (Nat.le_refl _) _
         replace HS := HS.trans (bd.mono HSZ)
         replace Va := blk_below Va bd (blk_lt Va)
         replace RR := own_below RR bd
         have Vq : (wl.alloc (.cells #[.int .i64 0, .int .i64 0] 26)).heap[wl.heap.size]? = some (.cells #[.int .i64 0, .int .i64 0] 26) := heap_alloc_new _ _
         have geq : z ≤ wl.heap.size := HSZ
         clear bd HSZ
         generalize wl.alloc (.cells #[.int .i64 0, .int .i64 0] 26) = x3 at *
         generalize hsq : wl.heap.size = sq at *
         replace hS := HS
         have ca0 : x3.cell? ⟨z, 0, none⟩ = some (.slice none 0 0) := (blk_cell Va 0).trans rfl
         have ca1 : x3.cell? ⟨z, 1, none⟩ = some (.int .i64 0) := (blk_cell Va 1).trans rfl
         have fa0 := blk_frozen Va 0
         have fa1 := blk_frozen Va 1
         have cq0 : x3.cell? ⟨sq, 0, none⟩ = some (.int .i64 0) := (blk_cell Vq 0).trans rfl
         have cq1 : x3.cell? ⟨sq, 1, none⟩ = some (.int .i64 0) := (blk_cell Vq 1).trans rfl
         have fq0 := blk_frozen Vq 0
         have fq1 := blk_frozen Vq 1
         have naq : z ≠ sq := blk_ne Va Vq (by decide)
         have nqa := naq.symm
         go_wp2_with fail
         refine Shut.out hK _ _ hS (fun _ => ?_)
         clear hK K
         try simp only [Act.put, List.setIfInBounds_toArray, List.set_cons_zero, List.set_cons_succ]
         refine wpAnyH_ready (rs := [17]) (by kernel_rfl) (by simp) (AllReadyH.cons (o := ⟨none, .store 24 (.tmp 10) (.tmp 30), 0, "ref.go:89", #[⟨15, .data⟩, ⟨13, .data⟩, ⟨11, .chain⟩, ⟨0, .phase⟩, ⟨1, .phase⟩, ⟨2, .phase⟩, ⟨3, .phase⟩, ⟨4, .phase⟩, ⟨5, .phase⟩, ⟨6, .phase⟩, ⟨7, .phase⟩, ⟨8, .phase⟩, ⟨9, .phase⟩, ⟨10, .phase⟩, ⟨11, .phase⟩, ⟨12, .phase⟩, ⟨13, .phase⟩, ⟨14, .textOnly .lateStores⟩, ⟨15, .phase⟩, ⟨16, .phase⟩], none⟩) rfl (fun K hK => ?_) AllReadyH.nil)
         go_simp
         replace RR := own_pair RR Va (by decide) (.slice B2 m2 d2) (.int .i64 fr)
         replace Va := blk_pair Va (.slice B2 m2 d2) (.int .i64 fr)
         replace Vq := keep_pair Vq nqa (.slice B2 m2 d2) (.int .i64 fr)
         replace HS := bel_pair HS gea (.slice B2 m2 d2) (.int .i64 fr)
         clear ca0 ca1 cq0 cq1 fa0 fa1 fq0 fq1
         generalize (x3.setCell ⟨z, 0, none⟩ (.slice B2 m2 d2)).setCell ⟨z, 1, none⟩ (.int .i64 fr) = x4 at *
         replace hS := HS
         have cq0 : x4.cell? ⟨sq, 0, none⟩ = some (.int .i64 0) := (blk_cell Vq 0).trans rfl
         have cq1 : x4.cell? ⟨sq, 1, none⟩ = some (.int .i64 0) := (blk_cell Vq 1).trans rfl
         have fq0 := blk_frozen Vq 0
         have fq1 := blk_frozen Vq 1
         refine Shut.out hK _ _ hS (fun _ => ?_)
         clear hK K
         try simp only [Act.put, List.setIfInBounds_toArray, List.set_cons_zero, List.set_cons_succ]
         refine wpAnyH_ready (rs := [18]) (by kernel_rfl) (by simp) (AllReadyH.cons (o := ⟨none, .store 26 (.tmp 11) (.tmp 31), 0, "ref.go:89", #[⟨16, .data⟩, ⟨14, .data⟩, ⟨17, .chain⟩, ⟨0, .phase⟩, ⟨1, .phase⟩, ⟨2, .phase⟩, ⟨3, .phase⟩, ⟨4, .phase⟩, ⟨5, .phase⟩, ⟨6, .phase⟩, ⟨7, .phase⟩, ⟨8, .phase⟩, ⟨9, .phase⟩, ⟨10, .phase⟩, ⟨11, .phase⟩, ⟨12, .phase⟩, ⟨13, .phase⟩, ⟨14, .phase⟩, ⟨15, .phase⟩, ⟨16, .phase⟩, ⟨17, .phase⟩], none⟩) rfl (fun K hK => ?_) AllReadyH.nil)
         go_simp
         replace RR := own_pair RR Vq (by decide) (.int .i64 (laidQ (butL pl k)).1) (.int .i64 (laidQ (butL pl k)).2)
         replace Vq := blk_pair Vq (.int .i64 (laidQ (butL pl k)).1) (.int .i64 (laidQ (butL pl k)).2)
         replace Va := keep_pair Va naq (.int .i64 (laidQ (butL pl k)).1) (.int .i64 (laidQ (butL pl k)).2)
         replace HS := bel_pair HS geq (.int .i64 (laidQ (butL pl k)).1) (.int .i64 (laidQ (butL pl k)).2)
         clear cq0 cq1 fq0 fq1
         generalize (x4.setCell ⟨sq, 0, none⟩ (.int .i64 (laidQ (butL pl k)).1)).setCell ⟨sq, 1, none⟩ (.int .i64 (laidQ (butL pl k)).2) = x5 at *
         replace hS := HS
         refine Shut.out hK _ _ hS (fun _ => ?_)
         clear hK K
         try simp only [Act.put, List.setIfInBounds_toArray, List.set_cons_zero, List.set_cons_succ]
         refine wpAnyH_done (by kernel_rfl) ?_ _
         refine NoPanic.normal ?_
         go_wp2_with fail
         go_meet
         exact ⟨z, sq, m2, d2, B2, rfl, rfl, Lib.hid Va, Lib.hid Vq, Lib.hid RR, Lib.hid HS, gea, geq⟩
        ·
         go_simp
         have HSZ : z ≤ u6_.heap.size := HZ.out _ HS
         have bd : Below u6_.heap.size u6_ (u6_.alloc (.cells #[.int .i64 0, .int .i64 0] 26)) := (Below.refl _ _).alloc (Nat.le_refl _) _
         replace HS := HS.trans (bd.mono HSZ)
         replace Va := blk_below Va bd (blk_lt Va)
         replace OL := own_below OL bd
         have Vq : (u6_.alloc (.cells #[.int .i64 0, .int .i64 0] 26)).heap[u6_.heap.size]? = some (.cells #[.int .i64 0, .int .i64 0] 26) := heap_alloc_new _ _
         have geq : z ≤ u6_.heap.size := HSZ
         clear bd HSZ
         generalize u6_.alloc (.cells #[.int .i64 0, .int .i64 0] 26) = x3 at *
         generalize hsq : u6_.heap.size = sq at *
         replace hS := HS
         go_wp2_with fail
         refine Shut.out hK _ _ hS (fun _ => ?_)
         clear hK K
         try simp only [Act.put, List.setIfInBounds_toArray, List.set_cons_zero, List.set_cons_succ]
         refine wpAnyH_ready (rs := [11]) (by kernel_rfl) (by simp) (AllReadyH.cons (o := ⟨some 29, .call { callee := .value (.func 36), args := #[.tmp 18, .tmp 28], argTypes := #[24, 37] }, 61, "ref.go:89", #[⟨0, .data⟩, ⟨10, .data⟩, ⟨10, .chain⟩], none⟩) rfl (fun K hK => ?_) AllReadyH.nil)
         go_simp
         obtain ⟨_, _, he, hi6⟩ := Es.of_own OL (intC_one _)
         injection he with he1 he2 he3; subst he1; subst he3
         refine (LDH.out A6 _ c6 x3 ((FR.out.step (BZ.out _ HS)).es RX.out) (show Is x3 A6 N c6 (butL pl k) from hi6)).mono ?_
         rintro e wl ⟨B2, m2, d2, rfl, hrs, hb⟩
         replace Va := blk_below Va hb (blk_lt Va)
         replace Vq := blk_below Vq hb (blk_lt Vq)
         have RR := own_base hrs (show q + 4 ≤ x3.heap.size from Nat.le_trans hqW (HZ.out _ HS))
         replace HS := HS.trans (hb.mono (HZ.out _ HS))
         clear hb hrs hi6 OL
         replace hS := HS
         have ca0 : wl.cell? ⟨z, 0, none⟩ = some (.slice none 0 0) := (blk_cell Va 0).trans rfl
         have ca1 : wl.cell? ⟨z, 1, none⟩ = some (.int .i64 0) := (blk_cell Va 1).trans rfl
         have fa0 := blk_frozen Va 0
         have fa1 := blk_frozen Va 1
         have cq0 : wl.cell? ⟨sq, 0, none⟩ = some (.int .i64 0) := (blk_cell Vq 0).trans rfl
         have cq1 : wl.cell? ⟨sq, 1, none⟩ = some (.int .i64 0) := (blk_cell Vq 1).trans rfl
         have fq0 := blk_frozen Vq 0
         have fq1 := blk_frozen Vq 1
         have naq : z ≠ sq := blk_ne Va Vq (by decide)
         have nqa := naq.symm
         go_wp2_with fail
         refine Shut.out hK _ _ hS (fun _ => ?_)
         clear hK K
         try simp only [Act.put, List.setIfInBounds_toArray, List.set_cons_zero, List.set_cons_succ]
         refine wpAnyH_take (i := 12) (oi := ⟨some 17, .move (.tmp 29), 61, "ref.go:89", #[⟨11, .data⟩], none⟩) (v := ?_) rfl (by kernel_rfl) (by kernel_rfl) (by kernel_rfl) (fun _ _ _ h => h) (Or.inl ⟨by rfl, ?_⟩) hS ?_
         rotate_left
         · intro wv _; go_simp; try with_reducible rfl
         try simp only [Act.put, List.setIfInBounds_toArray, List.set_cons_zero, List.set_cons_succ]
         refine wpAnyH_take (i := 13) (oi := ⟨some 30, .extract (.tmp 17) 0, 24, "ref.go:89", #[⟨12, .data⟩], none⟩) (v := ?_) rfl (by kernel_rfl) (by kernel_rfl) (by kernel_rfl) (fun _ _ _ h => h) (Or.inl ⟨by rfl, ?_⟩) hS ?_
         rotate_left
         · intro wv _; go_simp; try with_reducible rfl
         try simp only [Act.put, List.setIfInBounds_toArray, List.set_cons_zero, List.set_cons_succ]
         refine wpAnyH_take (i := 14) (oi := ⟨some 31, .extract (.tmp 17) 1, 26, "ref.go:89", #[⟨12, .data⟩, ⟨17, .gcOnly .lateStores⟩], none⟩) (v := ?_) rfl (by kernel_rfl) (by kernel_rfl) (by kernel_rfl) (fun _ _ _ h => h) (Or.inl ⟨by rfl, ?_⟩) hS ?_
         rotate_left
         · intro wv _; go_simp; try with_reducible rfl
         try simp only [Act.put, List.setIfInBounds_toArray, List.set_cons_zero, List.set_cons_succ]
         refine wpAnyH_ready (rs := [17]) (by kernel_rfl) (by simp) (AllReadyH.cons (o := ⟨none, .store 24 (.tmp 10) (.tmp 30), 0, "ref.go:89", #[⟨15, .data⟩, ⟨13, .data⟩, ⟨11, .chain⟩, ⟨0, .phase⟩, ⟨1, .phase⟩, ⟨2, .phase⟩, ⟨3, .phase⟩, ⟨4, .phase⟩, ⟨5, .phase⟩, ⟨6, .phase⟩, ⟨7, .phase⟩, ⟨8, .phase⟩, ⟨9, .phase⟩, ⟨10, .phase⟩, ⟨11, .phase⟩, ⟨12, .phase⟩, ⟨13, .phase⟩, ⟨14, .textOnly .lateStores⟩, ⟨15, .phase⟩, ⟨16, .phase⟩], none⟩) rfl (fun K hK => ?_) AllReadyH.nil)
         go_simp
         replace RR := own_pair RR Va (by decide) (.slice B2 m2 d2) (.int .i64 fr)
         replace Va := blk_pair Va (.slice B2 m2 d2) (.int .i64 fr)
         replace Vq := keep_pair Vq nqa (.slice B2 m2 d2) (.int .i64 fr)
         replace HS := bel_pair HS gea (.slice B2 m2 d2) (.int .i64 fr)
         clear ca0 ca1 cq0 cq1 fa0 fa1 fq0 fq1
         generalize (wl.setCell ⟨z, 0, none⟩ (.slice B2 m2 d2)).setCell ⟨z, 1, none⟩ (.int .i64 fr) = x4 at *
         replace hS := HS
         have cq0 : x4.cell? ⟨sq, 0, none⟩ = some (.int .i64 0) := (blk_cell Vq 0).trans rfl
         have cq1 : x4.cell? ⟨sq, 1, none⟩ = some (.int .i64 0) := (blk_cell Vq 1).trans rfl
         have fq0 := blk_frozen Vq 0
         have fq1 := blk_frozen Vq 1
         refine Shut.out hK _ _ hS (fun _ => ?_)
         clear hK K
         try simp only [Act.put, List.setIfInBounds_toArray, List.set_cons_zero, List.set_cons_succ]
         refine wpAnyH_ready (rs := [18]) (by kernel_rfl) (by simp) (AllReadyH.cons (o := ⟨none, .store 26 (.tmp 11) (.tmp 31), 0, "ref.go:89", #[⟨16, .data⟩, ⟨14, .data⟩, ⟨17, .chain⟩, ⟨0, .phase⟩, ⟨1, .phase⟩, ⟨2, .phase⟩, ⟨3, .phase⟩, ⟨4, .phase⟩, ⟨5, .phase⟩, ⟨6, .phase⟩, ⟨7, .phase⟩, ⟨8, .phase⟩, ⟨9, .phase⟩, ⟨10, .phase⟩, ⟨11, .phase⟩, ⟨12, .phase⟩, ⟨13, .phase⟩, ⟨14, .phase⟩, ⟨15, .phase⟩, ⟨16, .phase⟩, ⟨17, .phase⟩], none⟩) rfl (fun K hK => ?_) AllReadyH.nil)
         go_simp
         replace RR := own_pair RR Vq (by decide) (.int .i64 (laidQ (butL pl k)).1) (.int .i64 (laidQ (butL pl k)).2)
         replace Vq := blk_pair Vq (.int .i64 (laidQ (butL pl k)).1) (.int .i64 (laidQ (butL pl k)).2)
         replace Va := keep_pair Va naq (.int .i64 (laidQ (butL pl k)).1) (.int .i64 (laidQ (butL pl k)).2)
         replace HS := bel_pair HS geq (.int .i64 (laidQ (butL pl k)).1) (.int .i64 (laidQ (butL pl k)).2)
         clear cq0 cq1 fq0 fq1
         generalize (x4.setCell ⟨sq, 0, none⟩ (.int .i64 (laidQ (butL pl k)).1)).setCell ⟨sq, 1, none⟩ (.int .i64 (laidQ (butL pl k)).2) = x5 at *
         replace hS := HS
         refine Shut.out hK _ _ hS (fun _ => ?_)
         clear hK K
         try simp only [Act.put, List.setIfInBounds_toArray, List.set_cons_zero, List.set_cons_succ]
         refine wpAnyH_done (by kernel_rfl) ?_ _
         refine NoPanic.normal ?_
         go_wp2_with fail
         go_meet
         exact ⟨z, sq, m2, d2, B2, rfl, rfl, Lib.hid Va, Lib.hid Vq, Lib.hid RR, Lib.hid HS, gea, geq⟩
       ·
        go_simp
        have HSZ : z ≤ u5_.heap.size := HZ.out _ HS
        have bd : Below u5_.heap.size u5_ (u5_.alloc (.cells #[.int .i64 0, .int .i64 0] 26)) := (Below.refl _ _).alloc (Nat.le_refl _) _
        replace HS := HS.trans (bd.mono HSZ)
        replace Va := blk_below Va bd (blk_lt Va)
        replace OL := own_below OL bd
        have Vq : (u5_.alloc (.cells #[.int .i64 0, .int .i64 0] 26)).heap[u5_.heap.size]? = some (.cells #[.int .i64 0, .int .i64 0] 26) := heap_alloc_new _ _
        have geq : z ≤ u5_.heap.size := HSZ
        clear bd HSZ
        generalize u5_.alloc (.cells #[.int .i64 0, .int .i64 0] 26) = x3 at *
        generalize hsq : u5_.heap.size = sq at *
        replace hS := HS
        go_wp2_with fail
        refine Shut.out hK _ _ hS (fun _ => ?_)
        clear hK K
        try simp only [Act.put, List.setIfInBounds_toArray, List.set_cons_zero, List.set_cons_succ]
        refine wpAnyH_ready (rs := [10]) (by kernel_rfl) (by simp) (AllReadyH.cons (o := ⟨some 28, .call { callee := .builtin .append, args := #[.tmp 23, .tmp 27], argTypes := #[37, 37] }, 37, "ref.go:89", #[⟨5, .data⟩, ⟨9, .data⟩, ⟨5, .chain⟩], none⟩) rfl (fun K hK => ?_) AllReadyH.nil)
        obtain ⟨A6, c6, u6_, hap6, own6, gr6⟩ := app_ints x3 z _ (k) _ OL Ct (m - (k + 1)) ct _ (IT.out.below (BZ.out _ HS)) (by omega) (HZ.out _ HS)
        rw [hN.out] at hap6 own6
        replace Va := keep_grown Va gr6 (row_int OL) (by decide)
        replace Vq := keep_grown Vq gr6 (row_int OL) (by decide)
        replace HS := HS.grown gr6 (HZ.out _ HS) (fun j hj => (OL.lt j hj).1)
        clear gr6 OL
        have OL := own6
        clear own6
        refine op_app_run7 (by rfl) rfl rfl rfl hap6 ?_
        clear hap6
        replace hS := HS
        refine Shut.out hK _ _ hS (fun _ => ?_)
        clear hK K
        try simp only [Act.put, List.setIfInBounds_toArray, List.set_cons_zero, List.set_cons_succ]
        refine wpAnyH_ready (rs := [11]) (by kernel_rfl) (by simp) (AllReadyH.cons (o := ⟨some 29, .call { callee := .value (.func 36), args := #[.tmp 18, .tmp 28], argTypes := #[24, 37] }, 61, "ref.go:89", #[⟨0, .data⟩, ⟨10, .data⟩, ⟨10, .chain⟩], none⟩) rfl (fun K hK => ?_) AllReadyH.nil)
        go_simp
        obtain ⟨_, _, he, hi6⟩ := Es.of_own OL (intC_one _)
        injection he with he1 he2 he3; subst he1; subst he3
        refine (LDH.out A6 _ c6 u6_ ((FR.out.step (BZ.out _ HS)).es RX.out) (show Is u6_ A6 N c6 (butL pl k) from hi6)).mono ?_
        rintro e wl ⟨B2, m2, d2, rfl, hrs, hb⟩
        replace Va := blk_below Va hb (blk_lt Va)
        replace Vq := blk_below Vq hb (blk_lt Vq)
        have RR := own_base hrs (show q + 4 ≤ u6_.heap.size from Nat.le_trans hqW (HZ.out _ HS))
        replace HS := HS.trans (hb.mono (HZ.out _ HS))
        clear hb hrs hi6 OL
        replace hS := HS
        have ca0 : wl.cell? ⟨z, 0, none⟩ = some (.slice none 0 0) := (blk_cell Va 0).trans rfl
        have ca1 : wl.cell? ⟨z, 1, none⟩ = some (.int .i64 0) := (blk_cell Va 1).trans rfl
        have fa0 := blk_frozen Va 0
        have fa1 := blk_frozen Va 1
        have cq0 : wl.cell? ⟨sq, 0, none⟩ = some (.int .i64 0) := (blk_cell Vq 0).trans rfl
        have cq1 : wl.cell? ⟨sq, 1, none⟩ = some (.int .i64 0) := (blk_cell Vq 1).trans rfl
        have fq0 := blk_frozen Vq 0
        have fq1 := blk_frozen Vq 1
        have naq : z ≠ sq := blk_ne Va Vq (by decide)
        have nqa := naq.symm
        go_wp2_with fail
        refine Shut.out hK _ _ hS (fun _ => ?_)
        clear hK K
        try simp only [Act.put, List.setIfInBounds_toArray, List.set_cons_zero, List.set_cons_succ]
        refine wpAnyH_take (i := 12) (oi := ⟨some 17, .move (.tmp 29), 61, "ref.go:89", #[⟨11, .data⟩], none⟩) (v := ?_) rfl (by kernel_rfl) (by kernel_rfl) (by kernel_rfl) (fun _ _ _ h => h) (Or.inl ⟨by rfl, ?_⟩) hS ?_
        rotate_left
        · intro wv _; go_simp; try with_reducible rfl
        try simp only [Act.put, List.setIfInBounds_toArray, List.set_cons_zero, List.set_cons_succ]
        refine wpAnyH_take (i := 13) (oi := ⟨some 30, .extract (.tmp 17) 0, 24, "ref.go:89", #[⟨12, .data⟩], none⟩) (v := ?_) rfl (by kernel_rfl) (by kernel_rfl) (by kernel_rfl) (fun _ _ _ h => h) (Or.inl ⟨by rfl, ?_⟩) hS ?_
        rotate_left
        · intro wv _; go_simp; try with_reducible rfl
        try simp only [Act.put, List.setIfInBounds_toArray, List.set_cons_zero, List.set_cons_succ]
        refine wpAnyH_take (i := 14) (oi := ⟨some 31, .extract (.tmp 17) 1, 26, "ref.go:89", #[⟨12, .data⟩, ⟨17, .gcOnly .lateStores⟩], none⟩) (v := ?_) rfl (by kernel_rfl) (by kernel_rfl) (by kernel_rfl) (fun _ _ _ h => h) (Or.inl ⟨by rfl, ?_⟩) hS ?_
        rotate_left
        · intro wv _; go_simp; try with_reducible rfl
        try simp only [Act.put, List.setIfInBounds_toArray, List.set_cons_zero, List.set_cons_succ]
        refine wpAnyH_ready (rs := [17]) (by kernel_rfl) (by simp) (AllReadyH.cons (o := ⟨none, .store 24 (.tmp 10) (.tmp 30), 0, "ref.go:89", #[⟨15, .data⟩, ⟨13, .data⟩, ⟨11, .chain⟩, ⟨0, .phase⟩, ⟨1, .phase⟩, ⟨2, .phase⟩, ⟨3, .phase⟩, ⟨4, .phase⟩, ⟨5, .phase⟩, ⟨6, .phase⟩, ⟨7, .phase⟩, ⟨8, .phase⟩, ⟨9, .phase⟩, ⟨10, .phase⟩, ⟨11, .phase⟩, ⟨12, .phase⟩, ⟨13, .phase⟩, ⟨14, .textOnly .lateStores⟩, ⟨15, .phase⟩, ⟨16, .phase⟩], none⟩) rfl (fun K hK => ?_) AllReadyH.nil)
        go_simp
        replace RR := own_pair RR Va (by decide) (.slice B2 m2 d2) (.int .i64 fr)
        replace Va := blk_pair Va (.slice B2 m2 d2) (.int .i64 fr)
        replace Vq := keep_pair Vq nqa (.slice B2 m2 d2) (.int .i64 fr)
        replace HS := bel_pair HS gea (.slice B2 m2 d2) (.int .i64 fr)
        clear ca0 ca1 cq0 cq1 fa0 fa1 fq0 fq1
        generalize (wl.setCell ⟨z, 0, none⟩ (.slice B2 m2 d2)).setCell ⟨z, 1, none⟩ (.int .i64 fr) = x4 at *
        replace hS := HS
        have cq0 : x4.cell? ⟨sq, 0, none⟩ = some (.int .i64 0) := (blk_cell Vq 0).trans rfl
        have cq1 : x4.cell? ⟨sq, 1, none⟩ = some (.int .i64 0) := (blk_cell Vq 1).trans rfl
        have fq0 := blk_frozen Vq 0
        have fq1 := blk_frozen Vq 1
        refine Shut.out hK _ _ hS (fun _ => ?_)
        clear hK K
        try simp only [Act.put, List.setIfInBounds_toArray, List.set_cons_zero, List.set_cons_succ]
        refine wpAnyH_ready (rs := [18]) (by kernel_rfl) (by simp) (AllReadyH.cons (o := ⟨none, .store 26 (.tmp 11) (.tmp 31), 0, "ref.go:89", #[⟨16, .data⟩, ⟨14, .data⟩, ⟨17, .chain⟩, ⟨0, .phase⟩, ⟨1, .phase⟩, ⟨2, .phase⟩, ⟨3, .phase⟩, ⟨4, .phase⟩, ⟨5, .phase⟩, ⟨6, .phase⟩, ⟨7, .phase⟩, ⟨8, .phase⟩, ⟨9, .phase⟩, ⟨10, .phase⟩, ⟨11, .phase⟩, ⟨12, .phase⟩, ⟨13, .phase⟩, ⟨14, .phase⟩, ⟨15, .phase⟩, ⟨16, .phase⟩, ⟨17, .phase⟩], none⟩) rfl (fun K hK => ?_) AllReadyH.nil)
        go_simp
        replace RR := own_pair RR Vq (by decide) (.int .i64 (laidQ (butL pl k)).1) (.int .i64 (laidQ (butL pl k)).2)
        replace Vq := blk_pair Vq (.int .i64 (laidQ (butL pl k)).1) (.int .i64 (laidQ (butL pl k)).2)
        replace Va := keep_pair Va naq (.int .i64 (laidQ (butL pl k)).1) (.int .i64 (laidQ (butL pl k)).2)
        replace HS := bel_pair HS geq (.int .i64 (laidQ (butL pl k)).1) (.int .i64 (laidQ (butL pl k)).2)
        clear cq0 cq1 fq0 fq1
        generalize (x4.setCell ⟨sq, 0, none⟩ (.int .i64 (laidQ (butL pl k)).1)).setCell ⟨sq, 1, none⟩ (.int .i64 (laidQ (butL pl k)).2) = x5 at *
        replace hS := HS
        refine Shut.out hK _ _ hS (fun _ => ?_)
        clear hK K
        try simp only [Act.put, List.setIfInBounds_toArray, List.set_cons_zero, List.set_cons_succ]
        refine wpAnyH_done (by kernel_rfl) ?_ _
        refine NoPanic.normal ?_
        go_wp2_with fail
        go_meet
        exact ⟨z, sq, m2, d2, B2, rfl, rfl, Lib.hid Va, Lib.hid Vq, Lib.hid RR, Lib.hid HS, gea, geq⟩
      ·
       go_simp
       have HSZ : z ≤ x2.heap.size := HZ.out _ HS
       have bd : Below x2.heap.size x2 (x2.alloc (.cells #[.int .i64 0, .int .i64 0] 26)) := (Below.refl _ _).alloc (Nat.le_refl _) _
       replace HS := HS.trans (bd.mono HSZ)
       replace Va := blk_below Va bd (blk_lt Va)
       replace OL := own_below OL bd
       have Vq : (x2.alloc (.cells #[.int .i64 0, .int .i64 0] 26)).heap[x2.heap.size]? = some (.cells #[.int .i64 0, .int .i64 0] 26) := heap_alloc_new _ _
       have geq : z ≤ x2.heap.size := HSZ
       clear bd HSZ
       generalize x2.alloc (.cells #[.int .i64 0, .int .i64 0] 26) = x3 at *
       generalize hsq : x2.heap.size = sq at *
       replace hS := HS.drew
       go_wp2_with fail
       refine Shut.out hK _ _ hS (fun _ => ?_)
       clear hK K
       try simp only [Act.put, List.setIfInBounds_toArray, List.set_cons_zero, List.set_cons_succ]
       refine wpAnyH_ready (rs := [5]) (by kernel_rfl) (by simp) (AllReadyH.cons (o := ⟨some 23, .call { callee := .builtin .append, args := #[.tmp 19, .tmp 22], argTypes := #[37, 37] }, 37, "ref.go:89", #[⟨1, .data⟩, ⟨4, .data⟩], none⟩) rfl (fun K hK => ?_) AllReadyH.nil)
       have bdr : Below x3.heap.size x3 x3.drew := (Below.refl _ _).drew
       replace OL := own_below OL bdr
       replace Va : x3.drew.heap[_]? = _ := Va
       replace Vq : x3.drew.heap[_]? = _ := Vq
       replace HS := HS.drew
       clear bdr
       obtain ⟨A5, c5, u5_, hap5, own5, gr5⟩ := app_ints x3.drew z _ (0) _ OL Ch (k) ch _ (IH.out.below (BZ.out _ HS)) (by omega) (HZ.out _ HS)
       rw [Nat.zero_add] at hap5 own5
       replace Va := keep_grown Va gr5 (row_int OL) (by decide)
       replace Vq := keep_grown Vq gr5 (row_int OL) (by decide)
       replace HS := HS.grown gr5 (HZ.out _ HS) (fun j hj => (OL.lt j hj).1)
       clear gr5 OL
       have OL := own5
       clear own5
       refine op_app_run7 (by rfl) rfl rfl rfl hap5 ?_
       clear hap5
       replace hS := HS
       refine Shut.out hK _ _ hS (fun _ => ?_)
       clear hK K
       try simp only [Act.put, List.setIfInBounds_toArray, List.set_cons_zero, List.set_cons_succ]
       refine wpAnyH_ready (rs := [10]) (by kernel_rfl) (by simp) (AllReadyH.cons (o := ⟨some 28, .call { callee := .builtin .append, args := #[.tmp 23, .tmp 27], argTypes := #[37, 37] }, 37, "ref.go:89", #[⟨5, .data⟩, ⟨9, .data⟩, ⟨5, .chain⟩], none⟩) rfl (fun K hK => ?_) AllReadyH.nil)
       obtain ⟨A6, c6, u6_, hap6, own6, gr6⟩ := app_ints u5_ z _ (k) _ OL Ct (m - (k + 1)) ct _ (IT.out.below (BZ.out _ HS)) (by omega) (HZ.out _ HS)
       rw [hN.out] at hap6 own6
       replace Va := keep_grown Va gr6 (row_int OL) (by decide)
       replace Vq := keep_grown Vq gr6 (row_int OL) (by decide)
       replace HS := HS.grown gr6 (HZ.out _ HS) (fun j hj => (OL.lt j hj).1)
       clear gr6 OL
       have OL := own6
       clear own6
       refine op_app_run7 (by rfl) rfl rfl rfl hap6 ?_
       clear hap6
       replace hS := HS
       refine Shut.out hK _ _ hS (fun _ => ?_)
       clear hK K
       try simp only [Act.put, List.setIfInBounds_toArray, List.set_cons_zero, List.set_cons_succ]
       refine wpAnyH_ready (rs := [11]) (by kernel_rfl) (by simp) (AllReadyH.cons (o := ⟨some 29, .call { callee := .value (.func 36), args := #[.tmp 18, .tmp 28], argTypes := #[24, 37] }, 61, "ref.go:89", #[⟨0, .data⟩, ⟨10, .data⟩, ⟨10, .chain⟩], none⟩) rfl (fun K hK => ?_) AllReadyH.nil)
       go_simp
       obtain ⟨_, _, he, hi6⟩ := Es.of_own OL (intC_one _)
       injection he with he1 he2 he3; subst he1; subst he3
       refine (LDH.out A6 _ c6 u6_ ((FR.out.step (BZ.out _ HS)).es RX.out) (show Is u6_ A6 N c6 (butL pl k) from hi6)).mono ?_
       rintro e wl ⟨B2, m2, d2, rfl, hrs, hb⟩
       replace Va := blk_below Va hb (blk_lt Va)
       replace Vq := blk_below Vq hb (blk_lt Vq)
       have RR := own_base hrs (show q + 4 ≤ u6_.heap.size from Nat.le_trans hqW (HZ.out _ HS))
       replace HS := HS.trans (hb.mono (HZ.out _ HS))
       clear hb hrs hi6 OL
       replace hS := HS
       have ca0 : wl.cell? ⟨z, 0, none⟩ = some (.slice none 0 0) := (blk_cell Va 0).trans rfl
       have ca1 : wl.cell? ⟨z, 1, none⟩ = some (.int .i64 0) := (blk_cell Va 1).trans rfl
       have fa0 := blk_frozen Va 0
       have fa1 := blk_frozen Va 1
       have cq0 : wl.cell? ⟨sq, 0, none⟩ = some (.int .i64 0) := (blk_cell Vq 0).trans rfl
       have cq1 : wl.cell? ⟨sq, 1, none⟩ = some (.int .i64 0) := (blk_cell Vq 1).trans rfl
       have fq0 := blk_frozen Vq 0
       have fq1 := blk_frozen Vq 1
       have naq : z ≠ sq := blk_ne Va Vq (by decide)
       have nqa := naq.symm
       go_wp2_with fail
       refine Shut.out hK _ _ hS (fun _ => ?_)
       clear hK K
       try simp only [Act.put, List.setIfInBounds_toArray, List.set_cons_zero, List.set_cons_succ]
       refine wpAnyH_take (i := 12) (oi := ⟨some 17, .move (.tmp 29), 61, "ref.go:89", #[⟨11, .data⟩], none⟩) (v := ?_) rfl (by kernel_rfl) (by kernel_rfl) (by kernel_rfl) (fun _ _ _ h => h) (Or.inl ⟨by rfl, ?_⟩) hS ?_
       rotate_left
       · intro wv _; go_simp; try with_reducible rfl
       try simp only [Act.put, List.setIfInBounds_toArray, List.set_cons_zero, List.set_cons_succ]
       refine wpAnyH_take (i := 13) (oi := ⟨some 30, .extract (.tmp 17) 0, 24, "ref.go:89", #[⟨12, .data⟩], none⟩) (v := ?_) rfl (by kernel_rfl) (by kernel_rfl) (by kernel_rfl) (fun _ _ _ h => h) (Or.inl ⟨by rfl, ?_⟩) hS ?_
       rotate_left
       · intro wv _; go_simp; try with_reducible rfl
       try simp only [Act.put, List.setIfInBounds_toArray, List.set_cons_zero, List.set_cons_succ]
       refine wpAnyH_take (i := 14) (oi := ⟨some 31, .extract (.tmp 17) 1, 26, "ref.go:89", #[⟨12, .data⟩, ⟨17, .gcOnly .lateStores⟩], none⟩) (v := ?_) rfl (by kernel_rfl) (by kernel_rfl) (by kernel_rfl) (fun _ _ _ h => h) (Or.inl ⟨by rfl, ?_⟩) hS ?_
       rotate_left
       · intro wv _; go_simp; try with_reducible rfl
       try simp only [Act.put, List.setIfInBounds_toArray, List.set_cons_zero, List.set_cons_succ]
       refine wpAnyH_ready (rs := [17]) (by kernel_rfl) (by simp) (AllReadyH.cons (o := ⟨none, .store 24 (.tmp 10) (.tmp 30), 0, "ref.go:89", #[⟨15, .data⟩, ⟨13, .data⟩, ⟨11, .chain⟩, ⟨0, .phase⟩, ⟨1, .phase⟩, ⟨2, .phase⟩, ⟨3, .phase⟩, ⟨4, .phase⟩, ⟨5, .phase⟩, ⟨6, .phase⟩, ⟨7, .phase⟩, ⟨8, .phase⟩, ⟨9, .phase⟩, ⟨10, .phase⟩, ⟨11, .phase⟩, ⟨12, .phase⟩, ⟨13, .phase⟩, ⟨14, .textOnly .lateStores⟩, ⟨15, .phase⟩, ⟨16, .phase⟩], none⟩) rfl (fun K hK => ?_) AllReadyH.nil)
       go_simp
       replace RR := own_pair RR Va (by decide) (.slice B2 m2 d2) (.int .i64 fr)
       replace Va := blk_pair Va (.slice B2 m2 d2) (.int .i64 fr)
       replace Vq := keep_pair Vq nqa (.slice B2 m2 d2) (.int .i64 fr)
       replace HS := bel_pair HS gea (.slice B2 m2 d2) (.int .i64 fr)
       clear ca0 ca1 cq0 cq1 fa0 fa1 fq0 fq1
       generalize (wl.setCell ⟨z, 0, none⟩ (.slice B2 m2 d2)).setCell ⟨z, 1, none⟩ (.int .i64 fr) = x4 at *
       replace hS := HS
       have cq0 : x4.cell? ⟨sq, 0, none⟩ = some (.int .i64 0) := (blk_cell Vq 0).trans rfl
       have cq1 : x4.cell? ⟨sq, 1, none⟩ = some (.int .i64 0) := (blk_cell Vq 1).trans rfl
       have fq0 := blk_frozen Vq 0
       have fq1 := blk_frozen Vq 1
       refine Shut.out hK _ _ hS (fun _ => ?_)
       clear hK K
       try simp only [Act.put, List.setIfInBounds_toArray, List.set_cons_zero, List.set_cons_succ]
       refine wpAnyH_ready (rs := [18]) (by kernel_rfl) (by simp) (AllReadyH.cons (o := ⟨none, .store 26 (.tmp 11) (.tmp 31), 0, "ref.go:89", #[⟨16, .data⟩, ⟨14, .data⟩, ⟨17, .chain⟩, ⟨0, .phase⟩, ⟨1, .phase⟩, ⟨2, .phase⟩, ⟨3, .phase⟩, ⟨4, .phase⟩, ⟨5, .phase⟩, ⟨6, .phase⟩, ⟨7, .phase⟩, ⟨8, .phase⟩, ⟨9, .phase⟩, ⟨10, .phase⟩, ⟨11, .phase⟩, ⟨12, .phase⟩, ⟨13, .phase⟩, ⟨14, .phase⟩, ⟨15, .phase⟩, ⟨16, .phase⟩, ⟨17, .phase⟩], none⟩) rfl (fun K hK => ?_) AllReadyH.nil)
       go_simp
       replace RR := own_pair RR Vq (by decide) (.int .i64 (laidQ (butL pl k)).1) (.int .i64 (laidQ (butL pl k)).2)
       replace Vq := blk_pair Vq (.int .i64 (laidQ (butL pl k)).1) (.int .i64 (laidQ (butL pl k)).2)
       replace Va := keep_pair Va naq (.int .i64 (laidQ (butL pl k)).1) (.int .i64 (laidQ (butL pl k)).2)
       replace HS := bel_pair HS geq (.int .i64 (laidQ (butL pl k)).1) (.int .i64 (laidQ (butL pl k)).2)
       clear cq0 cq1 fq0 fq1
       generalize (x4.setCell ⟨sq, 0, none⟩ (.int .i64 (laidQ (butL pl k)).1)).setCell ⟨sq, 1, none⟩ (.int .i64 (laidQ (butL pl k)).2) = x5 at *
       replace hS := HS
       refine Shut.out hK _ _ hS (fun _ => ?_)
       clear hK K
       try simp only [Act.put, List.setIfInBounds_toArray, List.set_cons_zero, List.set_cons_succ]
       refine wpAnyH_done (by kernel_rfl) ?_ _
       refine NoPanic.normal ?_
       go_wp2_with fail
       go_meet
       exact ⟨z, sq, m2, d2, B2, rfl, rfl, Lib.hid Va, Lib.hid Vq, Lib.hid RR, Lib.hid HS, gea, geq⟩
     ·
      go_simp
      have HSZ : z ≤ x1.heap.size := HZ.out _ HS
      have bd : Below x1.heap.size x1 (x1.alloc (.cells #[.int .i64 0, .int .i64 0] 26)) := (Below.refl _ _).alloc (Nat.le_refl _) _
      replace HS := HS.trans (bd.mono HSZ)
      replace Va := blk_below Va bd (blk_lt Va)
      have Vq : (x1.alloc (.cells #[.int .i64 0, .int .i64 0] 26)).heap[x1.heap.size]? = some (.cells #[.int .i64 0, .int .i64 0] 26) := heap_alloc_new _ _
      have geq : z ≤ x1.heap.size := HSZ
      clear bd HSZ
      generalize x1.alloc (.cells #[.int .i64 0, .int .i64 0] 26) = x2 at *
      generalize hsq : x1.heap.size = sq at *
      replace hS := HS.drew
      go_wp2_with fail
      refine Shut.out hK _ _ hS (fun _ => ?_)
      clear hK K
      try simp only [Act.put, List.setIfInBounds_toArray, List.set_cons_zero, List.set_cons_succ]
      refine wpAnyH_ready (rs := [1]) (by kernel_rfl) (by simp) (AllReadyH.cons (o := ⟨some 19, .buildSlice 37 0 #[], 37, "ref.go:89", #[], none⟩) rfl (fun K hK => ?_) AllReadyH.nil)
      go_simp
      have HSZ : z ≤ x2.heap.size := HZ.out _ HS
      have bd : Below x2.heap.size x2 (x2.alloc (.cells #[] 3)) := (Below.refl _ _).alloc (Nat.le_refl _) _
      replace HS := HS.trans (bd.mono HSZ)
      replace Va := blk_below Va bd (blk_lt Va)
      replace Vq := blk_below Vq bd (blk_lt Vq)
      have OL : (x2.alloc (.cells #[] 3)).ownsRow z 3 1 (.slice (some ⟨x2.heap.size, 0, none⟩) 0 0) 0 (intC []) := lit_ints x2 HSZ [] (by simp) rfl
      clear bd HSZ
      generalize x2.alloc (.cells #[] 3) = x3 at *
      generalize hsl : x2.heap.size = sl at *
      replace hS := HS.drew
      refine Shut.out hK _ _ hS (fun _ => ?_)
      clear hK K
      try simp only [Act.put, List.setIfInBounds_toArray, List.set_cons_zero, List.set_cons_succ]
      refine wpAnyH_ready (rs := [5]) (by kernel_rfl) (by simp) (AllReadyH.cons (o := ⟨some 23, .call { callee := .builtin .append, args := #[.tmp 19, .tmp 22], argTypes := #[37, 37] }, 37, "ref.go:89", #[⟨1, .data⟩, ⟨4, .data⟩], none⟩) rfl (fun K hK => ?_) AllReadyH.nil)
      have bdr : Below x3.heap.size x3 x3.drew := (Below.refl _ _).drew
      replace OL := own_below OL bdr
      replace Va : x3.drew.heap[_]? = _ := Va
      replace Vq : x3.drew.heap[_]? = _ := Vq
      replace HS := HS.drew
      clear bdr
      obtain ⟨A5, c5, u5_, hap5, own5, gr5⟩ := app_ints x3.drew z _ (0) _ OL Ch (k) ch _ (IH.out.below (BZ.out _ HS)) (by omega) (HZ.out _ HS)
      rw [Nat.zero_add] at hap5 own5
      replace Va := keep_grown Va gr5 (row_int OL) (by decide)
      replace Vq := keep_grown Vq gr5 (row_int OL) (by decide)
      replace HS := HS.grown gr5 (HZ.out _ HS) (fun j hj => (OL.lt j hj).1)
      clear gr5 OL
      have OL := own5
      clear own5
      refine op_app_run7 (by rfl) rfl rfl rfl hap5 ?_
      clear hap5
      replace hS := HS
      refine Shut.out hK _ _ hS (fun _ => ?_)
      clear hK K
      try simp only [Act.put, List.setIfInBounds_toArray, List.set_cons_zero, List.set_cons_succ]
      refine wpAnyH_ready (rs := [10]) (by kernel_rfl) (by simp) (AllReadyH.cons (o := ⟨some 28, .call { callee := .builtin .append, args := #[.tmp 23, .tmp 27], argTypes := #[37, 37] }, 37, "ref.go:89", #[⟨5, .data⟩, ⟨9, .data⟩, ⟨5, .chain⟩], none⟩) rfl (fun K hK => ?_) AllReadyH.nil)
      obtain ⟨A6, c6, u6_, hap6, own6, gr6⟩ := app_ints u5_ z _ (k) _ OL Ct (m - (k + 1)) ct _ (IT.out.below (BZ.out _ HS)) (by omega) (HZ.out _ HS)
      rw [hN.out] at hap6 own6
      replace Va := keep_grown Va gr6 (row_int OL) (by decide)
      replace Vq := keep_grown Vq gr6 (row_int OL) (by decide)
      replace HS := HS.grown gr6 (HZ.out _ HS) (fun j hj => (OL.lt j hj).1)
      clear gr6 OL
      have OL := own6
      clear own6
      refine op_app_run7 (by rfl) rfl rfl rfl hap6 ?_
      clear hap6
      replace hS := HS
      refine Shut.out hK _ _ hS (fun _ => ?_)
      clear hK K
      try simp only [Act.put, List.setIfInBounds_toArray, List.set_cons_zero, List.set_cons_succ]
      refine wpAnyH_ready (rs := [11]) (by kernel_rfl) (by simp) (AllReadyH.cons (o := ⟨some 29, .call { callee := .value (.func 36), args := #[.tmp 18, .tmp 28], argTypes := #[24, 37] }, 61, "ref.go:89", #[⟨0, .data⟩, ⟨10, .data⟩, ⟨10, .chain⟩], none⟩) rfl (fun K hK => ?_) AllReadyH.nil)
      go_simp
      obtain ⟨_, _, he, hi6⟩ := Es.of_own OL (intC_one _)
      injection he with he1 he2 he3; subst he1; subst he3
      refine (LDH.out A6 _ c6 u6_ ((FR.out.step (BZ.out _ HS)).es RX.out) (show Is u6_ A6 N c6 (butL pl k) from hi6)).mono ?_
      rintro e wl ⟨B2, m2, d2, rfl, hrs, hb⟩
      replace Va := blk_below Va hb (blk_lt Va)
      replace Vq := blk_below Vq hb (blk_lt Vq)
      have RR := own_base hrs (show q + 4 ≤ u6_.heap.size from Nat.le_trans hqW (HZ.out _ HS))
      replace HS := HS.trans (hb.mono (HZ.out _ HS))
      clear hb hrs hi6 OL
      replace hS := HS
      have ca0 : wl.cell? ⟨z, 0, none⟩ = some (.slice none 0 0) := (blk_cell Va 0).trans rfl
      have ca1 : wl.cell? ⟨z, 1, none⟩ = some (.int .i64 0) := (blk_cell Va 1).trans rfl
      have fa0 := blk_frozen Va 0
      have fa1 := blk_frozen Va 1
      have cq0 : wl.cell? ⟨sq, 0, none⟩ = some (.int .i64 0) := (blk_cell Vq 0).trans rfl
      have cq1 : wl.cell? ⟨sq, 1, none⟩ = some (.int .i64 0) := (blk_cell Vq 1).trans rfl
      have fq0 := blk_frozen Vq 0
      have fq1 := blk_frozen Vq 1
      have naq : z ≠ sq := blk_ne Va Vq (by decide)
      have nqa := naq.symm
      go_wp2_with fail
      refine Shut.out hK _ _ hS (fun _ => ?_)
      clear hK K
      try simp only [Act.put, List.setIfInBounds_toArray, List.set_cons_zero, List.set_cons_succ]
      refine wpAnyH_take (i := 12) (oi := ⟨some 17, .move (.tmp 29), 61, "ref.go:89", #[⟨11, .data⟩], none⟩) (v := ?_) rfl (by kernel_rfl) (by kernel_rfl) (by kernel_rfl) (fun _ _ _ h => h) (Or.inl ⟨by rfl, ?_⟩) hS ?_
      rotate_left
      · intro wv _; go_simp; try with_reducible rfl
      try simp only [Act.put, List.setIfInBounds_toArray, List.set_cons_zero, List.set_cons_succ]
      refine wpAnyH_take (i := 13) (oi := ⟨some 30, .extract (.tmp 17) 0, 24, "ref.go:89", #[⟨12, .data⟩], none⟩) (v := ?_) rfl (by kernel_rfl) (by kernel_rfl) (by kernel_rfl) (fun _ _ _ h => h) (Or.inl ⟨by rfl, ?_⟩) hS ?_
      rotate_left
      · intro wv _; go_simp; try with_reducible rfl
      try simp only [Act.put, List.setIfInBounds_toArray, List.set_cons_zero, List.set_cons_succ]
      refine wpAnyH_take (i := 14) (oi := ⟨some 31, .extract (.tmp 17) 1, 26, "ref.go:89", #[⟨12, .data⟩, ⟨17, .gcOnly .lateStores⟩], none⟩) (v := ?_) rfl (by kernel_rfl) (by kernel_rfl) (by kernel_rfl) (fun _ _ _ h => h) (Or.inl ⟨by rfl, ?_⟩) hS ?_
      rotate_left
      · intro wv _; go_simp; try with_reducible rfl
      try simp only [Act.put, List.setIfInBounds_toArray, List.set_cons_zero, List.set_cons_succ]
      refine wpAnyH_ready (rs := [17]) (by kernel_rfl) (by simp) (AllReadyH.cons (o := ⟨none, .store 24 (.tmp 10) (.tmp 30), 0, "ref.go:89", #[⟨15, .data⟩, ⟨13, .data⟩, ⟨11, .chain⟩, ⟨0, .phase⟩, ⟨1, .phase⟩, ⟨2, .phase⟩, ⟨3, .phase⟩, ⟨4, .phase⟩, ⟨5, .phase⟩, ⟨6, .phase⟩, ⟨7, .phase⟩, ⟨8, .phase⟩, ⟨9, .phase⟩, ⟨10, .phase⟩, ⟨11, .phase⟩, ⟨12, .phase⟩, ⟨13, .phase⟩, ⟨14, .textOnly .lateStores⟩, ⟨15, .phase⟩, ⟨16, .phase⟩], none⟩) rfl (fun K hK => ?_) AllReadyH.nil)
      go_simp
      replace RR := own_pair RR Va (by decide) (.slice B2 m2 d2) (.int .i64 fr)
      replace Va := blk_pair Va (.slice B2 m2 d2) (.int .i64 fr)
      replace Vq := keep_pair Vq nqa (.slice B2 m2 d2) (.int .i64 fr)
      replace HS := bel_pair HS gea (.slice B2 m2 d2) (.int .i64 fr)
      clear ca0 ca1 cq0 cq1 fa0 fa1 fq0 fq1
      generalize (wl.setCell ⟨z, 0, none⟩ (.slice B2 m2 d2)).setCell ⟨z, 1, none⟩ (.int .i64 fr) = x4 at *
      replace hS := HS
      have cq0 : x4.cell? ⟨sq, 0, none⟩ = some (.int .i64 0) := (blk_cell Vq 0).trans rfl
      have cq1 : x4.cell? ⟨sq, 1, none⟩ = some (.int .i64 0) := (blk_cell Vq 1).trans rfl
      have fq0 := blk_frozen Vq 0
      have fq1 := blk_frozen Vq 1
      refine Shut.out hK _ _ hS (fun _ => ?_)
      clear hK K
      try simp only [Act.put, List.setIfInBounds_toArray, List.set_cons_zero, List.set_cons_succ]
      refine wpAnyH_ready (rs := [18]) (by kernel_rfl) (by simp) (AllReadyH.cons (o := ⟨none, .store 26 (.tmp 11) (.tmp 31), 0, "ref.go:89", #[⟨16, .data⟩, ⟨14, .data⟩, ⟨17, .chain⟩, ⟨0, .phase⟩, ⟨1, .phase⟩, ⟨2, .phase⟩, ⟨3, .phase⟩, ⟨4, .phase⟩, ⟨5, .phase⟩, ⟨6, .phase⟩, ⟨7, .phase⟩, ⟨8, .phase⟩, ⟨9, .phase⟩, ⟨10, .phase⟩, ⟨11, .phase⟩, ⟨12, .phase⟩, ⟨13, .phase⟩, ⟨14, .phase⟩, ⟨15, .phase⟩, ⟨16, .phase⟩, ⟨17, .phase⟩], none⟩) rfl (fun K hK => ?_) AllReadyH.nil)
      go_simp
      replace RR := own_pair RR Vq (by decide) (.int .i64 (laidQ (butL pl k)).1) (.int .i64 (laidQ (butL pl k)).2)
      replace Vq := blk_pair Vq (.int .i64 (laidQ (butL pl k)).1) (.int .i64 (laidQ (butL pl k)).2)
      replace Va := keep_pair Va naq (.int .i64 (laidQ (butL pl k)).1) (.int .i64 (laidQ (butL pl k)).2)
      replace HS := bel_pair HS geq (.int .i64 (laidQ (butL pl k)).1) (.int .i64 (laidQ (butL pl k)).2)
      clear cq0 cq1 fq0 fq1
      generalize (x4.setCell ⟨sq, 0, none⟩ (.int .i64 (laidQ (butL pl k)).1)).setCell ⟨sq, 1, none⟩ (.int .i64 (laidQ (butL pl k)).2) = x5 at *
      replace hS := HS
      refine Shut.out hK _ _ hS (fun _ => ?_)
      clear hK K
      try simp only [Act.put, List.setIfInBounds_toArray, List.set_cons_zero, List.set_cons_succ]
      refine wpAnyH_done (by kernel_rfl) ?_ _
      refine NoPanic.normal ?_
      go_wp2_with fail
      go_meet
      exact ⟨z, sq, m2, d2, B2, rfl, rfl, Lib.hid Va, Lib.hid Vq, Lib.hid RR, Lib.hid HS, gea, geq⟩
    ·
     go_simp
     have HS : Below z w5 w5 := Below.refl _ _
     have HSZ : z ≤ z := Nat.le_refl _
     have bd : Below z w5 (w5.alloc (.cells #[.int .i64 0, .int .i64 0] 26)) := by have h := (Below.refl w5.heap.size w5).alloc (Nat.le_refl _) (.cells #[.int .i64 0, .int .i64 0] 26); rwa [hz] at h
     replace HS := HS.trans (bd.mono HSZ)
     have Vq : (w5.alloc (.cells #[.int .i64 0, .int .i64 0] 26)).heap[z]? = some (.cells #[.int .i64 0, .int .i64 0] 26) := by have h := heap_alloc_new w5 (.cells #[.int .i64 0, .int .i64 0] 26); rw [hz] at h; exact h
     have geq : z ≤ z := HSZ
     clear bd HSZ
     generalize w5.alloc (.cells #[.int .i64 0, .int .i64 0] 26) = x1 at *
     replace hS := HS.drew
     go_wp2_with fail
     refine Shut.out hK _ _ hS (fun _ => ?_)
     clear hK K
     try simp only [Act.put, List.setIfInBounds_toArray, List.set_cons_zero, List.set_cons_succ]
     refine wpAnyH_ready (rs := [1, 15]) (by kernel_rfl) (by simp) (AllReadyH.cons (o := ⟨some 19, .buildSlice 37 0 #[], 37, "ref.go:89", #[], none⟩) rfl (fun K hK => ?_) (AllReadyH.cons (o := ⟨some 10, .alloc 24, 0, "ref.go:89", #[], none⟩) rfl (fun K hK => ?_) AllReadyH.nil))
     ·
      go_simp
      have HSZ : z ≤ x1.heap.size := HZ.out _ HS
      have bd : Below x1.heap.size x1 (x1.alloc (.cells #[] 3)) := (Below.refl _ _).alloc (Nat.le_refl _) _
      replace HS := HS.trans (bd.mono HSZ)
      replace Vq := blk_below Vq bd (blk_lt Vq)
      have OL : (x1.alloc (.cells #[] 3)).ownsRow z 3 1 (.slice (some ⟨x1.heap.size, 0, none⟩) 0 0) 0 (intC []) := lit_ints x1 HSZ [] (by simp) rfl
      clear bd HSZ
      generalize x1.alloc (.cells #[] 3) = x2 at *
      generalize hsl : x1.heap.size = sl at *
      replace hS := HS.drew
      refine Shut.out hK _ _ hS (fun _ => ?_)
      clear hK K
      try simp only [Act.put, List.setIfInBounds_toArray, List.set_cons_zero, List.set_cons_succ]
      refine wpAnyH_ready (rs := [5, 15]) (by kernel_rfl) (by simp) (AllReadyH.cons (o := ⟨some 23, .call { callee := .builtin .append, args := #[.tmp 19, .tmp 22], argTypes := #[37, 37] }, 37, "ref.go:89", #[⟨1, .data⟩, ⟨4, .data⟩], none⟩) rfl (fun K hK => ?_) (AllReadyH.cons (o := ⟨some 10, .alloc 24, 0, "ref.go:89", #[], none⟩) rfl (fun K hK => ?_) AllReadyH.nil))
      ·
       have bdr : Below x2.heap.size x2 x2.drew := (Below.refl _ _).drew
       replace OL := own_below OL bdr
       replace Vq : x2.drew.heap[_]? = _ := Vq
       replace HS := HS.drew
       clear bdr
       obtain ⟨A5, c5, u5_, hap5, own5, gr5⟩ := app_ints x2.drew z _ (0) _ OL Ch (k) ch _ (IH.out.below (BZ.out _ HS)) (by omega) (HZ.out _ HS)
       rw [Nat.zero_add] at hap5 own5
       replace Vq := keep_grown Vq gr5 (row_int OL) (by decide)
       replace HS := HS.grown gr5 (HZ.out _ HS) (fun j hj => (OL.lt j hj).1)
       clear gr5 OL
       have OL := own5
       clear own5
       refine op_app_run7 (by rfl) rfl rfl rfl hap5 ?_
       clear hap5
       replace hS := HS
       refine Shut.out hK _ _ hS (fun _ => ?_)
       clear hK K
       try simp only [Act.put, List.setIfInBounds_toArray, List.set_cons_zero, List.set_cons_succ]
       refine wpAnyH_ready (rs := [10, 15]) (by kernel_rfl) (by simp) (AllReadyH.cons (o := ⟨some 28, .call { callee := .builtin .append, args := #[.tmp 23, .tmp 27], argTypes := #[37, 37] }, 37, "ref.go:89", #[⟨5, .data⟩, ⟨9, .data⟩, ⟨5, .chain⟩], none⟩) rfl (fun K hK => ?_) (AllReadyH.cons (o := ⟨some 10, .alloc 24, 0, "ref.go:89", #[], none⟩) rfl (fun K hK => ?_) AllReadyH.nil))
       ·
        obtain ⟨A6, c6, u6_, hap6, own6, gr6⟩ := app_ints u5_ z _ (k) _ OL Ct (m - (k + 1)) ct _ (IT.out.below (BZ.out _ HS)) (by omega) (HZ.out _ HS)
        rw [hN.out] at hap6 own6
        replace Vq := keep_grown Vq gr6 (row_int OL) (by decide)
        replace HS := HS.grown gr6 (HZ.out _ HS) (fun j hj => (OL.lt j hj).1)
        clear gr6 OL
        have OL := own6
        clear own6
        refine op_app_run7 (by rfl) rfl rfl rfl hap6 ?_
        clear hap6
        replace hS := HS
        refine Shut.out hK _ _ hS (fun _ => ?_)
        clear hK K
        try simp only [Act.put, List.setIfInBounds_toArray, List.set_cons_zero, List.set_cons_succ]
        refine wpAnyH_ready (rs := [11, 15]) (by kernel_rfl) (by simp) (AllReadyH.cons (o := ⟨some 29, .call { callee := .value (.func 36), args := #[.tmp 18, .tmp 28], argTypes := #[24, 37] }, 61, "ref.go:89", #[⟨0, .data⟩, ⟨10, .data⟩, ⟨10, .chain⟩], none⟩) rfl (fun K hK => ?_) (AllReadyH.cons (o := ⟨some 10, .alloc 24, 0, "ref.go:89", #[], none⟩) rfl (fun K hK => ?_) AllReadyH.nil))
        ·
         go_simp
         obtain ⟨_, _, he, hi6⟩ := Es.of_own OL (intC_one _)
         injection he with he1 he2 he3; subst he1; subst he3
         refine (LDH.out A6 _ c6 u6_ ((FR.out.step (BZ.out _ HS)).es RX.out) (show Is u6_ A6 N c6 (butL pl k) from hi6)).mono ?_
         rintro e wl ⟨B2, m2, d2, rfl, hrs, hb⟩
         replace Vq := blk_below Vq hb (blk_lt Vq)
         have RR := own_base hrs (show q + 4 ≤ u6_.heap.size from Nat.le_trans hqW (HZ.out _ HS))
         replace HS := HS.trans (hb.mono (HZ.out _ HS))
         clear hb hrs hi6 OL
         replace hS := HS
         go_wp2_with fail
         refine Shut.out hK _ _ hS (fun _ => ?_)
         clear hK K
         try simp only [Act.put, List.setIfInBounds_toArray, List.set_cons_zero, List.set_cons_succ]
         refine wpAnyH_take (i := 12) (oi := ⟨some 17, .move (.tmp 29), 61, "ref.go:89", #[⟨11, .data⟩], none⟩) (v := ?_) rfl (by kernel_rfl) (by kernel_rfl) (by kernel_rfl) (fun _ _ _ h => h) (Or.inl ⟨by rfl, ?_⟩) hS ?_
         rotate_left
         · intro wv _; go_simp; try with_reducible rfl
         try simp only [Act.put, List.setIfInBounds_toArray, List.set_cons_zero, List.set_cons_succ]
         refine wpAnyH_take (i := 13) (oi := ⟨some 30, .extract (.tmp 17) 0, 24, "ref.go:89", #[⟨12, .data⟩], none⟩) (v := ?_) rfl (by kernel_rfl) (by kernel_rfl) (by kernel_rfl) (fun _ _ _ h => h) (Or.inl ⟨by rfl, ?_⟩) hS ?_
         rotate_left
         · intro wv _; go_simp; try with_reducible rfl
         try simp only [Act.put, List.setIfInBounds_toArray, List.set_cons_zero, List.set_cons_succ]
         refine wpAnyH_take (i := 14) (oi := ⟨some 31, .extract (.tmp 17) 1, 26, "ref.go:89", #[⟨12, .data⟩, ⟨17, .gcOnly .lateStores⟩], none⟩) (v := ?_) rfl (by kernel_rfl) (by kernel_rfl) (by kernel_rfl) (fun _ _ _ h => h) (Or.inl ⟨by rfl, ?_⟩) hS ?_
         rotate_left
         · intro wv _; go_simp; try with_reducible rfl
         try simp only [Act.put, List.setIfInBounds_toArray, List.set_cons_zero, List.set_cons_succ]
         refine wpAnyH_ready (rs := [15]) (by kernel_rfl) (by simp) (AllReadyH.cons (o := ⟨some 10, .alloc 24, 0, "ref.go:89", #[], none⟩) rfl (fun K hK => ?_) AllReadyH.nil)
         go_simp
         have HSZ : z ≤ wl.heap.size := HZ.out _ HS
         have bd : Below wl.heap.size wl (wl.alloc (.cells #[.slice none 0 0, .int .i64 0] 24)) := (Below.refl _ _).alloc (Nat.le_refl _) _
         replace HS := HS.trans (bd.mono HSZ)
         replace Vq := blk_below Vq bd (blk_lt Vq)
         replace RR := own_below RR bd
         have Va : (wl.alloc (.cells #[.slice none 0 0, .int .i64 0] 24)).heap[wl.heap.size]? = some (.cells #[.slice none 0 0, .int .i64 0] 24) := heap_alloc_new _ _
         have gea : z ≤ wl.heap.size := HSZ
         clear bd HSZ
         generalize wl.alloc (.cells #[.slice none 0 0, .int .i64 0] 24) = x3 at *
         generalize hsa : wl.heap.size = sa at *
         replace hS := HS
         have ca0 : x3.cell? ⟨sa, 0, none⟩ = some (.slice none 0 0) := (blk_cell Va 0).trans rfl
         have ca1 : x3.cell? ⟨sa, 1, none⟩ = some (.int .i64 0) := (blk_cell Va 1).trans rfl
         have fa0 := blk_frozen Va 0
         have fa1 := blk_frozen Va 1
         have cq0 : x3.cell? ⟨z, 0, none⟩ = some (.int .i64 0) := (blk_cell Vq 0).trans rfl
         have cq1 : x3.cell? ⟨z, 1, none⟩ = some (.int .i64 0) := (blk_cell Vq 1).trans rfl
         have fq0 := blk_frozen Vq 0
         have fq1 := blk_frozen Vq 1
         have naq : sa ≠ z := blk_ne Va Vq (by decide)
         have nqa := naq.symm
         go_wp2_with fail
         refine Shut.out hK _ _ hS (fun _ => ?_)
         clear hK K
         try simp only [Act.put, List.setIfInBounds_toArray, List.set_cons_zero, List.set_cons_succ]
         refine wpAnyH_ready (rs := [17]) (by kernel_rfl) (by simp) (AllReadyH.cons (o := ⟨none, .store 24 (.tmp 10) (.tmp 30), 0, "ref.go:89", #[⟨15, .data⟩, ⟨13, .data⟩, ⟨11, .chain⟩, ⟨0, .phase⟩, ⟨1, .phase⟩, ⟨2, .phase⟩, ⟨3, .phase⟩, ⟨4, .phase⟩, ⟨5, .phase⟩, ⟨6, .phase⟩, ⟨7, .phase⟩, ⟨8, .phase⟩, ⟨9, .phase⟩, ⟨10, .phase⟩, ⟨11, .phase⟩, ⟨12, .phase⟩, ⟨13, .phase⟩, ⟨14, .textOnly .lateStores⟩, ⟨15, .phase⟩, ⟨16, .phase⟩], none⟩) rfl (fun K hK => ?_) AllReadyH.nil)
         go_simp
         replace RR := own_pair RR Va (by decide) (.slice B2 m2 d2) (.int .i64 fr)
         replace Va := blk_pair Va (.slice B2 m2 d2) (.int .i64 fr)
         replace Vq := keep_pair Vq nqa (.slice B2 m2 d2) (.int .i64 fr)
         replace HS := bel_pair HS gea (.slice B2 m2 d2) (.int .i64 fr)
         clear ca0 ca1 cq0 cq1 fa0 fa1 fq0 fq1
         generalize (x3.setCell ⟨sa, 0, none⟩ (.slice B2 m2 d2)).setCell ⟨sa, 1, none⟩ (.int .i64 fr) = x4 at *
         replace hS := HS
         have cq0 : x4.cell? ⟨z, 0, none⟩ = some (.int .i64 0) := (blk_cell Vq 0).trans rfl
         have cq1 : x4.cell? ⟨z, 1, none⟩ = some (.int .i64 0) := (blk_cell Vq 1).trans rfl
         have fq0 := blk_frozen Vq 0
         have fq1 := blk_frozen Vq 1
         refine Shut.out hK _ _ hS (fun _ => ?_)
         clear hK K
         try simp only [Act.put, List.setIfInBounds_toArray, List.set_cons_zero, List.set_cons_succ]
         refine wpAnyH_ready (rs := [18]) (by kernel_rfl) (by simp) (AllReadyH.cons (o := ⟨none, .store 26 (.tmp 11) (.tmp 31), 0, "ref.go:89", #[⟨16, .data⟩, ⟨14, .data⟩, ⟨17, .chain⟩, ⟨0, .phase⟩, ⟨1, .phase⟩, ⟨2, .phase⟩, ⟨3, .phase⟩, ⟨4, .phase⟩, ⟨5, .phase⟩, ⟨6, .phase⟩, ⟨7, .phase⟩, ⟨8, .phase⟩, ⟨9, .phase⟩, ⟨10, .phase⟩, ⟨11, .phase⟩, ⟨12, .phase⟩, ⟨13, .phase⟩, ⟨14, .phase⟩, ⟨15, .phase⟩, ⟨16, .phase⟩, ⟨17, .phase⟩], none⟩) rfl (fun K hK => ?_) AllReadyH.nil)
         go_simp
         replace RR := own_pair RR Vq (by decide) (.int .i64 (laidQ (butL pl k)).1) (.int .i64 (laidQ (butL pl k)).2)
         replace Vq := blk_pair Vq (.int .i64 (laidQ (butL pl k)).1) (.int .i64 (laidQ (butL pl k)).2)
         replace Va := keep_pair Va naq (.int .i64 (laidQ (butL pl k)).1) (.int .i64 (laidQ (butL pl k)).2)
         replace HS := bel_pair HS geq (.int .i64 (laidQ (butL pl k)).1) (.int .i64 (laidQ (butL pl k)).2)
         clear cq0 cq1 fq0 fq1
         generalize (x4.setCell ⟨z, 0, none⟩ (.int .i64 (laidQ (butL pl k)).1)).setCell ⟨z, 1, none⟩ (.int .i64 (laidQ (butL pl k)).2) = x5 at *
         replace hS := HS
         refine Shut.out hK _ _ hS (fun _ => ?_)
         clear hK K
         try simp only [Act.put, List.setIfInBounds_toArray, List.set_cons_zero, List.set_cons_succ]
         refine wpAnyH_done (by kernel_rfl) ?_ _
         refine NoPanic.normal ?_
         go_wp2_with fail
         go_meet
         exact ⟨sa, z, m2, d2, B2, rfl, rfl, Lib.hid Va, Lib.hid Vq, Lib.hid RR, Lib.hid HS, gea, geq⟩
        ·
         go_simp
         have HSZ : z ≤ u6_.heap.size := HZ.out _ HS
         have bd : Below u6_.heap.size u6_ (u6_.alloc (.cells #[.slice none 0 0, .int .i64 0] 24)) := (Below.refl _ _).alloc (Nat.le_refl _) _
         replace HS := HS.trans (bd.mono HSZ)
         replace Vq := blk_below Vq bd (blk_lt Vq)
         replace OL := own_below OL bd
         have Va : (u6_.alloc (.cells #[.slice none 0 0, .int .i64 0] 24)).heap[u6_.heap.size]? = some (.cells #[.slice none 0 0, .int .i64 0] 24) := heap_alloc_new _ _
         have gea : z ≤ u6_.heap.size := HSZ
         clear bd HSZ
         generalize u6_.alloc (.cells #[.slice none 0 0, .int .i64 0] 24) = x3 at *
         generalize hsa : u6_.heap.size = sa at *
         replace hS := HS
         go_wp2_with fail
         refine Shut.out hK _ _ hS (fun _ => ?_)
         clear hK K
         try simp only [Act.put, List.setIfInBounds_toArray, List.set_cons_zero, List.set_cons_succ]
         refine wpAnyH_ready (rs := [11]) (by kernel_rfl) (by simp) (AllReadyH.cons (o := ⟨some 29, .call { callee := .value (.func 36), args := #[.tmp 18, .tmp 28], argTypes := #[24, 37] }, 61, "ref.go:89", #[⟨0, .data⟩, ⟨10, .data⟩, ⟨10, .chain⟩], none⟩) rfl (fun K hK => ?_) AllReadyH.nil)
         go_simp
         obtain ⟨_, _, he, hi6⟩ := Es.of_own OL (intC_one _)
         injection he with he1 he2 he3; subst he1; subst he3
         refine (LDH.out A6 _ c6 x3 ((FR.out.step (BZ.out _ HS)).es RX.out) (show Is x3 A6 N c6 (butL pl k) from hi6)).mono ?_
         rintro e wl ⟨B2, m2, d2, rfl, hrs, hb⟩
         replace Vq := blk_below Vq hb (blk_lt Vq)
         replace Va := blk_below Va hb (blk_lt Va)
         have RR := own_base hrs (show q + 4 ≤ x3.heap.size from Nat.le_trans hqW (HZ.out _ HS))
         replace HS := HS.trans (hb.mono (HZ.out _ HS))
         clear hb hrs hi6 OL
         replace hS := HS
         have ca0 : wl.cell? ⟨sa, 0, none⟩ = some (.slice none 0 0) := (blk_cell Va 0).trans rfl
         have ca1 : wl.cell? ⟨sa, 1, none⟩ = some (.int .i64 0) := (blk_cell Va 1).trans rfl
         have fa0 := blk_frozen Va 0
         have fa1 := blk_frozen Va 1
         have cq0 : wl.cell? ⟨z, 0, none⟩ = some (.int .i64 0) := (blk_cell Vq 0).trans rfl
         have cq1 : wl.cell? ⟨z, 1, none⟩ = some (.int .i64 0) := (blk_cell Vq 1).trans rfl
         have fq0 := blk_frozen Vq 0
         have fq1 := blk_frozen Vq 1
         have naq : sa ≠ z := blk_ne Va Vq (by decide)
         have nqa := naq.symm
         go_wp2_with fail
         refine Shut.out hK _ _ hS (fun _ => ?_)
         clear hK K
         try simp only [Act.put, List.setIfInBounds_toArray, List.set_cons_zero, List.set_cons_succ]
         refine wpAnyH_take (i := 12) (oi := ⟨some 17, .move (.tmp 29), 61, "ref.go:89", #[⟨11, .data⟩], none⟩) (v := ?_) rfl (by kernel_rfl) (by kernel_rfl) (by kernel_rfl) (fun _ _ _ h => h) (Or.inl ⟨by rfl, ?_⟩) hS ?_
         rotate_left
         · intro wv _; go_simp; try with_reducible rfl
         try simp only [Act.put, List.setIfInBounds_toArray, List.set_cons_zero, List.set_cons_succ]
         refine wpAnyH_take (i := 13) (oi := ⟨some 30, .extract (.tmp 17) 0, 24, "ref.go:89", #[⟨12, .data⟩], none⟩) (v := ?_) rfl (by kernel_rfl) (by kernel_rfl) (by kernel_rfl) (fun _ _ _ h => h) (Or.inl ⟨by rfl, ?_⟩) hS ?_
         rotate_left
         · intro wv _; go_simp; try with_reducible rfl
         try simp only [Act.put, List.setIfInBounds_toArray, List.set_cons_zero, List.set_cons_succ]
         refine wpAnyH_take (i := 14) (oi := ⟨some 31, .extract (.tmp 17) 1, 26, "ref.go:89", #[⟨12, .data⟩, ⟨17, .gcOnly .lateStores⟩], none⟩) (v := ?_) rfl (by kernel_rfl) (by kernel_rfl) (by kernel_rfl) (fun _ _ _ h => h) (Or.inl ⟨by rfl, ?_⟩) hS ?_
         rotate_left
         · intro wv _; go_simp; try with_reducible rfl
         try simp only [Act.put, List.setIfInBounds_toArray, List.set_cons_zero, List.set_cons_succ]
         refine wpAnyH_ready (rs := [17]) (by kernel_rfl) (by simp) (AllReadyH.cons (o := ⟨none, .store 24 (.tmp 10) (.tmp 30), 0, "ref.go:89", #[⟨15, .data⟩, ⟨13, .data⟩, ⟨11, .chain⟩, ⟨0, .phase⟩, ⟨1, .phase⟩, ⟨2, .phase⟩, ⟨3, .phase⟩, ⟨4, .phase⟩, ⟨5, .phase⟩, ⟨6, .phase⟩, ⟨7, .phase⟩, ⟨8, .phase⟩, ⟨9, .phase⟩, ⟨10, .phase⟩, ⟨11, .phase⟩, ⟨12, .phase⟩, ⟨13, .phase⟩, ⟨14, .textOnly .lateStores⟩, ⟨15, .phase⟩, ⟨16, .phase⟩], none⟩) rfl (fun K hK => ?_) AllReadyH.nil)
         go_simp
         replace RR := own_pair RR Va (by decide) (.slice B2 m2 d2) (.int .i64 fr)
         replace Va := blk_pair Va (.slice B2 m2 d2) (.int .i64 fr)
         replace Vq := keep_pair Vq nqa (.slice B2 m2 d2) (.int .i64 fr)
         replace HS := bel_pair HS gea (.slice B2 m2 d2) (.int .i64 fr)
         clear ca0 ca1 cq0 cq1 fa0 fa1 fq0 fq1
         generalize (wl.setCell ⟨sa, 0, none⟩ (.slice B2 m2 d2)).setCell ⟨sa, 1, none⟩ (.int .i64 fr) = x4 at *
         replace hS := HS
         have cq0 : x4.cell? ⟨z, 0, none⟩ = some (.int .i64 0) := (blk_cell Vq 0).trans rfl
         have cq1 : x4.cell? ⟨z, 1, none⟩ = some (.int .i64 0) := (blk_cell Vq 1).trans rfl
         have fq0 := blk_frozen Vq 0
         have fq1 := blk_frozen Vq 1
         refine Shut.out hK _ _ hS (fun _ => ?_)
         clear hK K
         try simp only [Act.put, List.setIfInBounds_toArray, List.set_cons_zero, List.set_cons_succ]
         refine wpAnyH_ready (rs := [18]) (by kernel_rfl) (by simp) (AllReadyH.cons (o := ⟨none, .store 26 (.tmp 11) (.tmp 31), 0, "ref.go:89", #[⟨16, .data⟩, ⟨14, .data⟩, ⟨17, .chain⟩, ⟨0, .phase⟩, ⟨1, .phase⟩, ⟨2, .phase⟩, ⟨3, .phase⟩, ⟨4, .phase⟩, ⟨5, .phase⟩, ⟨6, .phase⟩, ⟨7, .phase⟩, ⟨8, .phase⟩, ⟨9, .phase⟩, ⟨10, .phase⟩, ⟨11, .phase⟩, ⟨12, .phase⟩, ⟨13, .phase⟩, ⟨14, .phase⟩, ⟨15, .phase⟩, ⟨16, .phase⟩, ⟨17, .phase⟩], none⟩) rfl (fun K hK => ?_) AllReadyH.nil)
         go_simp
         replace RR := own_pair RR Vq (by decide) (.int .i64 (laidQ (butL pl k)).1) (.int .i64 (laidQ (butL pl k)).2)
         replace Vq := blk_pair Vq (.int .i64 (laidQ (butL pl k)).1) (.int .i64 (laidQ (butL pl k)).2)
         replace Va := keep_pair Va naq (.int .i64 (laidQ (butL pl k)).1) (.int .i64 (laidQ (butL pl k)).2)
         replace HS := bel_pair HS geq (.int .i64 (laidQ (butL pl k)).1) (.int .i64 (laidQ (butL pl k)).2)
         clear cq0 cq1 fq0 fq1
         generalize (x4.setCell ⟨z, 0, none⟩ (.int .i64 (laidQ (butL pl k)).1)).setCell ⟨z, 1, none⟩ (.int .i64 (laidQ (butL pl k)).2) = x5 at *
         replace hS := HS
         refine Shut.out hK _ _ hS (fun _ => ?_)
         clear hK K
         try simp only [Act.put, List.setIfInBounds_toArray, List.set_cons_zero, List.set_cons_succ]
         refine wpAnyH_done (by kernel_rfl) ?_ _
         refine NoPanic.normal ?_
         go_wp2_with fail
         go_meet
         exact ⟨sa, z, m2, d2, B2, rfl, rfl, Lib.hid Va, Lib.hid Vq, Lib.hid RR, Lib.hid HS, gea, geq⟩
       ·
        go_simp
        have HSZ : z ≤ u5_.heap.size := HZ.out _ HS
        have bd : Below u5_.heap.size u5_ (u5_.alloc (.cells #[.slice none 0 0, .int .i64 0] 24)) := (Below.refl _ _).alloc (Nat.le_refl _) _
        replace HS := HS.trans (bd.mono HSZ)
        replace Vq := blk_below Vq bd (blk_lt Vq)
        replace OL := own_below OL bd
        have Va : (u5_.alloc (.cells #[.slice none 0 0, .int .i64 0] 24)).heap[u5_.heap.size]? = some (.cells #[.slice none 0 0, .int .i64 0] 24) := heap_alloc_new _ _
        have gea : z ≤ u5_.heap.size := HSZ
        clear bd HSZ
        generalize u5_.alloc (.cells #[.slice none 0 0, .int .i64 0] 24) = x3 at *
        generalize hsa : u5_.heap.size = sa at *
        replace hS := HS
        go_wp2_with fail
        refine Shut.out hK _ _ hS (fun _ => ?_)
        clear hK K
        try simp only [Act.put, List.setIfInBounds_toArray, List.set_cons_zero, List.set_cons_succ]
        refine wpAnyH_ready (rs := [10]) (by kernel_rfl) (by simp) (AllReadyH.cons (o := ⟨some 28, .call { callee := .builtin .append, args := #[.tmp 23, .tmp 27], argTypes := #[37, 37] }, 37, "ref.go:89", #[⟨5, .data⟩, ⟨9, .data⟩, ⟨5, .chain⟩], none⟩) rfl (fun K hK => ?_) AllReadyH.nil)
        obtain ⟨A6, c6, u6_, hap6, own6, gr6⟩ := app_ints x3 z _ (k) _ OL Ct (m - (k + 1)) ct _ (IT.out.below (BZ.out _ HS)) (by omega) (HZ.out _ HS)
        rw [hN.out] at hap6 own6
        replace Vq := keep_grown Vq gr6 (row_int OL) (by decide)
        replace Va := keep_grown Va gr6 (row_int OL) (by decide)
        replace HS := HS.grown gr6 (HZ.out _ HS) (fun j hj => (OL.lt j hj).1)
        clear gr6 OL
        have OL := own6
        clear own6
        refine op_app_run7 (by rfl) rfl rfl rfl hap6 ?_
        clear hap6
        replace hS := HS
        refine Shut.out hK _ _ hS (fun _ => ?_)
        clear hK K
        try simp only [Act.put, List.setIfInBounds_toArray, List.set_cons_zero, List.set_cons_succ]
        refine wpAnyH_ready (rs := [11]) (by kernel_rfl) (by simp) (AllReadyH.cons (o := ⟨some 29, .call { callee := .value (.func 36), args := #[.tmp 18, .tmp 28], argTypes := #[24, 37] }, 61, "ref.go:89", #[⟨0, .data⟩, ⟨10, .data⟩, ⟨10, .chain⟩], none⟩) rfl (fun K hK => ?_) AllReadyH.nil)
        go_simp
        obtain ⟨_, _, he, hi6⟩ := Es.of_own OL (intC_one _)
        injection he with he1 he2 he3; subst he1; subst he3
        refine (LDH.out A6 _ c6 u6_ ((FR.out.step (BZ.out _ HS)).es RX.out) (show Is u6_ A6 N c6 (butL pl k) from hi6)).mono ?_
        rintro e wl ⟨B2, m2, d2, rfl, hrs, hb⟩
        replace Vq := blk_below Vq hb (blk_lt Vq)
        replace Va := blk_below Va hb (blk_lt Va)
        have RR := own_base hrs (show q + 4 ≤ u6_.heap.size from Nat.le_trans hqW (HZ.out _ HS))
        replace HS := HS.trans (hb.mono (HZ.out _ HS))
        clear hb hrs hi6 OL
        replace hS := HS
        have ca0 : wl.cell? ⟨sa, 0, none⟩ = some (.slice none 0 0) := (blk_cell Va 0).trans rfl
        have ca1 : wl.cell? ⟨sa, 1, none⟩ = some (.int .i64 0) := (blk_cell Va 1).trans rfl
        have fa0 := blk_frozen Va 0
        have fa1 := blk_frozen Va 1
        have cq0 : wl.cell? ⟨z, 0, none⟩ = some (.int .i64 0) := (blk_cell Vq 0).trans rfl
        have cq1 : wl.cell? ⟨z, 1, none⟩ = some (.int .i64 0) := (blk_cell Vq 1).trans rfl
        have fq0 := blk_frozen Vq 0
        have fq1 := blk_frozen Vq 1
        have naq : sa ≠ z := blk_ne Va Vq (by decide)
        have nqa := naq.symm
        go_wp2_with fail
        refine Shut.out hK _ _ hS (fun _ => ?_)
        clear hK K
        try simp only [Act.put, List.setIfInBounds_toArray, List.set_cons_zero, List.set_cons_succ]
        refine wpAnyH_take (i := 12) (oi := ⟨some 17, .move (.tmp 29), 61, "ref.go:89", #[⟨11, .data⟩], none⟩) (v := ?_) rfl (by kernel_rfl) (by kernel_rfl) (by kernel_rfl) (fun _ _ _ h => h) (Or.inl ⟨by rfl, ?_⟩) hS ?_
        rotate_left
        · intro wv _; go_simp; try with_reducible rfl
        try simp only [Act.put, List.setIfInBounds_toArray, List.set_cons_zero, List.set_cons_succ]
        refine wpAnyH_take (i := 13) (oi := ⟨some 30, .extract (.tmp 17) 0, 24, "ref.go:89", #[⟨12, .data⟩], none⟩) (v := ?_) rfl (by kernel_rfl) (by kernel_rfl) (by kernel_rfl) (fun _ _ _ h => h) (Or.inl ⟨by rfl, ?_⟩) hS ?_
        rotate_left
        · intro wv _; go_simp; try with_reducible rfl
        try simp only [Act.put, List.setIfInBounds_toArray, List.set_cons_zero, List.set_cons_succ]
        refine wpAnyH_take (i := 14) (oi := ⟨some 31, .extract (.tmp 17) 1, 26, "ref.go:89", #[⟨12, .data⟩, ⟨17, .gcOnly .lateStores⟩], none⟩) (v := ?_) rfl (by kernel_rfl) (by kernel_rfl) (by kernel_rfl) (fun _ _ _ h => h) (Or.inl ⟨by rfl, ?_⟩) hS ?_
        rotate_left
        · intro wv _; go_simp; try with_reducible rfl
        try simp only [Act.put, List.setIfInBounds_toArray, List.set_cons_zero, List.set_cons_succ]
        refine wpAnyH_ready (rs := [17]) (by kernel_rfl) (by simp) (AllReadyH.cons (o := ⟨none, .store 24 (.tmp 10) (.tmp 30), 0, "ref.go:89", #[⟨15, .data⟩, ⟨13, .data⟩, ⟨11, .chain⟩, ⟨0, .phase⟩, ⟨1, .phase⟩, ⟨2, .phase⟩, ⟨3, .phase⟩, ⟨4, .phase⟩, ⟨5, .phase⟩, ⟨6, .phase⟩, ⟨7, .phase⟩, ⟨8, .phase⟩, ⟨9, .phase⟩, ⟨10, .phase⟩, ⟨11, .phase⟩, ⟨12, .phase⟩, ⟨13, .phase⟩, ⟨14, .textOnly .lateStores⟩, ⟨15, .phase⟩, ⟨16, .phase⟩], none⟩) rfl (fun K hK => ?_) AllReadyH.nil)
        go_simp
        replace RR := own_pair RR Va (by decide) (.slice B2 m2 d2) (.int .i64 fr)
        replace Va := blk_pair Va (.slice B2 m2 d2) (.int .i64 fr)
        replace Vq := keep_pair Vq nqa (.slice B2 m2 d2) (.int .i64 fr)
        replace HS := bel_pair HS gea (.slice B2 m2 d2) (.int .i64 fr)
        clear ca0 ca1 cq0 cq1 fa0 fa1 fq0 fq1
        generalize (wl.setCell ⟨sa, 0, none⟩ (.slice B2 m2 d2)).setCell ⟨sa, 1, none⟩ (.int .i64 fr) = x4 at *
        replace hS := HS
        have cq0 : x4.cell? ⟨z, 0, none⟩ = some (.int .i64 0) := (blk_cell Vq 0).trans rfl
        have cq1 : x4.cell? ⟨z, 1, none⟩ = some (.int .i64 0) := (blk_cell Vq 1).trans rfl
        have fq0 := blk_frozen Vq 0
        have fq1 := blk_frozen Vq 1
        refine Shut.out hK _ _ hS (fun _ => ?_)
        clear hK K
        try simp only [Act.put, List.setIfInBounds_toArray, List.set_cons_zero, List.set_cons_succ]
        refine wpAnyH_ready (rs := [18]) (by kernel_rfl) (by simp) (AllReadyH.cons (o := ⟨none, .store 26 (.tmp 11) (.tmp 31), 0, "ref.go:89", #[⟨16, .data⟩, ⟨14, .data⟩, ⟨17, .chain⟩, ⟨0, .phase⟩, ⟨1, .phase⟩, ⟨2, .phase⟩, ⟨3, .phase⟩, ⟨4, .phase⟩, ⟨5, .phase⟩, ⟨6, .phase⟩, ⟨7, .phase⟩, ⟨8, .phase⟩, ⟨9, .phase⟩, ⟨10, .phase⟩, ⟨11, .phase⟩, ⟨12, .phase⟩, ⟨13, .phase⟩, ⟨14, .phase⟩, ⟨15, .phase⟩, ⟨16, .phase⟩, ⟨17, .phase⟩], none⟩) rfl (fun K hK => ?_) AllReadyH.nil)
        go_simp
        replace RR := own_pair RR Vq (by decide) (.int .i64 (laidQ (butL pl k)).1) (.int .i64 (laidQ (butL pl k)).2)
        replace Vq := blk_pair Vq (.int .i64 (laidQ (butL pl k)).1) (.int .i64 (laidQ (butL pl k)).2)
        replace Va := keep_pair Va naq (.int .i64 (laidQ (butL pl k)).1) (.int .i64 (laidQ (butL pl k)).2)
        replace HS := bel_pair HS geq (.int .i64 (laidQ (butL pl k)).1) (.int .i64 (laidQ (butL pl k)).2)
        clear cq0 cq1 fq0 fq1
        generalize (x4.setCell ⟨z, 0, none⟩ (.int .i64 (laidQ (butL pl k)).1)).setCell ⟨z, 1, none⟩ (.int .i64 (laidQ (butL pl k)).2) = x5 at *
        replace hS := HS
        refine Shut.out hK _ _ hS (fun _ => ?_)
        clear hK K
        try simp only [Act.put, List.setIfInBounds_toArray, List.set_cons_zero, List.set_cons_succ]
        refine wpAnyH_done (by kernel_rfl) ?_ _
        refine NoPanic.normal ?_
        go_wp2_with fail
        go_meet
        exact ⟨sa, z, m2, d2, B2, rfl, rfl, Lib.hid Va, Lib.hid Vq, Lib.hid RR, Lib.hid HS, gea, geq⟩
      ·
       go_simp
       have HSZ : z ≤ x2.heap.size := HZ.out _ HS
       have bd : Below x2.heap.size x2 (x2.alloc (.cells #[.slice none 0 0, .int .i64 0] 24)) := (Below.refl _ _).alloc (Nat.le_refl _) _
       replace HS := HS.trans (bd.mono HSZ)
       replace Vq := blk_below Vq bd (blk_lt Vq)
       replace OL := own_below OL bd
       have Va : (x2.alloc (.cells #[.slice none 0 0, .int .i64 0] 24)).heap[x2.heap.size]? = some (.cells #[.slice none 0 0, .int .i64 0] 24) := heap_alloc_new _ _
       have gea : z ≤ x2.heap.size := HSZ
       clear bd HSZ
       generalize x2.alloc (.cells #[.slice none 0 0, .int .i64 0] 24) = x3 at *
       generalize hsa : x2.heap.size = sa at *
       replace hS := HS.drew
       go_wp2_with fail
       refine Shut.out hK _ _ hS (fun _ => ?_)
       clear hK K
       try simp only [Act.put, List.setIfInBounds_toArray, List.set_cons_zero, List.set_cons_succ]
       refine wpAnyH_ready (rs := [5]) (by kernel_rfl) (by simp) (AllReadyH.cons (o := ⟨some 23, .call { callee := .builtin .append, args := #[.tmp 19, .tmp 22], argTypes := #[37, 37] }, 37, "ref.go:89", #[⟨1, .data⟩, ⟨4, .data⟩], none⟩) rfl (fun K hK => ?_) AllReadyH.nil)
       have bdr : Below x3.heap.size x3 x3.drew := (Below.refl _ _).drew
       replace OL := own_below OL bdr
       replace Vq : x3.drew.heap[_]? = _ := Vq
       replace Va : x3.drew.heap[_]? = _ := Va
       replace HS := HS.drew
       clear bdr
       obtain ⟨A5, c5, u5_, hap5, own5, gr5⟩ := app_ints x3.drew z _ (0) _ OL Ch (k) ch _ (IH.out.below (BZ.out _ HS)) (by omega) (HZ.out _ HS)
       rw [Nat.zero_add] at hap5 own5
       replace Vq := keep_grown Vq gr5 (row_int OL) (by decide)
       replace Va := keep_grown Va gr5 (row_int OL) (by decide)
       replace HS := HS.grown gr5 (HZ.out _ HS) (fun j hj => (OL.lt j hj).1)
       clear gr5 OL
       have OL := own5
       clear own5
       refine op_app_run7 (by rfl) rfl rfl rfl hap5 ?_
       clear hap5
       replace hS := HS
       refine Shut.out hK _ _ hS (fun _ => ?_)
       clear hK K
       try simp only [Act.put, List.setIfInBounds_toArray, List.set_cons_zero, List.set_cons_succ]
       refine wpAnyH_ready (rs := [10]) (by kernel_rfl) (by simp) (AllReadyH.cons (o := ⟨some 28, .call { callee := .builtin .append, args := #[.tmp 23, .tmp 27], argTypes := #[37, 37] }, 37, "ref.go:89", #[⟨5, .data⟩, ⟨9, .data⟩, ⟨5, .chain⟩], none⟩) rfl (fun K hK => ?_) AllReadyH.nil)
       obtain ⟨A6, c6, u6_, hap6, own6, gr6⟩ := app_ints u5_ z _ (k) _ OL Ct (m - (k + 1)) ct _ (IT.out.below (BZ.out _ HS)) (by omega) (HZ.out _ HS)
       rw [hN.out] at hap6 own6
       replace Vq := keep_grown Vq gr6 (row_int OL) (by decide)
       replace Va := keep_grown Va gr6 (row_int OL) (by decide)
       replace HS := HS.grown gr6 (HZ.out _ HS) (fun j hj => (OL.lt j hj).1)
       clear gr6 OL
       have OL := own6
       clear own6
       refine op_app_run7 (by rfl) rfl rfl rfl hap6 ?_
       clear hap6
       replace hS := HS
       refine Shut.out hK _ _ hS (fun _ => ?_)
       clear hK K
       try simp only [Act.put, List.setIfInBounds_toArray, List.set_cons_zero, List.set_cons_succ]
       refine wpAnyH_ready (rs := [11]) (by kernel_rfl) (by simp) (AllReadyH.cons (o := ⟨some 29, .call { callee := .value (.func 36), args := #[.tmp 18, .tmp 28], argTypes := #[24, 37] }, 61, "ref.go:89", #[⟨0, .data⟩, ⟨10, .data⟩, ⟨10, .chain⟩], none⟩) rfl (fun K hK => ?_) AllReadyH.nil)
       go_simp
       obtain ⟨_, _, he, hi6⟩ := Es.of_own OL (intC_one _)
       injection he with he1 he2 he3; subst he1; subst he3
       refine (LDH.out A6 _ c6 u6_ ((FR.out.step (BZ.out _ HS)).es RX.out) (show Is u6_ A6 N c6 (butL pl k) from hi6)).mono ?_
       rintro e wl ⟨B2, m2, d2, rfl, hrs, hb⟩
       replace Vq := blk_below Vq hb (blk_lt Vq)
       replace Va := blk_below Va hb (blk_lt Va)
       have RR := own_base hrs (show q + 4 ≤ u6_.heap.size from Nat.le_trans hqW (HZ.out _ HS))
       replace HS := HS.trans (hb.mono (HZ.out _ HS))
       clear hb hrs hi6 OL
       replace hS := HS
       have ca0 : wl.cell? ⟨sa, 0, none⟩ = some (.slice none 0 0) := (blk_cell Va 0).trans rfl
       have ca1 : wl.cell? ⟨sa, 1, none⟩ = some (.int .i64 0) := (blk_cell Va 1).trans rfl
       have fa0 := blk_frozen Va 0
       have fa1 := blk_frozen Va 1
       have cq0 : wl.cell? ⟨z, 0, none⟩ = some (.int .i64 0) := (blk_cell Vq 0).trans rfl
       have cq1 : wl.cell? ⟨z, 1, none⟩ = some (.int .i64 0) := (blk_cell Vq 1).trans rfl
       have fq0 := blk_frozen Vq 0
       have fq1 := blk_frozen Vq 1
       have naq : sa ≠ z := blk_ne Va Vq (by decide)
       have nqa := naq.symm
       go_wp2_with fail
       refine Shut.out hK _ _ hS (fun _ => ?_)
       clear hK K
       try simp only [Act.put, List.setIfInBounds_toArray, List.set_cons_zero, List.set_cons_succ]
       refine wpAnyH_take (i := 12) (oi := ⟨some 17, .move (.tmp 29), 61, "ref.go:89", #[⟨11, .data⟩], none⟩) (v := ?_) rfl (by kernel_rfl) (by kernel_rfl) (by kernel_rfl) (fun _ _ _ h => h) (Or.inl ⟨by rfl, ?_⟩) hS ?_
       rotate_left
       · intro wv _; go_simp; try with_reducible rfl
       try simp only [Act.put, List.setIfInBounds_toArray, List.set_cons_zero, List.set_cons_succ]
       refine wpAnyH_take (i := 13) (oi := ⟨some 30, .extract (.tmp 17) 0, 24, "ref.go:89", #[⟨12, .data⟩], none⟩) (v := ?_) rfl (by kernel_rfl) (by kernel_rfl) (by kernel_rfl) (fun _ _ _ h => h) (Or.inl ⟨by rfl, ?_⟩) hS ?_
       rotate_left
       · intro wv _; go_simp; try with_reducible rfl
       try simp only [Act.put, List.setIfInBounds_toArray, List.set_cons_zero, List.set_cons_succ]
       refine wpAnyH_take (i := 14) (oi := ⟨some 31, .extract (.tmp 17) 1, 26, "ref.go:89", #[⟨12, .data⟩, ⟨17, .gcOnly .lateStores⟩], none⟩) (v := ?_) rfl (by kernel_rfl) (by kernel_rfl) (by kernel_rfl) (fun _ _ _ h => h) (Or.inl ⟨by rfl, ?_⟩) hS ?_
       rotate_left
       · intro wv _; go_simp; try with_reducible rfl
       try simp only [Act.put, List.setIfInBounds_toArray, List.set_cons_zero, List.set_cons_succ]
       refine wpAnyH_ready (rs := [17]) (by kernel_rfl) (by simp) (AllReadyH.cons (o := ⟨none, .store 24 (.tmp 10) (.tmp 30), 0, "ref.go:89", #[⟨15, .data⟩, ⟨13, .data⟩, ⟨11, .chain⟩, ⟨0, .phase⟩, ⟨1, .phase⟩, ⟨2, .phase⟩, ⟨3, .phase⟩, ⟨4, .phase⟩, ⟨5, .phase⟩, ⟨6, .phase⟩, ⟨7, .phase⟩, ⟨8, .phase⟩, ⟨9, .phase⟩, ⟨10, .phase⟩, ⟨11, .phase⟩, ⟨12, .phase⟩, ⟨13, .phase⟩, ⟨14, .textOnly .lateStores⟩, ⟨15, .phase⟩, ⟨16, .phase⟩], none⟩) rfl (fun K hK => ?_) AllReadyH.nil)
       go_simp
       replace RR := own_pair RR Va (by decide) (.slice B2 m2 d2) (.int .i64 fr)
       replace Va := blk_pair Va (.slice B2 m2 d2) (.int .i64 fr)
       replace Vq := keep_pair Vq nqa (.slice B2 m2 d2) (.int .i64 fr)
       replace HS := bel_pair HS gea (.slice B2 m2 d2) (.int .i64 fr)
       clear ca0 ca1 cq0 cq1 fa0 fa1 fq0 fq1
       generalize (wl.setCell ⟨sa, 0, none⟩ (.slice B2 m2 d2)).setCell ⟨sa, 1, none⟩ (.int .i64 fr) = x4 at *
       replace hS := HS
       have cq0 : x4.cell? ⟨z, 0, none⟩ = some (.int .i64 0) := (blk_cell Vq 0).trans rfl
       have cq1 : x4.cell? ⟨z, 1, none⟩ = some (.int .i64 0) := (blk_cell Vq 1).trans rfl
       have fq0 := blk_frozen Vq 0
       have fq1 := blk_frozen Vq 1
       refine Shut.out hK _ _ hS (fun _ => ?_)
       clear hK K
       try simp only [Act.put, List.setIfInBounds_toArray, List.set_cons_zero, List.set_cons_succ]
       refine wpAnyH_ready (rs := [18]) (by kernel_rfl) (by simp) (AllReadyH.cons (o := ⟨none, .store 26 (.tmp 11) (.tmp 31), 0, "ref.go:89", #[⟨16, .data⟩, ⟨14, .data⟩, ⟨17, .chain⟩, ⟨0, .phase⟩, ⟨1, .phase⟩, ⟨2, .phase⟩, ⟨3, .phase⟩, ⟨4, .phase⟩, ⟨5, .phase⟩, ⟨6, .phase⟩, ⟨7, .phase⟩, ⟨8, .phase⟩, ⟨9, .phase⟩, ⟨10, .phase⟩, ⟨11, .phase⟩, ⟨12, .phase⟩, ⟨13, .phase⟩, ⟨14, .phase⟩, ⟨15, .phase⟩, ⟨16, .phase⟩, ⟨17, .phase⟩], none⟩) rfl (fun K hK => ?_) AllReadyH.nil)
       go_simp
       replace RR := own_pair RR Vq (by decide) (.int .i64 (laidQ (butL pl k)).1) (.int .i64 (laidQ (butL pl k)).2)
       replace Vq := blk_pair Vq (.int .i64 (laidQ (butL pl k)).1) (.int .i64 (laidQ (butL pl k)).2)
       replace Va := keep_pair Va naq (.int .i64 (laidQ (butL pl k)).1) (.int .i64 (laidQ (butL pl k)).2)
       replace HS := bel_pair HS geq (.int .i64 (laidQ (butL pl k)).1) (.int .i64 (laidQ (butL pl k)).2)
       clear cq0 cq1 fq0 fq1
       generalize (x4.setCell ⟨z, 0, none⟩ (.int .i64 (laidQ (butL pl k)).1)).setCell ⟨z, 1, none⟩ (.int .i64 (laidQ (butL pl k)).2) = x5 at *
       replace hS := HS
       refine Shut.out hK _ _ hS (fun _ => ?_)
       clear hK K
       try simp only [Act.put, List.setIfInBounds_toArray, List.set_cons_zero, List.set_cons_succ]
       refine wpAnyH_done (by kernel_rfl) ?_ _
       refine NoPanic.normal ?_
       go_wp2_with fail
       go_meet
       exact ⟨sa, z, m2, d2, B2, rfl, rfl, Lib.hid Va, Lib.hid Vq, Lib.hid RR, Lib.hid HS, gea, geq⟩
     ·
      go_simp
      have HSZ : z ≤ x1.heap.size := HZ.out _ HS
      have bd : Below x1.heap.size x1 (x1.alloc (.cells #[.slice none 0 0, .int .i64 0] 24)) := (Below.refl _ _).alloc (Nat.le_refl _) _
      replace HS := HS.trans (bd.mono HSZ)
      replace Vq := blk_below Vq bd (blk_lt Vq)
      have Va : (x1.alloc (.cells #[.slice none 0 0, .int .i64 0] 24)).heap[x1.heap.size]? = some (.cells #[.slice none 0 0, .int .i64 0] 24) := heap_alloc_new _ _
      have gea : z ≤ x1.heap.size := HSZ
      clear bd HSZ
      generalize x1.alloc (.cells #[.slice none 0 0, .int .i64 0] 24) = x2 at *
      generalize hsa : x1.heap.size = sa at *
      replace hS := HS.drew
      go_wp2_with fail
      refine Shut.out hK _ _ hS (fun _ => ?_)
      clear hK K
      try simp only [Act.put, List.setIfInBounds_toArray, List.set_cons_zero, List.set_cons_succ]
      refine wpAnyH_ready (rs := [1]) (by kernel_rfl) (by simp) (AllReadyH.cons (o := ⟨some 19, .buildSlice 37 0 #[], 37, "ref.go:89", #[], none⟩) rfl (fun K hK => ?_) AllReadyH.nil)
      go_simp
      have HSZ : z ≤ x2.heap.size := HZ.out _ HS
      have bd : Below x2.heap.size x2 (x2.alloc (.cells #[] 3)) := (Below.refl _ _).alloc (Nat.le_refl _) _
      replace HS := HS.trans (bd.mono HSZ)
      replace Vq := blk_below Vq bd (blk_lt Vq)
      replace Va := blk_below Va bd (blk_lt Va)
      have OL : (x2.alloc (.cells #[] 3)).ownsRow z 3 1 (.slice (some ⟨x2.heap.size, 0, none⟩) 0 0) 0 (intC []) := lit_ints x2 HSZ [] (by simp) rfl
      clear bd HSZ
      generalize x2.alloc (.cells #[] 3) = x3 at *
      generalize hsl : x2.heap.size = sl at *
      replace hS := HS.drew
      refine Shut.out hK _ _ hS (fun _ => ?_)
      clear hK K
      try simp only [Act.put, List.setIfInBounds_toArray, List.set_cons_zero, List.set_cons_succ]
      refine wpAnyH_ready (rs := [5]) (by kernel_rfl) (by simp) (AllReadyH.cons (o := ⟨some 23, .call { callee := .builtin .append, args := #[.tmp 19, .tmp 22], argTypes := #[37, 37] }, 37, "ref.go:89", #[⟨1, .data⟩, ⟨4, .data⟩], none⟩) rfl (fun K hK => ?_) AllReadyH.nil)
      have bdr : Below x3.heap.size x3 x3.drew := (Below.refl _ _).drew
      replace OL := own_below OL bdr
      replace Vq : x3.drew.heap[_]? = _ := Vq
      replace Va : x3.drew.heap[_]? = _ := Va
      replace HS := HS.drew
      clear bdr
      obtain ⟨A5, c5, u5_, hap5, own5, gr5⟩ := app_ints x3.drew z _ (0) _ OL Ch (k) ch _ (IH.out.below (BZ.out _ HS)) (by omega) (HZ.out _ HS)
      rw [Nat.zero_add] at hap5 own5
      replace Vq := keep_grown Vq gr5 (row_int OL) (by decide)
      replace Va := keep_grown Va gr5 (row_int OL) (by decide)
      replace HS := HS.grown gr5 (HZ.out _ HS) (fun j hj => (OL.lt j hj).1)
      clear gr5 OL
      have OL := own5
      clear own5
      refine op_app_run7 (by rfl) rfl rfl rfl hap5 ?_
      clear hap5
      replace hS := HS
      refine Shut.out hK _ _ hS (fun _ => ?_)
      clear hK K
      try simp only [Act.put, List.setIfInBounds_toArray, List.set_cons_zero, List.set_cons_succ]
      refine wpAnyH_ready (rs := [10]) (by kernel_rfl) (by simp) (AllReadyH.cons (o := ⟨some 28, .call { callee := .builtin .append, args := #[.tmp 23, .tmp 27], argTypes := #[37, 37] }, 37, "ref.go:89", #[⟨5, .data⟩, ⟨9, .data⟩, ⟨5, .chain⟩], none⟩) rfl (fun K hK => ?_) AllReadyH.nil)
      obtain ⟨A6, c6, u6_, hap6, own6, gr6⟩ := app_ints u5_ z _ (k) _ OL Ct (m - (k + 1)) ct _ (IT.out.below (BZ.out _ HS)) (by omega) (HZ.out _ HS)
      rw [hN.out] at hap6 own6
      replace Vq := keep_grown Vq gr6 (row_int OL) (by decide)
      replace Va := keep_grown Va gr6 (row_int OL) (by decide)
      replace HS := HS.grown gr6 (HZ.out _ HS) (fun j hj => (OL.lt j hj).1)
      clear gr6 OL
      have OL := own6
      clear own6
      refine op_app_run7 (by rfl) rfl rfl rfl hap6 ?_
      clear hap6
      replace hS := HS
      refine Shut.out hK _ _ hS (fun _ => ?_)
      clear hK K
      try simp only [Act.put, List.setIfInBounds_toArray, List.set_cons_zero, List.set_cons_succ]
      refine wpAnyH_ready (rs := [11]) (by kernel_rfl) (by simp) (AllReadyH.cons (o := ⟨some 29, .call { callee := .value (.func 36), args := #[.tmp 18, .tmp 28], argTypes := #[24, 37] }, 61, "ref.go:89", #[⟨0, .data⟩, ⟨10, .data⟩, ⟨10, .chain⟩], none⟩) rfl (fun K hK => ?_) AllReadyH.nil)
      go_simp
      obtain ⟨_, _, he, hi6⟩ := Es.of_own OL (intC_one _)
      injection he with he1 he2 he3; subst he1; subst he3
      refine (LDH.out A6 _ c6 u6_ ((FR.out.step (BZ.out _ HS)).es RX.out) (show Is u6_ A6 N c6 (butL pl k) from hi6)).mono ?_
      rintro e wl ⟨B2, m2, d2, rfl, hrs, hb⟩
      replace Vq := blk_below Vq hb (blk_lt Vq)
      replace Va := blk_below Va hb (blk_lt Va)
      have RR := own_base hrs (show q + 4 ≤ u6_.heap.size from Nat.le_trans hqW (HZ.out _ HS))
      replace HS := HS.trans (hb.mono (HZ.out _ HS))
      clear hb hrs hi6 OL
      replace hS := HS
      have ca0 : wl.cell? ⟨sa, 0, none⟩ = some (.slice none 0 0) := (blk_cell Va 0).trans rfl
      have ca1 : wl.cell? ⟨sa, 1, none⟩ = some (.int .i64 0) := (blk_cell Va 1).trans rfl
      have fa0 := blk_frozen Va 0
      have fa1 := blk_frozen Va 1
      have cq0 : wl.cell? ⟨z, 0, none⟩ = some (.int .i64 0) := (blk_cell Vq 0).trans rfl
      have cq1 : wl.cell? ⟨z, 1, none⟩ = some (.int .i64 0) := (blk_cell Vq 1).trans rfl
      have fq0 := blk_frozen Vq 0
      have fq1 := blk_frozen Vq 1
      have naq : sa ≠ z := blk_ne Va Vq (by decide)
      have nqa := naq.symm
      go_wp2_with fail
      refine Shut.out hK _ _ hS (fun _ => ?_)
      clear hK K
      try simp only [Act.put, List.setIfInBounds_toArray, List.set_cons_zero, List.set_cons_succ]
      refine wpAnyH_take (i := 12) (oi := ⟨some 17, .move (.tmp 29), 61, "ref.go:89", #[⟨11, .data⟩], none⟩) (v := ?_) rfl (by kernel_rfl) (by kernel_rfl) (by kernel_rfl) (fun _ _ _ h => h) (Or.inl ⟨by rfl, ?_⟩) hS ?_
      rotate_left
      · intro wv _; go_simp; try with_reducible rfl
      try simp only [Act.put, List.setIfInBounds_toArray, List.set_cons_zero, List.set_cons_succ]
      refine wpAnyH_take (i := 13) (oi := ⟨some 30, .extract (.tmp 17) 0, 24, "ref.go:89", #[⟨12, .data⟩], none⟩) (v := ?_) rfl (by kernel_rfl) (by kernel_rfl) (by kernel_rfl) (fun _ _ _ h => h) (Or.inl ⟨by rfl, ?_⟩) hS ?_
      rotate_left
      · intro wv _; go_simp; try with_reducible rfl
      try simp only [Act.put, List.setIfInBounds_toArray, List.set_cons_zero, List.set_cons_succ]
      refine wpAnyH_take (i := 14) (oi := ⟨some 31, .extract (.tmp 17) 1, 26, "ref.go:89", #[⟨12, .data⟩, ⟨17, .gcOnly .lateStores⟩], none⟩) (v := ?_) rfl (by kernel_rfl) (by kernel_rfl) (by kernel_rfl) (fun _ _ _ h => h) (Or.inl ⟨by rfl, ?_⟩) hS ?_
      rotate_left
      · intro wv _; go_simp; try with_reducible rfl
      try simp only [Act.put, List.setIfInBounds_toArray, List.set_cons_zero, List.set_cons_succ]
      refine wpAnyH_ready (rs := [17]) (by kernel_rfl) (by simp) (AllReadyH.cons (o := ⟨none, .store 24 (.tmp 10) (.tmp 30), 0, "ref.go:89", #[⟨15, .data⟩, ⟨13, .data⟩, ⟨11, .chain⟩, ⟨0, .phase⟩, ⟨1, .phase⟩, ⟨2, .phase⟩, ⟨3, .phase⟩, ⟨4, .phase⟩, ⟨5, .phase⟩, ⟨6, .phase⟩, ⟨7, .phase⟩, ⟨8, .phase⟩, ⟨9, .phase⟩, ⟨10, .phase⟩, ⟨11, .phase⟩, ⟨12, .phase⟩, ⟨13, .phase⟩, ⟨14, .textOnly .lateStores⟩, ⟨15, .phase⟩, ⟨16, .phase⟩], none⟩) rfl (fun K hK => ?_) AllReadyH.nil)
      go_simp
      replace RR := own_pair RR Va (by decide) (.slice B2 m2 d2) (.int .i64 fr)
      replace Va := blk_pair Va (.slice B2 m2 d2) (.int .i64 fr)
      replace Vq := keep_pair Vq nqa (.slice B2 m2 d2) (.int .i64 fr)
      replace HS := bel_pair HS gea (.slice B2 m2 d2) (.int .i64 fr)
      clear ca0 ca1 cq0 cq1 fa0 fa1 fq0 fq1
      generalize (wl.setCell ⟨sa, 0, none⟩ (.slice B2 m2 d2)).setCell ⟨sa, 1, none⟩ (.int .i64 fr) = x4 at *
      replace hS := HS
      have cq0 : x4.cell? ⟨z, 0, none⟩ = some (.int .i64 0) := (blk_cell Vq 0).trans rfl
      have cq1 : x4.cell? ⟨z, 1, none⟩ = some (.int .i64 0) := (blk_cell Vq 1).trans rfl
      have fq0 := blk_frozen Vq 0
      have fq1 := blk_frozen Vq 1
      refine Shut.out hK _ _ hS (fun _ => ?_)
      clear hK K
      try simp only [Act.put, List.setIfInBounds_toArray, List.set_cons_zero, List.set_cons_succ]
      refine wpAnyH_ready (rs := [18]) (by kernel_rfl) (by simp) (AllReadyH.cons (o := ⟨none, .store 26 (.tmp 11) (.tmp 31), 0, "ref.go:89", #[⟨16, .data⟩, ⟨14, .data⟩, ⟨17, .chain⟩, ⟨0, .phase⟩, ⟨1, .phase⟩, ⟨2, .phase⟩, ⟨3, .phase⟩, ⟨4, .phase⟩, ⟨5, .phase⟩, ⟨6, .phase⟩, ⟨7, .phase⟩, ⟨8, .phase⟩, ⟨9, .phase⟩, ⟨10, .phase⟩, ⟨11, .phase⟩, ⟨12, .phase⟩, ⟨13, .phase⟩, ⟨14, .phase⟩, ⟨15, .phase⟩, ⟨16, .phase⟩, ⟨17, .phase⟩], none⟩) rfl (fun K hK => ?_) AllReadyH.nil)
      go_simp
      replace RR := own_pair RR Vq (by decide) (.int .i64 (laidQ (butL pl k)).1) (.int .i64 (laidQ (butL pl k)).2)
      replace Vq := blk_pair Vq (.int .i64 (laidQ (butL pl k)).1) (.int .i64 (laidQ (butL pl k)).2)
      replace Va := keep_pair Va naq (.int .i64 (laidQ (butL pl k)).1) (.int .i64 (laidQ (butL pl k)).2)
      replace HS := bel_pair HS geq (.int .i64 (laidQ (butL pl k)).1) (.int .i64 (laidQ (butL pl k)).2)
      clear cq0 cq1 fq0 fq1
      generalize (x4.setCell ⟨z, 0, none⟩ (.int .i64 (laidQ (butL pl k)).1)).setCell ⟨z, 1, none⟩ (.int .i64 (laidQ (butL pl k)).2) = x5 at *
      replace hS := HS
      refine Shut.out hK _ _ hS (fun _ => ?_)
      clear hK K
      try simp only [Act.put, List.setIfInBounds_toArray, List.set_cons_zero, List.set_cons_succ]
      refine wpAnyH_done (by kernel_rfl) ?_ _
      refine NoPanic.normal ?_
      go_wp2_with fail
      go_meet
      exact ⟨sa, z, m2, d2, B2, rfl, rfl, Lib.hid Va, Lib.hid Vq, Lib.hid RR, Lib.hid HS, gea, geq⟩
  case rest =>
  obtain ⟨sa, sq, m2, d2, B2, rfl, rfl, Va, Vq, RR, HS, gea, geq⟩ := hcut
  obtain ⟨wd, hwd⟩ : ∃ x, x = wc := ⟨_, rfl⟩
  subst hwd
  replace FR := Lib.hid (FR.out.step (BZ.out _ HS.out))
  replace hlc := (HS.out.cell (p := ⟨pb, poff + k, none⟩) hlb).trans hlc
  have hlb2 : pb < wd.heap.size := Nat.lt_of_lt_of_le hlb (HZ.out _ HS.out)
  have hqc : q + 4 ≤ wd.heap.size := Nat.le_trans hqW (HZ.out _ HS.out)
  have lta := blk_lt Va.out
  have ltq := blk_lt Vq.out
  obtain ⟨_, _, he, hrl2⟩ := rs_of_own RR.out
  injection he with he1 he2 he3; subst he1; subst he3
  have RL := Lib.hid hrl2
  clear hrl2 LDH RR IP hsh hst IH IT HZ BZ HBM HBL P1
  go_upto_region 3 with fail
  go_cut [12, 13] from 14 (fun s12 s13 wx => ∃ (sg m3 d3 : Nat) (B3 : Option Addr), s12 = .pointer (some ⟨sg, 0, none⟩) ∧ s13 = .int .i64 eg ∧ Hid (wx.heap[sg]? = some (.cells #[.slice B3 m3 d3, .int .i64 fg] 24)) ∧ Hid (eg = 0 → wx.ownsRow (q + 4) 55 3 (.slice B3 m3 d3) m3 (recC rg)) ∧ Hid (Below wd.heap.size wd wx) ∧ wd.heap.size ≤ sg)
  case first =>
    generalize hy : wd.heap.size = y at *
    refine wp_region_noPanic ?_
    refine wp_region_held_drew (S := (fun wv => Below y wd wv)) (by kernel_rfl) ((Below.refl _ wd).drew) (fun hS => ?_)
    refine wpAnyH_take (i := 0) (oi := ⟨some 33, .load 24 (.tmp 10), 24, "ref.go:90", #[], none⟩) (v := .agg (([.slice B2 m2 d2, .int .i64 fr] : List Value)).toArray) rfl (by kernel_rfl) (by kernel_rfl) (by kernel_rfl) (fun _ _ _ h => h) (yieldsIf_load_mid (by rfl) _ _ (by rfl) (sa) 0 (by rfl) (([.slice B2 m2 d2, .int .i64 fr] : List Value)) _ (fun wv hS => blk_rngl ((hS.block sa lta).trans Va.out)) Try.underlying24 (by rfl) (by kernel_rfl)) hS ?_
    try simp only [Act.put, List.setIfInBounds_toArray, List.set_cons_zero, List.set_cons_succ]
    refine wpAnyH_take (i := 1) (oi := ⟨some 34, .move (.tmp 9), 37, "ref.go:90", #[], none⟩) (v := ?_) rfl (by kernel_rfl) (by kernel_rfl) (by kernel_rfl) (fun _ _ _ h => h) (Or.inl ⟨by rfl, ?_⟩) hS ?_
    rotate_left
    · intro wv _; go_simp; try with_reducible rfl
    try simp only [Act.put, List.setIfInBounds_toArray, List.set_cons_zero, List.set_cons_succ]
    refine wpAnyH_take (i := 2) (oi := ⟨some 35, .move (.tmp 2), 3, "ref.go:90", #[], none⟩) (v := ?_) rfl (by kernel_rfl) (by kernel_rfl) (by kernel_rfl) (fun _ _ _ h => h) (Or.inl ⟨by rfl, ?_⟩) hS ?_
    rotate_left
    · intro wv _; go_simp; try with_reducible rfl
    try simp only [Act.put, List.setIfInBounds_toArray, List.set_cons_zero, List.set_cons_succ]
    refine wpAnyH_take (i := 3) (oi := ⟨some 36, .indexAddr 37 (.tmp 34) (.tmp 35), 0, "ref.go:90", #[⟨1, .data⟩, ⟨2, .data⟩], none⟩) (v := ?_) rfl (by kernel_rfl) (by kernel_rfl) (by kernel_rfl) (fun _ _ _ h => h) (Or.inl ⟨by rfl, ?_⟩) hS ?_
    rotate_left
    · intro wv _; go_simp; try with_reducible rfl
    try simp only [Act.put, List.setIfInBounds_toArray, List.set_cons_zero, List.set_cons_succ]
    refine wpAnyH_take (i := 4) (oi := ⟨some 37, .load 3 (.tmp 36), 3, "ref.go:90", #[⟨3, .data⟩], none⟩) (v := ?_) rfl (by kernel_rfl) (by kernel_rfl) (by kernel_rfl) (fun _ _ _ h => h) (Or.inl ⟨by rfl, ?_⟩) hS ?_
    rotate_left
    · intro wv hS; have hrun := (hS.cell (p := ⟨pb, poff + k, none⟩) hlb2).trans hlc; go_simp; try with_reducible rfl
    try simp only [Act.put, List.setIfInBounds_toArray, List.set_cons_zero, List.set_cons_succ]
    refine wpAnyH_ready (rs := [5, 9]) (by kernel_rfl) (by simp) (AllReadyH.cons (o := ⟨some 38, .call { callee := .value (.func 43), args := #[.tmp 33, .tmp 37], argTypes := #[24, 3] }, 46, "ref.go:90", #[⟨0, .data⟩, ⟨4, .data⟩], none⟩) rfl (fun K hK => ?_) (AllReadyH.cons (o := ⟨some 12, .alloc 24, 0, "ref.go:90", #[], none⟩) rfl (fun K hK => ?_) AllReadyH.nil))
    ·
     go_simp
     have HS : Below y wd wd := Below.refl _ _
     have HSw : Below y wd wd.drew := HS.drew
     refine (GVH.out B2 m2 d2 wd.drew (Es.below RL.out (by rw [hy]; exact HSw))).mono ?_
     rintro e wg ⟨B3, m3, d3, rfl, hrg, hb, hown⟩
     have hsz : y ≤ wd.drew.heap.size := by have h := HSw.size; rwa [hy] at h
     have OG := fun h => own_base (hown h) (Nat.le_trans hqc hsz)
     replace HS := HSw.trans (hb.mono hsz)
     clear HSw hb hown hrg hsz
     replace hS := HS
     go_wp2_with fail
     refine Shut.out hK _ _ hS (fun _ => ?_)
     clear hK K
     try simp only [Act.put, List.setIfInBounds_toArray, List.set_cons_zero, List.set_cons_succ]
     refine wpAnyH_take (i := 6) (oi := ⟨some 32, .move (.tmp 38), 46, "ref.go:90", #[⟨5, .data⟩], none⟩) (v := ?_) rfl (by kernel_rfl) (by kernel_rfl) (by kernel_rfl) (fun _ _ _ h => h) (Or.inl ⟨by rfl, ?_⟩) hS ?_
     rotate_left
     · intro wv _; go_simp; try with_reducible rfl
     try simp only [Act.put, List.setIfInBounds_toArray, List.set_cons_zero, List.set_cons_succ]
     refine wpAnyH_take (i := 7) (oi := ⟨some 39, .extract (.tmp 32) 0, 24, "ref.go:90", #[⟨6, .data⟩], none⟩) (v := ?_) rfl (by kernel_rfl) (by kernel_rfl) (by kernel_rfl) (fun _ _ _ h => h) (Or.inl ⟨by rfl, ?_⟩) hS ?_
     rotate_left
     · intro wv _; go_simp; try with_reducible rfl
     try simp only [Act.put, List.setIfInBounds_toArray, List.set_cons_zero, List.set_cons_succ]
     refine wpAnyH_take (i := 8) (oi := ⟨some 40, .extract (.tmp 32) 1, 29, "ref.go:90", #[⟨6, .data⟩, ⟨10, .gcOnly .lateStores⟩], none⟩) (v := ?_) rfl (by kernel_rfl) (by kernel_rfl) (by kernel_rfl) (fun _ _ _ h => h) (Or.inl ⟨by rfl, ?_⟩) hS ?_
     rotate_left
     · intro wv _; go_simp; try with_reducible rfl
     try simp only [Act.put, List.setIfInBounds_toArray, List.set_cons_zero, List.set_cons_succ]
     refine wpAnyH_ready (rs := [9]) (by kernel_rfl) (by simp) (AllReadyH.cons (o := ⟨some 12, .alloc 24, 0, "ref.go:90", #[], none⟩) rfl (fun K hK => ?_) AllReadyH.nil)
     go_simp
     have bd : Below wg.heap.size wg (wg.alloc (.cells #[.slice none 0 0, .int .i64 0] 24)) := (Below.refl _ _).alloc (Nat.le_refl _) _
     have hsz : y ≤ wg.heap.size := by have h := HS.size; rwa [hy] at h
     have Vg : (wg.alloc (.cells #[.slice none 0 0, .int .i64 0] 24)).heap[wg.heap.size]? = some (.cells #[.slice none 0 0, .int .i64 0] 24) := heap_alloc_new _ _
     replace HS := HS.trans (bd.mono hsz)
     have geg : y ≤ wg.heap.size := hsz
     replace OG := fun h => own_below (OG h) bd
     clear bd hsz
     generalize wg.alloc (.cells #[.slice none 0 0, .int .i64 0] 24) = y1 at *
     generalize hsg : wg.heap.size = sg at *
     replace hS := HS
     have cg0 : y1.cell? ⟨sg, 0, none⟩ = some (.slice none 0 0) := (blk_cell Vg 0).trans rfl
     have cg1 : y1.cell? ⟨sg, 1, none⟩ = some (.int .i64 0) := (blk_cell Vg 1).trans rfl
     have fg0 := blk_frozen Vg 0
     have fg1 := blk_frozen Vg 1
     go_wp2_with fail
     refine Shut.out hK _ _ hS (fun _ => ?_)
     clear hK K
     try simp only [Act.put, List.setIfInBounds_toArray, List.set_cons_zero, List.set_cons_succ]
     refine wpAnyH_ready (rs := [10]) (by kernel_rfl) (by simp) (AllReadyH.cons (o := ⟨none, .store 24 (.tmp 12) (.tmp 39), 0, "ref.go:90", #[⟨9, .data⟩, ⟨7, .data⟩, ⟨5, .chain⟩, ⟨0, .phase⟩, ⟨1, .phase⟩, ⟨2, .phase⟩, ⟨3, .phase⟩, ⟨4, .phase⟩, ⟨5, .phase⟩, ⟨6, .phase⟩, ⟨7, .phase⟩, ⟨8, .textOnly .lateStores⟩, ⟨9, .phase⟩], none⟩) rfl (fun K hK => ?_) AllReadyH.nil)
     go_simp
     have Vg2 := blk_pair Vg (.slice B3 m3 d3) (.int .i64 fg)
     have OG2 := fun h => own_other (own_other (OG h) (k := sg) (o := 0) (u := .slice B3 m3 d3) (own_ne (OG h) Vg (by decide))) (k := sg) (o := 1) (u := .int .i64 fg) (own_ne (OG h) Vg (by decide))
     have HS2 := bel_pair HS geg (.slice B3 m3 d3) (.int .i64 fg)
     clear Vg OG HS cg0 cg1 fg0 fg1
     generalize (y1.setCell ⟨sg, 0, none⟩ (.slice B3 m3 d3)).setCell ⟨sg, 1, none⟩ (.int .i64 fg) = y2 at *
     have Vg := Vg2
     have OG := OG2
     have HS := HS2
     clear Vg2 OG2 HS2
     replace hS := HS
     refine Shut.out hK _ _ hS (fun _ => ?_)
     clear hK K
     try simp only [Act.put, List.setIfInBounds_toArray, List.set_cons_zero, List.set_cons_succ]
     refine wpAnyH_take (i := 11) (oi := ⟨some 13, .assign (.tmp 40), 29, "ref.go:90", #[⟨8, .data⟩, ⟨10, .chain⟩, ⟨0, .phase⟩, ⟨1, .phase⟩, ⟨2, .phase⟩, ⟨3, .phase⟩, ⟨4, .phase⟩, ⟨5, .phase⟩, ⟨6, .phase⟩, ⟨7, .phase⟩, ⟨8, .phase⟩, ⟨9, .phase⟩, ⟨10, .phase⟩], none⟩) (v := ?_) rfl (by kernel_rfl) (by kernel_rfl) (by kernel_rfl) (fun _ _ _ h => h) (Or.inl ⟨by rfl, ?_⟩) hS ?_
     rotate_left
     · intro wv _; go_simp; try with_reducible rfl
     try simp only [Act.put, List.setIfInBounds_toArray, List.set_cons_zero, List.set_cons_succ]
     refine wpAnyH_done (by kernel_rfl) ?_ _
     refine NoPanic.normal ?_
     go_wp2_with fail
     go_meet
     exact ⟨sg, m3, d3, B3, rfl, rfl, Lib.hid Vg, Lib.hid OG, Lib.hid HS, geg⟩
    ·
     go_simp
     have HS : Below y wd wd := Below.refl _ _
     have bd : Below y wd (wd.alloc (.cells #[.slice none 0 0, .int .i64 0] 24)) := by have h := (Below.refl wd.heap.size wd).alloc (Nat.le_refl _) (.cells #[.slice none 0 0, .int .i64 0] 24); rwa [hy] at h
     have Vg : (wd.alloc (.cells #[.slice none 0 0, .int .i64 0] 24)).heap[y]? = some (.cells #[.slice none 0 0, .int .i64 0] 24) := by have h := heap_alloc_new wd (.cells #[.slice none 0 0, .int .i64 0] 24); rw [hy] at h; exact h
     replace HS := HS.trans bd
     have geg : y ≤ y := Nat.le_refl _
     clear bd
     generalize wd.alloc (.cells #[.slice none 0 0, .int .i64 0] 24) = y1 at *
     replace hS := HS.drew
     go_wp2_with fail
     refine Shut.out hK _ _ hS (fun _ => ?_)
     clear hK K
     try simp only [Act.put, List.setIfInBounds_toArray, List.set_cons_zero, List.set_cons_succ]
     refine wpAnyH_ready (rs := [5]) (by kernel_rfl) (by simp) (AllReadyH.cons (o := ⟨some 38, .call { callee := .value (.func 43), args := #[.tmp 33, .tmp 37], argTypes := #[24, 3] }, 46, "ref.go:90", #[⟨0, .data⟩, ⟨4, .data⟩], none⟩) rfl (fun K hK => ?_) AllReadyH.nil)
     go_simp
     have HSw : Below y wd y1.drew := HS.drew
     refine (GVH.out B2 m2 d2 y1.drew (Es.below RL.out (by rw [hy]; exact HSw))).mono ?_
     rintro e wg ⟨B3, m3, d3, rfl, hrg, hb, hown⟩
     have hsz : y ≤ y1.drew.heap.size := by have h := HSw.size; rwa [hy] at h
     replace Vg := blk_below (show y1.drew.heap[_]? = _ from Vg) hb (blk_lt Vg)
     have OG := fun h => own_base (hown h) (Nat.le_trans hqc hsz)
     replace HS := HSw.trans (hb.mono hsz)
     clear HSw hb hown hrg hsz
     replace hS := HS
     have cg0 : wg.cell? ⟨y, 0, none⟩ = some (.slice none 0 0) := (blk_cell Vg 0).trans rfl
     have cg1 : wg.cell? ⟨y, 1, none⟩ = some (.int .i64 0) := (blk_cell Vg 1).trans rfl
     have fg0 := blk_frozen Vg 0
     have fg1 := blk_frozen Vg 1
     go_wp2_with fail
     refine Shut.out hK _ _ hS (fun _ => ?_)
     clear hK K
     try simp only [Act.put, List.setIfInBounds_toArray, List.set_cons_zero, List.set_cons_succ]
     refine wpAnyH_take (i := 6) (oi := ⟨some 32, .move (.tmp 38), 46, "ref.go:90", #[⟨5, .data⟩], none⟩) (v := ?_) rfl (by kernel_rfl) (by kernel_rfl) (by kernel_rfl) (fun _ _ _ h => h) (Or.inl ⟨by rfl, ?_⟩) hS ?_
     rotate_left
     · intro wv _; go_simp; try with_reducible rfl
     try simp only [Act.put, List.setIfInBounds_toArray, List.set_cons_zero, List.set_cons_succ]
     refine wpAnyH_take (i := 7) (oi := ⟨some 39, .extract (.tmp 32) 0, 24, "ref.go:90", #[⟨6, .data⟩], none⟩) (v := ?_) rfl (by kernel_rfl) (by kernel_rfl) (by kernel_rfl) (fun _ _ _ h => h) (Or.inl ⟨by rfl, ?_⟩) hS ?_
     rotate_left
     · intro wv _; go_simp; try with_reducible rfl
     try simp only [Act.put, List.setIfInBounds_toArray, List.set_cons_zero, List.set_cons_succ]
     refine wpAnyH_take (i := 8) (oi := ⟨some 40, .extract (.tmp 32) 1, 29, "ref.go:90", #[⟨6, .data⟩, ⟨10, .gcOnly .lateStores⟩], none⟩) (v := ?_) rfl (by kernel_rfl) (by kernel_rfl) (by kernel_rfl) (fun _ _ _ h => h) (Or.inl ⟨by rfl, ?_⟩) hS ?_
     rotate_left
     · intro wv _; go_simp; try with_reducible rfl
     try simp only [Act.put, List.setIfInBounds_toArray, List.set_cons_zero, List.set_cons_succ]
     refine wpAnyH_ready (rs := [10]) (by kernel_rfl) (by simp) (AllReadyH.cons (o := ⟨none, .store 24 (.tmp 12) (.tmp 39), 0, "ref.go:90", #[⟨9, .data⟩, ⟨7, .data⟩, ⟨5, .chain⟩, ⟨0, .phase⟩, ⟨1, .phase⟩, ⟨2, .phase⟩, ⟨3, .phase⟩, ⟨4, .phase⟩, ⟨5, .phase⟩, ⟨6, .phase⟩, ⟨7, .phase⟩, ⟨8, .textOnly .lateStores⟩, ⟨9, .phase⟩], none⟩) rfl (fun K hK => ?_) AllReadyH.nil)
     go_simp
     have Vg2 := blk_pair Vg (.slice B3 m3 d3) (.int .i64 fg)
     have OG2 := fun h => own_other (own_other (OG h) (k := y) (o := 0) (u := .slice B3 m3 d3) (own_ne (OG h) Vg (by decide))) (k := y) (o := 1) (u := .int .i64 fg) (own_ne (OG h) Vg (by decide))
     have HS2 := bel_pair HS geg (.slice B3 m3 d3) (.int .i64 fg)
     clear Vg OG HS cg0 cg1 fg0 fg1
     generalize (wg.setCell ⟨y, 0, none⟩ (.slice B3 m3 d3)).setCell ⟨y, 1, none⟩ (.int .i64 fg) = y2 at *
     have Vg := Vg2
     have OG := OG2
     have HS := HS2
     clear Vg2 OG2 HS2
     replace hS := HS
     refine Shut.out hK _ _ hS (fun _ => ?_)
     clear hK K
     try simp only [Act.put, List.setIfInBounds_toArray, List.set_cons_zero, List.set_cons_succ]
     refine wpAnyH_take (i := 11) (oi := ⟨some 13, .assign (.tmp 40), 29, "ref.go:90", #[⟨8, .data⟩, ⟨10, .chain⟩, ⟨0, .phase⟩, ⟨1, .phase⟩, ⟨2, .phase⟩, ⟨3, .phase⟩, ⟨4, .phase⟩, ⟨5, .phase⟩, ⟨6, .phase⟩, ⟨7, .phase⟩, ⟨8, .phase⟩, ⟨9, .phase⟩, ⟨10, .phase⟩], none⟩) (v := ?_) rfl (by kernel_rfl) (by kernel_rfl) (by kernel_rfl) (fun _ _ _ h => h) (Or.inl ⟨by rfl, ?_⟩) hS ?_
     rotate_left
     · intro wv _; go_simp; try with_reducible rfl
     try simp only [Act.put, List.setIfInBounds_toArray, List.set_cons_zero, List.set_cons_succ]
     refine wpAnyH_done (by kernel_rfl) ?_ _
     refine NoPanic.normal ?_
     go_wp2_with fail
     go_meet
     exact ⟨y, m3, d3, B3, rfl, rfl, Lib.hid Vg, Lib.hid OG, Lib.hid HS, geg⟩
  case rest =>
  obtain ⟨sg, m3, d3, B3, rfl, rfl, Vg, OG, HS3, geg⟩ := hcut
  replace FR := Lib.hid (FR.out.step HS3.out)
  replace Vq := Lib.hid (blk_below Vq.out HS3.out ltq)
  clear Va RL hlc hlb hlb2
  by_cases he0 : eg = 0
  · have b1 : (eg != 0) = false := by simp [he0]
    have HE := Lib.hid (show R = ((rg, fg), laidQ (butL pl k), 0) by rw [HE0.out, if_neg (by simp [he0])])
    have OG2 := Lib.hid (OG.out he0)
    clear he0 OG
    have nz02 : sg ≠ q + 2 := by omega
    have nz03 : sg ≠ q + 3 := by omega
    have nz12 : sq ≠ q + 2 := by omega
    have nz13 : sq ≠ q + 3 := by omega
    have c20 : wc.cell? ⟨q + 2, 0, none⟩ = some (.slice none 0 0) := FR.out.cell 2 0 rfl rfl rfl
    have f20 : wc.frozen? ⟨q + 2, 0, none⟩ = false := FR.out.frozen 2 0 rfl rfl
    have c21 : wc.cell? ⟨q + 2, 1, none⟩ = some (.int .i64 0) := FR.out.cell 2 1 rfl rfl rfl
    have f21 : wc.frozen? ⟨q + 2, 1, none⟩ = false := FR.out.frozen 2 1 rfl rfl
    have c30 : wc.cell? ⟨q + 3, 0, none⟩ = some (.int .i64 0) := FR.out.cell 3 0 rfl rfl rfl
    have f30 : wc.frozen? ⟨q + 3, 0, none⟩ = false := FR.out.frozen 3 0 rfl rfl
    have c31 : wc.cell? ⟨q + 3, 1, none⟩ = some (.int .i64 0) := FR.out.cell 3 1 rfl rfl rfl
    have f31 : wc.frozen? ⟨q + 3, 1, none⟩ = false := FR.out.frozen 3 1 rfl rfl
    have cg0 : wc.cell? ⟨sg, 0, none⟩ = some (.slice B3 m3 d3) := (blk_cell Vg.out 0).trans rfl
    have fg0 : wc.frozen? ⟨sg, 0, none⟩ = false := blk_frozen Vg.out 0
    have cg1 : wc.cell? ⟨sg, 1, none⟩ = some (.int .i64 fg) := (blk_cell Vg.out 1).trans rfl
    have fg1 : wc.frozen? ⟨sg, 1, none⟩ = false := blk_frozen Vg.out 1
    have cq0 : wc.cell? ⟨sq, 0, none⟩ = some (.int .i64 (laidQ (butL pl k)).1) := (blk_cell Vq.out 0).trans rfl
    have fq0 : wc.frozen? ⟨sq, 0, none⟩ = false := blk_frozen Vq.out 0
    have cq1 : wc.cell? ⟨sq, 1, none⟩ = some (.int .i64 (laidQ (butL pl k)).2) := (blk_cell Vq.out 1).trans rfl
    have fq1 : wc.frozen? ⟨sq, 1, none⟩ = false := blk_frozen Vq.out 1
    go_wp2
    refine wp_region_noPanic ?_
    refine wp_region_held_drew (S := (fun wv => Hid (wv.heap[sg]? = some (.cells #[.slice B3 m3 d3, .int .i64 fg] 24) ∧ wv.heap[sq]? = some (.cells #[.int .i64 (laidQ (butL pl k)).1, .int .i64 (laidQ (butL pl k)).2] 26) ∧ Below q w wv))) (by kernel_rfl) (Lib.hid ⟨Vg.out, Vq.out, FR.out.bel.drew⟩) (fun hS => ?_)
    refine wpAnyH_take (i := 0) (oi := ⟨some 46, .load 24 (.tmp 12), 24, "ref.go:94", #[], none⟩) (v := .agg (([.slice B3 m3 d3, .int .i64 fg] : List Value)).toArray) rfl (by kernel_rfl) (by kernel_rfl) (by kernel_rfl) (fun _ _ _ h => h) (yieldsIf_load_mid (by rfl) _ _ (by rfl) (sg) 0 (by rfl) (([.slice B3 m3 d3, .int .i64 fg] : List Value)) _ (fun wv hS => blk_rngl hS.out.1) Try.underlying24 (by rfl) (by kernel_rfl)) hS ?_
    try simp only [Act.put, List.setIfInBounds_toArray, List.set_cons_zero, List.set_cons_succ]
    refine wpAnyH_take (i := 1) (oi := ⟨some 47, .load 26 (.tmp 11), 26, "ref.go:94", #[⟨2, .gcOnly .lateStores⟩], none⟩) (v := .agg (([.int .i64 (laidQ (butL pl k)).1, .int .i64 (laidQ (butL pl k)).2] : List Value)).toArray) rfl (by kernel_rfl) (by kernel_rfl) (by kernel_rfl) (fun _ _ _ h => h) (yieldsIf_load_mid (by rfl) _ _ (by rfl) (sq) 0 (by rfl) (([.int .i64 (laidQ (butL pl k)).1, .int .i64 (laidQ (butL pl k)).2] : List Value)) _ (fun wv hS => blk_rngl hS.out.2.1) Try.underlying26 (by rfl) (by kernel_rfl)) hS ?_
    try simp only [Act.put, List.setIfInBounds_toArray, List.set_cons_zero, List.set_cons_succ]
    refine wpAnyH_ready (rs := [2]) (by kernel_rfl) (by simp) (AllReadyH.cons (o := ⟨none, .store 24 (.tmp 6) (.tmp 46), 0, "ref.go:94", #[⟨0, .data⟩, ⟨0, .phase⟩, ⟨1, .textOnly .lateStores⟩], none⟩) rfl (fun K hK => ?_) AllReadyH.nil)
    go_simp
    replace hS := Lib.hid (And.intro (keep_pair hS.out.1 nz02 (.slice B3 m3 d3) (.int .i64 fg)) (And.intro (keep_pair hS.out.2.1 nz12 (.slice B3 m3 d3) (.int .i64 fg)) (bel_pair hS.out.2.2 (show q ≤ q + 2 by omega) (.slice B3 m3 d3) (.int .i64 fg))))
    refine Shut.out hK _ _ hS (fun _ => ?_)
    clear hK K
    try simp only [Act.put, List.setIfInBounds_toArray, List.set_cons_zero, List.set_cons_succ]
    refine wpAnyH_ready (rs := [3]) (by kernel_rfl) (by simp) (AllReadyH.cons (o := ⟨none, .store 26 (.tmp 7) (.tmp 47), 0, "ref.go:94", #[⟨1, .data⟩, ⟨2, .chain⟩, ⟨0, .phase⟩, ⟨1, .phase⟩, ⟨2, .phase⟩], none⟩) rfl (fun K hK => ?_) AllReadyH.nil)
    go_simp
    replace hS := Lib.hid (And.intro (keep_pair hS.out.1 nz03 (.int .i64 (laidQ (butL pl k)).1) (.int .i64 (laidQ (butL pl k)).2)) (And.intro (keep_pair hS.out.2.1 nz13 (.int .i64 (laidQ (butL pl k)).1) (.int .i64 (laidQ (butL pl k)).2)) (bel_pair hS.out.2.2 (show q ≤ q + 3 by omega) (.int .i64 (laidQ (butL pl k)).1) (.int .i64 (laidQ (butL pl k)).2))))
    refine Shut.out hK _ _ hS (fun _ => ?_)
    clear hK K
    try simp only [Act.put, List.setIfInBounds_toArray, List.set_cons_zero, List.set_cons_succ]
    refine wpAnyH_take (i := 4) (oi := ⟨some 8, .assign (.const (Value.int IntKind.i64 0)), 29, "ref.go:94", #[⟨3, .chain⟩, ⟨0, .phase⟩, ⟨1, .phase⟩, ⟨2, .phase⟩, ⟨3, .phase⟩], none⟩) (v := ?_) rfl (by kernel_rfl) (by kernel_rfl) (by kernel_rfl) (fun _ _ _ h => h) (Or.inl ⟨by rfl, ?_⟩) hS ?_
    rotate_left
    · intro wv _; go_simp; try with_reducible rfl
    try simp only [Act.put, List.setIfInBounds_toArray, List.set_cons_zero, List.set_cons_succ]
    refine wpAnyH_done (by kernel_rfl) ?_ _
    refine NoPanic.normal ?_
    go_wp2
    have FZ : Fr w (((((wc.setCell ⟨q + 2, 0, none⟩ (.slice B3 m3 d3)).setCell ⟨q + 2, 1, none⟩ (.int .i64 fg)).setCell ⟨q + 3, 0, none⟩ (.int .i64 (laidQ (butL pl k)).1)).setCell ⟨q + 3, 1, none⟩ (.int .i64 (laidQ (butL pl k)).2))).drew q [.cells #[.slice A n c, .int .i64 fr] 24, .cells #[.int .i64 hd, .int .i64 tl] 26, .cells #[.slice B3 m3 d3, .int .i64 fg] 24, .cells #[.int .i64 (laidQ (butL pl k)).1, .int .i64 (laidQ (butL pl k)).2] 26] := (((((FR.out.set 2 0 rfl rfl (.slice B3 m3 d3)).set 2 1 rfl rfl (.int .i64 fg)).set 3 0 rfl rfl (.int .i64 (laidQ (butL pl k)).1)).set 3 1 rfl rfl (.int .i64 (laidQ (butL pl k)).2))).drew
    refine bodyPost_ret (res_ccs Try.results29 (by rfl) (by rfl) (FZ.load 2 rfl rfl Try.underlying24 (by kernel_rfl)) (FZ.load 3 rfl rfl Try.underlying26 (by kernel_rfl))) rfl ?_
    have hrs := own_apart (own_apart (own_apart (own_apart (OG2.out) (k := q + 2) (o := 0) (u := .slice B3 m3 d3) (by omega)) (k := q + 2) (o := 1) (u := .int .i64 fg) (by omega)) (k := q + 3) (o := 0) (u := .int .i64 (laidQ (butL pl k)).1) (by omega)) (k := q + 3) (o := 1) (u := .int .i64 (laidQ (butL pl k)).2) (by omega)
    obtain ⟨_, _, he, hrr⟩ := rs_of_own hrs
    injection he with he1 he2 he3; subst he1; subst he3
    rw [HE.out]
    exact ⟨_, _, _, rfl, Es.drew hrr, FZ.out, fun _ => own_base hrs (show w.heap.size ≤ q + 4 by omega), fun h => absurd rfl h⟩
  · have b1 : (eg != 0) = true := by simp [he0]
    have HE := Lib.hid (show R = ((rs, fr), (hd, tl), eg) by rw [HE0.out, if_pos he0])
    have HN := Lib.hid he0
    clear he0 OG
    have nz02 : q ≠ q + 2 := by omega
    have nz03 : q ≠ q + 3 := by omega
    have nz12 : q + 1 ≠ q + 2 := by omega
    have nz13 : q + 1 ≠ q + 3 := by omega
    have c20 : wc.cell? ⟨q + 2, 0, none⟩ = some (.slice none 0 0) := FR.out.cell 2 0 rfl rfl rfl
    have f20 : wc.frozen? ⟨q + 2, 0, none⟩ = false := FR.out.frozen 2 0 rfl rfl
    have c21 : wc.cell? ⟨q + 2, 1, none⟩ = some (.int .i64 0) := FR.out.cell 2 1 rfl rfl rfl
    have f21 : wc.frozen? ⟨q + 2, 1, none⟩ = false := FR.out.frozen 2 1 rfl rfl
    have c30 : wc.cell? ⟨q + 3, 0, none⟩ = some (.int .i64 0) := FR.out.cell 3 0 rfl rfl rfl
    have f30 : wc.frozen? ⟨q + 3, 0, none⟩ = false := FR.out.frozen 3 0 rfl rfl
    have c31 : wc.cell? ⟨q + 3, 1, none⟩ = some (.int .i64 0) := FR.out.cell 3 1 rfl rfl rfl
    have f31 : wc.frozen? ⟨q + 3, 1, none⟩ = false := FR.out.frozen 3 1 rfl rfl
    go_wp2
    refine wp_region_noPanic ?_
    refine wp_region_held_drew (S := (fun wv => Hid (wv.heap[q]? = some (.cells #[.slice A n c, .int .i64 fr] 24) ∧ wv.heap[q + 1]? = some (.cells #[.int .i64 hd, .int .i64 tl] 26) ∧ Below q w wv))) (by kernel_rfl) (Lib.hid ⟨FR.out.blk 0 _ rfl, FR.out.blk 1 _ rfl, FR.out.bel.drew⟩) (fun hS => ?_)
    refine wpAnyH_take (i := 0) (oi := ⟨some 43, .load 24 (.tmp 3), 24, "ref.go:92", #[], none⟩) (v := .agg (([.slice A n c, .int .i64 fr] : List Value)).toArray) rfl (by kernel_rfl) (by kernel_rfl) (by kernel_rfl) (fun _ _ _ h => h) (yieldsIf_load_mid (by rfl) _ _ (by rfl) (q) 0 (by rfl) (([.slice A n c, .int .i64 fr] : List Value)) _ (fun wv hS => blk_rngl hS.out.1) Try.underlying24 (by rfl) (by kernel_rfl)) hS ?_
    try simp only [Act.put, List.setIfInBounds_toArray, List.set_cons_zero, List.set_cons_succ]
    refine wpAnyH_take (i := 1) (oi := ⟨some 44, .load 26 (.tmp 4), 26, "ref.go:92", #[⟨3, .gcOnly .lateStores⟩], none⟩) (v := .agg (([.int .i64 hd, .int .i64 tl] : List Value)).toArray) rfl (by kernel_rfl) (by kernel_rfl) (by kernel_rfl) (fun _ _ _ h => h) (yieldsIf_load_mid (by rfl) _ _ (by rfl) (q + 1) 0 (by rfl) (([.int .i64 hd, .int .i64 tl] : List Value)) _ (fun wv hS => blk_rngl hS.out.2.1) Try.underlying26 (by rfl) (by kernel_rfl)) hS ?_
    try simp only [Act.put, List.setIfInBounds_toArray, List.set_cons_zero, List.set_cons_succ]
    refine wpAnyH_take (i := 2) (oi := ⟨some 45, .move (.tmp 13), 29, "ref.go:92", #[⟨4, .gcOnly .lateStores⟩], none⟩) (v := ?_) rfl (by kernel_rfl) (by kernel_rfl) (by kernel_rfl) (fun _ _ _ h => h) (Or.inl ⟨by rfl, ?_⟩) hS ?_
    rotate_left
    · intro wv _; go_simp; try with_reducible rfl
    try simp only [Act.put, List.setIfInBounds_toArray, List.set_cons_zero, List.set_cons_succ]
    refine wpAnyH_ready (rs := [3]) (by kernel_rfl) (by simp) (AllReadyH.cons (o := ⟨none, .store 24 (.tmp 6) (.tmp 43), 0, "ref.go:92", #[⟨0, .data⟩, ⟨0, .phase⟩, ⟨1, .textOnly .lateStores⟩, ⟨2, .textOnly .lateStores⟩], none⟩) rfl (fun K hK => ?_) AllReadyH.nil)
    go_simp
    replace hS := Lib.hid (And.intro (keep_pair hS.out.1 nz02 (.slice A n c) (.int .i64 fr)) (And.intro (keep_pair hS.out.2.1 nz12 (.slice A n c) (.int .i64 fr)) (bel_pair hS.out.2.2 (show q ≤ q + 2 by omega) (.slice A n c) (.int .i64 fr))))
    refine Shut.out hK _ _ hS (fun _ => ?_)
    clear hK K
    try simp only [Act.put, List.setIfInBounds_toArray, List.set_cons_zero, List.set_cons_succ]
    refine wpAnyH_ready (rs := [4]) (by kernel_rfl) (by simp) (AllReadyH.cons (o := ⟨none, .store 26 (.tmp 7) (.tmp 44), 0, "ref.go:92", #[⟨1, .data⟩, ⟨3, .chain⟩, ⟨0, .phase⟩, ⟨1, .phase⟩, ⟨2, .textOnly .lateStores⟩, ⟨3, .phase⟩], none⟩) rfl (fun K hK => ?_) AllReadyH.nil)
    go_simp
    replace hS := Lib.hid (And.intro (keep_pair hS.out.1 nz03 (.int .i64 hd) (.int .i64 tl)) (And.intro (keep_pair hS.out.2.1 nz13 (.int .i64 hd) (.int .i64 tl)) (bel_pair hS.out.2.2 (show q ≤ q + 3 by omega) (.int .i64 hd) (.int .i64 tl))))
    refine Shut.out hK _ _ hS (fun _ => ?_)
    clear hK K
    try simp only [Act.put, List.setIfInBounds_toArray, List.set_cons_zero, List.set_cons_succ]
    refine wpAnyH_take (i := 5) (oi := ⟨some 8, .assign (.tmp 45), 29, "ref.go:92", #[⟨2, .data⟩, ⟨4, .chain⟩, ⟨0, .phase⟩, ⟨1, .phase⟩, ⟨2, .phase⟩, ⟨3, .phase⟩, ⟨4, .phase⟩], none⟩) (v := ?_) rfl (by kernel_rfl) (by kernel_rfl) (by kernel_rfl) (fun _ _ _ h => h) (Or.inl ⟨by rfl, ?_⟩) hS ?_
    rotate_left
    · intro wv _; go_simp; try with_reducible rfl
    try simp only [Act.put, List.setIfInBounds_toArray, List.set_cons_zero, List.set_cons_succ]
    refine wpAnyH_done (by kernel_rfl) ?_ _
    refine NoPanic.normal ?_
    go_wp2
    have FZ : Fr w (((((wc.setCell ⟨q + 2, 0, none⟩ (.slice A n c)).setCell ⟨q + 2, 1, none⟩ (.int .i64 fr)).setCell ⟨q + 3, 0, none⟩ (.int .i64 hd)).setCell ⟨q + 3, 1, none⟩ (.int .i64 tl))).drew q [.cells #[.slice A n c, .int .i64 fr] 24, .cells #[.int .i64 hd, .int .i64 tl] 26, .cells #[.slice A n c, .int .i64 fr] 24, .cells #[.int .i64 hd, .int .i64 tl] 26] := (((((FR.out.set 2 0 rfl rfl (.slice A n c)).set 2 1 rfl rfl (.int .i64 fr)).set 3 0 rfl rfl (.int .i64 hd)).set 3 1 rfl rfl (.int .i64 tl))).drew
    refine bodyPost_ret (res_ccs Try.results29 (by rfl) (by rfl) (FZ.load 2 rfl rfl Try.underlying24 (by kernel_rfl)) (FZ.load 3 rfl rfl Try.underlying26 (by kernel_rfl))) rfl ?_
    rw [HE.out]
    exact ⟨_, _, _, rfl, FZ.es RX.out, FZ.out, fun h => absurd h HN.out, fun _ => rfl⟩
end Go.Proofs.Ytombfempdfdeoaa
