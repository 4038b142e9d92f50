/- What the document's own sorted of layer 9 answers; for slices of up to 16384 nodes. -/
import Derived.Test.YtfgfohomgomidaaTreB
import Derived.Deep.Cut
import Derived.Deep.CutRange
namespace Go.Proofs.Ytfgfohomgomidaa
set_option linter.unusedVariables false
set_option linter.unusedSimpArgs false
open Go.RowKit

/-- numbers of the call's own. -/
def OwnI (w : World) (xs : List Int) (e : Ending) (w' : World) : Prop := ∃ A n c, e = .returned (.slice A n c) ∧ w'.ownsRow w.heap.size 3 1 (.slice A n c) n (intC xs) ∧ Below w.heap.size w w'
theorem freeT_places (p : Trp) : (freeT p).Nodup ∧ InN p.1.length (freeT p) := by
  unfold freeT
  cases h : freeW p with
  | none => exact ⟨List.nodup_nil, fun x hx => by simp at hx⟩
  | some l =>
    obtain ⟨l', e, hc, _, hd⟩ := walkT_chain h
    simp only [List.nil_append] at e
    subst e
    exact ⟨hd, fch_in hc⟩
theorem insK_split {ns : List Nd} {x : Int} : ∀ {l : List Int} {k : Nat}, k ≤ l.length → (∀ j : Nat, j < k → keyT ns (l.getD j 0) < keyT ns x) → (k < l.length → ¬ keyT ns (l.getD k 0) < keyT ns x) → insK ns x l = l.take k ++ x :: l.drop k
  | [], k, hk, _, _ => by
    have : k = 0 := by simpa using hk
    subst this; rfl
  | y :: l, 0, _, _, h => by
    have h0 := h (by simp)
    simp at h0
    unfold insK
    rw [if_neg (by omega)]; rfl
  | y :: l, k + 1, hk, hj, h => by
    have h0 := hj 0 (by omega)
    simp at h0
    unfold insK
    rw [if_pos h0, insK_split (k := k) (by simpa using hk) (fun j h2 => by have := hj (j + 1) (by omega); simpa using this) (fun h2 => by have := h (by simpa using h2); simpa using this)]
    rfl
theorem is_blk9 {w : World} {b : Nat} {xs : List Int} {m : Nat} (h : w.heap[b]? = some (.cells (intC xs).toArray 3)) (hm : m = xs.length) : Is w (some ⟨b, 0, none⟩) m m xs := by
  refine ⟨by rw [intC_len, hm, Nat.mul_one], Nat.le_refl _, intC_one _, fun _ => ⟨b, 0, rfl, blk_lt h, fun j v hj => ?_⟩⟩
  rw [Nat.zero_add, blk_cell h]; simpa using hj
set_option maxRecDepth 100000 in
set_option maxHeartbeats 8000000 in
theorem refSorted9_any (A : Option Addr) (n c : Nat) (ns : List Nd) (rt fr : Int) (w : World) (hx : Ns w A n c ns) (hn : n ≤ 16384) :
    Calls Try.prog 39 #[.agg #[.slice A n c, .int .i64 rt, .int .i64 fr]] w (OwnI w (sortT (ns, rt, fr))) := by
  obtain ⟨i5, hi5, hz0, hz1, hz2⟩ := info_of infoInt
  have HI := Lib.hid hi5; have HZ0 := Lib.hid hz0; have HZ1 := Lib.hid hz1; have HZ2 := Lib.hid hz2
  clear hi5 hz0 hz1 hz2
  have hlen := hx.len
  have RX := Lib.hid hx
  have HL := Lib.hid hlen
  have FW := Lib.hid (fun (W : World) (h : Ns W A n c ns) => refFree9_any A n c ns rt fr W h hn)
  have hfp := freeT_places (ns, rt, fr)
  obtain ⟨R, hR⟩ : ∃ R, sortT (ns, rt, fr) = R := ⟨_, rfl⟩
  rw [hR]
  have hRK : R = sortK ns (freeT (ns, rt, fr)) n := by rw [← hR, ← hlen]; rfl
  obtain ⟨fw, hfw⟩ : ∃ fw, freeW (ns, rt, fr) = fw := ⟨_, rfl⟩
  have FW1 := fun W h => FW.out W h
  rw [hfw] at FW1
  replace FW1 : Hid (∀ W, Ns W A n c ns → Calls Try.prog 38 #[.agg #[.slice A n c, .int .i64 rt, .int .i64 fr]] W (FreePost W fw)) := Lib.hid FW1
  have hft : freeT (ns, rt, fr) = fw.getD [] := by unfold freeT; rw [hfw]
  rw [hft] at hRK hfp
  obtain ⟨fl, hfl⟩ : ∃ fl, fw.getD [] = fl := ⟨_, rfl⟩
  rw [hfl] at hRK hfp
  have HRK := Lib.hid hRK
  have hfn : fl.length ≤ n := by have := places_len hfp.1 hfp.2; simp only [hlen] at this; exact this
  clear hx hR hRK hft hfw FW hfp hlen
  obtain ⟨v1, hv1⟩ : ∃ W, w.alloc (.cells #[.slice A n c, .int .i64 rt, .int .i64 fr] 24) = W := ⟨_, rfl⟩
  have fr1 : Fr w v1 w.heap.size [.cells #[.slice A n c, .int .i64 rt, .int .i64 fr] 24] := hv1 ▸ Fr.first w _
  have z1 : v1.heap.size = w.heap.size + 1 := by rw [← hv1, Fr.size1]
  generalize hq : w.heap.size = q at *
  have FR := Lib.hid fr1
  clear fr1
  go_enter Try.func39, Try.ntmps39
  have c00 : v1.cell? ⟨q, 0, none⟩ = some (.slice A n c) := FR.out.cell 0 0 rfl rfl rfl
  have c01 : v1.cell? ⟨q, 1, none⟩ = some (.int .i64 rt) := FR.out.cell 0 1 rfl rfl rfl
  have c02 : v1.cell? ⟨q, 2, none⟩ = some (.int .i64 fr) := FR.out.cell 0 2 rfl rfl rfl
  go_wp2_with fail
  refine ((FW1.out _ (FR.out.es RX.out))).mono ?_
  rintro e w2 ⟨L, m, c2, rfl, hown, hb⟩
  clear c00 c01 c02
  replace FR := Lib.hid (FR.out.step hb)
  clear hb
  rw [hfl] at hown
  obtain ⟨_, _, he, his⟩ := Es.of_own hown (intC_one _)
  injection he with he1 he2 he3; subst he1; subst he3
  have IL := Lib.hid (show Is w2 L m c2 fl from his)
  have hml := Is.len his
  clear hown his hv1 z1
  obtain ⟨g0, hg0⟩ : ∃ g, w2.heap.size = g := ⟨_, rfl⟩
  have hqg : q + 1 ≤ g0 := by have := FR.out.sz; simp only [List.length_cons, List.length_nil] at this; omega
  go_wp2
  go_loopw [5, 6] (fun ov iv wr => ∃ (i o d : Nat) (B : Option Addr), ov = .slice B o d ∧ iv = .int .i64 (i : Int) ∧ i ≤ n ∧ Hid (wr.ownsRow g0 3 1 (.slice B o d) o (intC (sortK ns fl i))) ∧ Hid (Below g0 w2 wr)) (fun _ iv _ => n - (intOf iv).toNat)
  case atStart => exact ⟨0, 0, 0, none, rfl, rfl, by omega, World.ownsRow_nil _ _ _ _, Below.refl _ _⟩
  case round =>
    obtain ⟨i, o, d, B, rfl, rfl, hi, OW, hbl⟩ := hrel
    have hbw : Below w2.heap.size w2 wr := by rw [hg0]; exact hbl.out
    replace FR := Lib.hid (FR.out.step hbw)
    replace IL := Lib.hid (Es.below IL.out hbw)
    clear hbw
    by_cases hlt : i < n
    · have b1 : decide ((i : Int) < (n : Int)) = true := by simpa using hlt
      have HH := refHas_any L m c2 fl (i : Int) wr IL.out (by omega)
      by_cases hm : (i : Int) ∈ fl
      · rw [decide_eq_true hm] at HH
        replace HH := Lib.hid HH
        have HK := Lib.hid (show sortK ns fl (i + 1) = sortK ns fl i by conv => lhs; unfold sortK; rw [if_pos hm])
        clear hm
        have c00 : wr.cell? ⟨q, 0, none⟩ = some (.slice A n c) := FR.out.cell 0 0 rfl rfl rfl
        have c01 : wr.cell? ⟨q, 1, none⟩ = some (.int .i64 rt) := FR.out.cell 0 1 rfl rfl rfl
        have c02 : wr.cell? ⟨q, 2, none⟩ = some (.int .i64 fr) := FR.out.cell 0 2 rfl rfl rfl
        go_wp2_with fail
        refine HH.out.mono ?_
        rintro e w' ⟨rfl, rfl⟩
        go_wp2
        go_roundw
        case rel => exact ⟨i + 1, o, d, B, rfl, by go_num, by omega, by rw [HK.out]; exact OW, hbl⟩
        case measure => simp [intOf]; omega
      · rw [decide_eq_false hm] at HH
        replace HH := Lib.hid HH
        have hK : sortK ns fl (i + 1) = insK ns i (sortK ns fl i) := by conv => lhs; unfold sortK; rw [if_neg hm]
        have hin : ∀ x ∈ sortK ns fl i, 0 ≤ x ∧ x < (n : Int) := fun x hx => by have := sortK_mem.1 hx; omega
        have hol := OW.out.1
        rw [intC_len] at hol
        have hoi := @sortK_len ns fl i
        obtain ⟨out, hout⟩ : ∃ out, sortK ns fl i = out := ⟨_, rfl⟩
        rw [hout] at hK hin OW hol hoi
        have HK := Lib.hid hK; have HIN := Lib.hid hin; have HOL := Lib.hid (show out.length = o by omega)
        have ho : o ≤ n := by omega
        clear hm hK hin hout hol hoi
        obtain ⟨_, _, he, his⟩ := Es.of_own OW.out (intC_one _)
        injection he with he1 he2 he3; subst he1; subst he3
        have IO := Lib.hid (show Is wr B o d out from his)
        clear his
        have c00 : wr.cell? ⟨q, 0, none⟩ = some (.slice A n c) := FR.out.cell 0 0 rfl rfl rfl
        have c01 : wr.cell? ⟨q, 1, none⟩ = some (.int .i64 rt) := FR.out.cell 0 1 rfl rfl rfl
        have c02 : wr.cell? ⟨q, 2, none⟩ = some (.int .i64 fr) := FR.out.cell 0 2 rfl rfl rfl
        go_wp2_with fail
        refine HH.out.mono ?_
        rintro e w' ⟨rfl, rfl⟩
        clear HH
        clear c00 c01 c02
        obtain ⟨wo, hwo⟩ : ∃ x, x = wr := ⟨_, rfl⟩
        subst hwo
        go_wp2
        go_loopw [7] (fun kv wr2 => ∃ k : Nat, kv = .int .i64 (k : Int) ∧ k ≤ o ∧ Hid (∀ j : Nat, j < k → keyT ns (out.getD j 0) < keyT ns (i : Int)) ∧ Hid (Below wo.heap.size wo wr2)) (fun kv _ => o - (intOf kv).toNat)
        case atStart => exact ⟨0, rfl, by omega, fun j hj => by omega, Below.refl _ _⟩
        case round =>
          obtain ⟨k, rfl, hk, HJ, hb⟩ := hrel
          have FRo := FR; have IOo := IO; have OWo := OW
          replace FR := Lib.hid (FR.out.step hb.out)
          replace IO := Lib.hid (Es.below IO.out hb.out)
          replace OW := Lib.hid (own_below OW.out hb.out)
          obtain ⟨b, off, rfl, hbq, ki, _, _, _, _, _⟩ := Ns.look (ns := ns) RX.out i hlt
          replace ki := (FR.out.out.cell (p := ⟨b, off + i * 6, none⟩) hbq).trans ki
          have i0 : (0 : Int) ≤ (i : Int) := by omega
          have i1 : (i : Int) < (n : Int) := by omega
          by_cases hko : k < o
          · obtain ⟨lb, loff, x, rfl, hlb, lhc, hdr⟩ := (show Is wr B o d out from IO.out).look k hko
            have hgx : out.getD k 0 = x := by have h1 := drop_at (xs := out) (i := k) (by have := HOL.out; omega); rw [h1] at hdr; injection hdr with h2 _; rw [← h2]; simp [List.getD, show k < out.length by have := HOL.out; omega]
            have hxb := HIN.out x (mem_at hdr)
            obtain ⟨j, rfl⟩ : ∃ j : Nat, x = j := ⟨x.toNat, by omega⟩
            have j0 : (0 : Int) ≤ (j : Int) := by omega
            have j1 : (j : Int) < (n : Int) := by omega
            have k0 : (0 : Int) ≤ (k : Int) := by omega
            have k1 : (k : Int) < (o : Int) := by omega
            obtain ⟨b', off', he, _, kx, _, _, _, _, _⟩ := Ns.look (ns := ns) RX.out j (by omega)
            injection he with he; injection he with he1 he2; subst he1; subst he2
            replace kx := (FR.out.out.cell (p := ⟨b, off + j * 6, none⟩) hbq).trans kx
            clear hdr hlb
            by_cases hkl : keyT ns (out.getD k 0) < keyT ns (i : Int)
            · have HJ2 := Lib.hid (show ∀ j : Nat, j < k + 1 → keyT ns (out.getD j 0) < keyT ns (i : Int) from fun j hj => by rcases Nat.lt_or_ge j k with h | h; exact HJ.out j h; obtain rfl : j = k := (by omega); exact hkl)
              rw [hgx] at hkl
              have b2 : decide ((ndAt ns (j : Int)).k < (ndAt ns (i : Int)).k) = true := by simpa [keyT] using hkl
              have b1 : decide ((k : Int) < (o : Int)) = true := by simp; omega
              have b1n : decide (k < o) = true := by simp; omega
              clear hkl hgx HJ
              generalize (ndAt ns (j : Int)).k = kj at *
              generalize (ndAt ns (i : Int)).k = kk at *
              have c00 : wr.cell? ⟨q, 0, none⟩ = some (.slice (some ⟨b, off, none⟩) n c) := FR.out.cell 0 0 rfl rfl rfl
              have c01 : wr.cell? ⟨q, 1, none⟩ = some (.int .i64 rt) := FR.out.cell 0 1 rfl rfl rfl
              have c02 : wr.cell? ⟨q, 2, none⟩ = some (.int .i64 fr) := FR.out.cell 0 2 rfl rfl rfl
              go_wp2
              go_quiet (fail)
              go_wp2
              go_roundw
              case rel => exact ⟨k + 1, by go_num, by omega, HJ2, Lib.hid (bel_drewN hb.out _)⟩
              case measure => simp [intOf]; omega
            · have hkl2 := hkl
              rw [hgx] at hkl2
              have b2 : decide ((ndAt ns (j : Int)).k < (ndAt ns (i : Int)).k) = false := by simpa [keyT] using hkl2
              clear hkl2 hgx
              have b1 : decide ((k : Int) < (o : Int)) = true := by simp; omega
              have b1n : decide (k < o) = true := by simp; omega
              have HSP := Lib.hid (show insK ns (i : Int) out = out.take k ++ (i : Int) :: out.drop k from insK_split (by have := HOL.out; omega) HJ.out (fun h => hkl))
              have c00 : wr.cell? ⟨q, 0, none⟩ = some (.slice (some ⟨b, off, none⟩) n c) := FR.out.cell 0 0 rfl rfl rfl
              have c01 : wr.cell? ⟨q, 1, none⟩ = some (.int .i64 rt) := FR.out.cell 0 1 rfl rfl rfl
              have c02 : wr.cell? ⟨q, 2, none⟩ = some (.int .i64 fr) := FR.out.cell 0 2 rfl rfl rfl
              clear HJ hkl
              go_wp2
              go_quiet (fail)
              clear c00 c01 c02
              have FRd := FR.out
              have IOd := IO.out.drewN nq
              have hbd := bel_drewN hb.out nq
              have FRq : Fr w (wr.drewN nq) q [.cells #[.slice (some ⟨b, off, none⟩) n c, .int .i64 rt, .int .i64 fr] 24] := ⟨FRd.blk, bel_drewN FRd.bel nq, FRd.sz, FRd.q0⟩
              clear FR IO OW FRd hb ki kx lhc
              generalize wr.drewN nq = wx at *
              obtain ⟨wr, hwr⟩ : ∃ x, x = wx := ⟨_, rfl⟩
              subst hwr
              have FR := Lib.hid FRq
              clear FRq
              obtain ⟨Ch, ch, hsh, hih⟩ := isl_take (P := Try.prog) IOd 38 unInts szInts (k : Int) k rfl (by omega)
              obtain ⟨Ct, ct, hst, hit⟩ := isl_drop (P := Try.prog) IOd 38 unInts szInts (k : Int) k rfl (by omega)
              have IH := Lib.hid hih; have IT := Lib.hid hit; have HBD := Lib.hid hbd
              have hgz : g0 ≤ wr.heap.size := by have h1 := hbl.out.size; have h2 := hbd.size; omega
              clear hih hit hbd IOd
              have b3 : k ≤ o := hk
              have k0' : (0 : Int) ≤ (k : Int) := by omega
              have k1' : (k : Int) ≤ (o : Int) := by omega
              generalize hzz : wr.heap.size = zz at *
              have BZ := Lib.hid (show ∀ X, Below zz wr X → Below wr.heap.size wr X from fun X h => by rw [hzz]; exact h)
              have HS : Below zz wr wr := by have h := Below.refl wr.heap.size wr; rwa [hzz] at h
              go_wp2
              refine wp_region_noPanic ?_
              refine wp_region_held_drew (S := (fun wv => Below zz wr wv)) (by kernel_rfl) (HS.drew) (fun hS => ?_)
              refine wpAnyH_take (i := 1) (oi := ⟨some 48, .move (.tmp 5), 38, "ref.go:60", #[], none⟩) (v := ?_) rfl (by kernel_rfl) (by kernel_rfl) (by kernel_rfl) (fun _ _ _ h => h) (Or.inl ⟨by rfl, ?_⟩) hS ?_
              rotate_left
              · intro wv _; go_simp; try with_reducible rfl
              try simp only [Act.put, List.setIfInBounds_toArray, List.set_cons_zero, List.set_cons_succ]
              refine wpAnyH_take (i := 2) (oi := ⟨some 49, .move (.tmp 7), 3, "ref.go:60", #[], none⟩) (v := ?_) rfl (by kernel_rfl) (by kernel_rfl) (by kernel_rfl) (fun _ _ _ h => h) (Or.inl ⟨by rfl, ?_⟩) hS ?_
              rotate_left
              · intro wv _; go_simp; try with_reducible rfl
              try simp only [Act.put, List.setIfInBounds_toArray, List.set_cons_zero, List.set_cons_succ]
              refine wpAnyH_take (i := 3) (oi := ⟨some 50, .slice 38 (.tmp 48) none (some (.tmp 49)) none, 38, "ref.go:60", #[⟨1, .data⟩, ⟨2, .data⟩], none⟩) (v := ?_) rfl (by kernel_rfl) (by kernel_rfl) (by kernel_rfl) (fun _ _ _ h => h) (Or.inl ⟨by rfl, ?_⟩) hS ?_
              rotate_left
              · intro wv _; go_simp; try with_reducible rfl
              try simp only [Act.put, List.setIfInBounds_toArray, List.set_cons_zero, List.set_cons_succ]
              refine wpAnyH_take (i := 5) (oi := ⟨some 52, .move (.tmp 6), 3, "ref.go:60", #[], none⟩) (v := ?_) rfl (by kernel_rfl) (by kernel_rfl) (by kernel_rfl) (fun _ _ _ h => h) (Or.inl ⟨by rfl, ?_⟩) hS ?_
              rotate_left
              · intro wv _; go_simp; try with_reducible rfl
              try simp only [Act.put, List.setIfInBounds_toArray, List.set_cons_zero, List.set_cons_succ]
              refine wpAnyH_take (i := 8) (oi := ⟨some 55, .move (.tmp 5), 38, "ref.go:60", #[], none⟩) (v := ?_) rfl (by kernel_rfl) (by kernel_rfl) (by kernel_rfl) (fun _ _ _ h => h) (Or.inl ⟨by rfl, ?_⟩) hS ?_
              rotate_left
              · intro wv _; go_simp; try with_reducible rfl
              try simp only [Act.put, List.setIfInBounds_toArray, List.set_cons_zero, List.set_cons_succ]
              refine wpAnyH_take (i := 9) (oi := ⟨some 56, .move (.tmp 7), 3, "ref.go:60", #[], none⟩) (v := ?_) rfl (by kernel_rfl) (by kernel_rfl) (by kernel_rfl) (fun _ _ _ h => h) (Or.inl ⟨by rfl, ?_⟩) hS ?_
              rotate_left
              · intro wv _; go_simp; try with_reducible rfl
              try simp only [Act.put, List.setIfInBounds_toArray, List.set_cons_zero, List.set_cons_succ]
              refine wpAnyH_take (i := 10) (oi := ⟨some 57, .slice 38 (.tmp 55) (some (.tmp 56)) none none, 38, "ref.go:60", #[⟨8, .data⟩, ⟨9, .data⟩], none⟩) (v := ?_) rfl (by kernel_rfl) (by kernel_rfl) (by kernel_rfl) (fun _ _ _ h => h) (Or.inl ⟨by rfl, ?_⟩) hS ?_
              rotate_left
              · intro wv _; go_simp; try with_reducible rfl
              try simp only [Act.put, List.setIfInBounds_toArray, List.set_cons_zero, List.set_cons_succ]
              refine wpAnyH_ready (rs := [0, 6]) (by kernel_rfl) (by simp) (AllReadyH.cons (o := ⟨some 47, .buildSlice 38 0 #[], 38, "ref.go:60", #[], none⟩) rfl (fun K hK => ?_) (AllReadyH.cons (o := ⟨some 53, .buildSlice 38 1 #[(0, .tmp 52)], 38, "ref.go:60", #[⟨5, .data⟩], none⟩) rfl (fun K hK => ?_) AllReadyH.nil))
              ·
               go_simp
               have zs : zz ≤ zz := Nat.le_refl _
               have bd : Below zz wr (wr.alloc (.cells #[] 3)) := by have h := (Below.refl wr.heap.size wr).alloc (Nat.le_refl _) (.cells #[] 3); rwa [hzz] at h
               have OX : (wr.alloc (.cells #[] 3)).ownsRow zz 3 1 (.slice (some ⟨zz, 0, none⟩) 0 0) 0 (intC []) := by have h := lit_ints (base := zz) wr (Nat.le_of_eq hzz.symm) [] (by simp) rfl; rw [hzz] at h; exact h
               replace HS := HS.trans (bd.mono zs)
               clear bd zs
               generalize wr.alloc (.cells #[] 3) = y1_ at *
               replace hS := HS.drew
               refine Shut.out hK _ _ hS (fun _ => ?_)
               clear hK K
               try simp only [Act.put, List.setIfInBounds_toArray, List.set_cons_zero, List.set_cons_succ]
               refine wpAnyH_ready (rs := [4, 6]) (by kernel_rfl) (by simp) (AllReadyH.cons (o := ⟨some 51, .call { callee := .builtin .append, args := #[.tmp 47, .tmp 50], argTypes := #[38, 38] }, 38, "ref.go:60", #[⟨0, .data⟩, ⟨3, .data⟩], none⟩) rfl (fun K hK => ?_) (AllReadyH.cons (o := ⟨some 53, .buildSlice 38 1 #[(0, .tmp 52)], 38, "ref.go:60", #[⟨5, .data⟩], none⟩) rfl (fun K hK => ?_) AllReadyH.nil))
               ·
                replace HS := HS.drew
                replace OX : y1_.drew.ownsRow zz 3 1 _ _ _ := ⟨OX.1, OX.2⟩
                have zs : zz ≤ y1_.drew.heap.size := by have h1 := HS.size; rw [hzz] at h1; exact h1
                obtain ⟨A3_, c3_, w3_, hap, hown, hgr⟩ := app_ints y1_.drew zz _ (0) [] OX Ch k ch _ (Es.below IH.out (BZ.out _ HS)) (by omega) zs
                rw [Nat.zero_add] at hap hown
                rw [List.nil_append] at hown
                refine op_app_run7 (by rfl) rfl rfl rfl hap ?_
                have bg : Below zz y1_.drew w3_ := (Below.refl _ _).grown hgr zs (fun k hk => (OX.lt k hk).1)
                replace HS := HS.trans bg
                replace OX := hown
                clear hap hgr hown bg zs
                replace hS := HS
                refine Shut.out hK _ _ hS (fun _ => ?_)
                clear hK K
                try simp only [Act.put, List.setIfInBounds_toArray, List.set_cons_zero, List.set_cons_succ]
                refine wpAnyH_ready (rs := [6]) (by kernel_rfl) (by simp) (AllReadyH.cons (o := ⟨some 53, .buildSlice 38 1 #[(0, .tmp 52)], 38, "ref.go:60", #[⟨5, .data⟩], none⟩) rfl (fun K hK => ?_) AllReadyH.nil)
                go_simp
                have zs : zz ≤ w3_.heap.size := by have h1 := HS.size; rw [hzz] at h1; exact h1
                have bd : Below w3_.heap.size w3_ (w3_.alloc (.cells #[.int .i64 (i : Int)] 3)) := (Below.refl _ _).alloc (Nat.le_refl _) _
                have NE := fun k hk => Nat.ne_of_lt (OX.lt k hk).2
                replace OX := own_below OX bd
                have VL : (w3_.alloc (.cells #[.int .i64 (i : Int)] 3)).heap[w3_.heap.size]? = some (.cells (intC [(i : Int)]).toArray 3) := heap_alloc_new _ _
                replace HS := HS.trans (bd.mono zs)
                clear bd zs
                generalize w3_.alloc (.cells #[.int .i64 (i : Int)] 3) = y2_ at *
                generalize hs2_ : w3_.heap.size = s2_ at *
                replace hS := HS
                refine Shut.out hK _ _ hS (fun _ => ?_)
                clear hK K
                try simp only [Act.put, List.setIfInBounds_toArray, List.set_cons_zero, List.set_cons_succ]
                refine wpAnyH_ready (rs := [7]) (by kernel_rfl) (by simp) (AllReadyH.cons (o := ⟨some 54, .call { callee := .builtin .append, args := #[.tmp 51, .tmp 53], argTypes := #[38, 38] }, 38, "ref.go:60", #[⟨4, .data⟩, ⟨6, .data⟩, ⟨4, .chain⟩], none⟩) rfl (fun K hK => ?_) AllReadyH.nil)
                have zs : zz ≤ y2_.heap.size := by have h1 := HS.size; rw [hzz] at h1; exact h1
                obtain ⟨A4_, c4_, w4_, hap, hown, hgr⟩ := app_ints y2_ zz _ (k) (out.take k) OX (some ⟨s2_, 0, none⟩) 1 1 [(i : Int)] (is_blk9 VL rfl) (by omega) zs
                refine op_app_run7 (by rfl) rfl rfl rfl hap ?_
                have bg : Below zz y2_ w4_ := (Below.refl _ _).grown hgr zs (fun k hk => (OX.lt k hk).1)
                replace HS := HS.trans bg
                replace OX := hown
                clear hap hgr hown bg zs
                replace hS := HS
                refine Shut.out hK _ _ hS (fun _ => ?_)
                clear hK K
                try simp only [Act.put, List.setIfInBounds_toArray, List.set_cons_zero, List.set_cons_succ]
                refine wpAnyH_ready (rs := [11]) (by kernel_rfl) (by simp) (AllReadyH.cons (o := ⟨some 58, .call { callee := .builtin .append, args := #[.tmp 54, .tmp 57], argTypes := #[38, 38] }, 38, "ref.go:60", #[⟨7, .data⟩, ⟨10, .data⟩, ⟨7, .chain⟩], none⟩) rfl (fun K hK => ?_) AllReadyH.nil)
                have zs : zz ≤ w4_.heap.size := by have h1 := HS.size; rw [hzz] at h1; exact h1
                obtain ⟨A5_, c5_, w5_, hap, hown, hgr⟩ := app_ints w4_ zz _ (k + 1) (out.take k ++ [(i : Int)]) OX Ct (o - k) ct _ (Es.below IT.out (BZ.out _ HS)) (by omega) zs
                refine op_app_run7 (by rfl) rfl rfl rfl hap ?_
                have bg : Below zz w4_ w5_ := (Below.refl _ _).grown hgr zs (fun k hk => (OX.lt k hk).1)
                replace HS := HS.trans bg
                replace OX := hown
                clear hap hgr hown bg zs
                replace hS := HS
                refine Shut.out hK _ _ hS (fun _ => ?_)
                clear hK K
                try simp only [Act.put, List.setIfInBounds_toArray, List.set_cons_zero, List.set_cons_succ]
                refine wpAnyH_take (i := 12) (oi := ⟨some 5, .assign (.tmp 58), 38, "ref.go:60", #[⟨11, .data⟩, ⟨11, .chain⟩, ⟨0, .phase⟩, ⟨1, .phase⟩, ⟨2, .phase⟩, ⟨3, .phase⟩, ⟨4, .phase⟩, ⟨5, .phase⟩, ⟨6, .phase⟩, ⟨7, .phase⟩, ⟨8, .phase⟩, ⟨9, .phase⟩, ⟨10, .phase⟩, ⟨11, .phase⟩], none⟩) (v := ?_) rfl (by kernel_rfl) (by kernel_rfl) (by kernel_rfl) (fun _ _ _ h => h) (Or.inl ⟨by rfl, ?_⟩) hS ?_
                rotate_left
                · intro wv _; go_simp; try with_reducible rfl
                try simp only [Act.put, List.setIfInBounds_toArray, List.set_cons_zero, List.set_cons_succ]
                refine wpAnyH_done (by kernel_rfl) ?_ _
                refine NoPanic.normal ?_
                go_wp2
                go_roundw
                case rel => exact ⟨i + 1, k + 1 + (o - k), c5_, A5_, rfl, by go_num, by omega, Lib.hid (show World.ownsRow _ g0 3 1 _ _ (intC (sortK ns fl (i + 1))) by rw [HK.out, HSP.out]; have h := own_base OX hgz; rw [List.append_assoc] at h; exact h), Lib.hid ((hbl.out.trans (HBD.out.mono (by have h1 := hbl.out.size; omega))).trans (HS.mono hgz))⟩
                case measure => simp [intOf]; omega
               ·
                go_simp
                have zs : zz ≤ y1_.heap.size := by have h1 := HS.size; rw [hzz] at h1; exact h1
                have bd : Below y1_.heap.size y1_ (y1_.alloc (.cells #[.int .i64 (i : Int)] 3)) := (Below.refl _ _).alloc (Nat.le_refl _) _
                have NE := fun k hk => Nat.ne_of_lt (OX.lt k hk).2
                replace OX := own_below OX bd
                have VL : (y1_.alloc (.cells #[.int .i64 (i : Int)] 3)).heap[y1_.heap.size]? = some (.cells (intC [(i : Int)]).toArray 3) := heap_alloc_new _ _
                replace HS := HS.trans (bd.mono zs)
                clear bd zs
                generalize y1_.alloc (.cells #[.int .i64 (i : Int)] 3) = y2_ at *
                generalize hs2_ : y1_.heap.size = s2_ at *
                replace hS := HS.drew
                refine Shut.out hK _ _ hS (fun _ => ?_)
                clear hK K
                try simp only [Act.put, List.setIfInBounds_toArray, List.set_cons_zero, List.set_cons_succ]
                refine wpAnyH_ready (rs := [4]) (by kernel_rfl) (by simp) (AllReadyH.cons (o := ⟨some 51, .call { callee := .builtin .append, args := #[.tmp 47, .tmp 50], argTypes := #[38, 38] }, 38, "ref.go:60", #[⟨0, .data⟩, ⟨3, .data⟩], none⟩) rfl (fun K hK => ?_) AllReadyH.nil)
                replace HS := HS.drew
                replace OX : y2_.drew.ownsRow zz 3 1 _ _ _ := ⟨OX.1, OX.2⟩
                replace VL : y2_.drew.heap[_]? = _ := VL
                have zs : zz ≤ y2_.drew.heap.size := by have h1 := HS.size; rw [hzz] at h1; exact h1
                obtain ⟨A3_, c3_, w3_, hap, hown, hgr⟩ := app_ints y2_.drew zz _ (0) [] OX Ch k ch _ (Es.below IH.out (BZ.out _ HS)) (by omega) zs
                rw [Nat.zero_add] at hap hown
                rw [List.nil_append] at hown
                refine op_app_run7 (by rfl) rfl rfl rfl hap ?_
                replace VL := blk_grown VL hgr NE
                clear NE
                have bg : Below zz y2_.drew w3_ := (Below.refl _ _).grown hgr zs (fun k hk => (OX.lt k hk).1)
                replace HS := HS.trans bg
                replace OX := hown
                clear hap hgr hown bg zs
                replace hS := HS
                refine Shut.out hK _ _ hS (fun _ => ?_)
                clear hK K
                try simp only [Act.put, List.setIfInBounds_toArray, List.set_cons_zero, List.set_cons_succ]
                refine wpAnyH_ready (rs := [7]) (by kernel_rfl) (by simp) (AllReadyH.cons (o := ⟨some 54, .call { callee := .builtin .append, args := #[.tmp 51, .tmp 53], argTypes := #[38, 38] }, 38, "ref.go:60", #[⟨4, .data⟩, ⟨6, .data⟩, ⟨4, .chain⟩], none⟩) rfl (fun K hK => ?_) AllReadyH.nil)
                have zs : zz ≤ w3_.heap.size := by have h1 := HS.size; rw [hzz] at h1; exact h1
                obtain ⟨A4_, c4_, w4_, hap, hown, hgr⟩ := app_ints w3_ zz _ (k) (out.take k) OX (some ⟨s2_, 0, none⟩) 1 1 [(i : Int)] (is_blk9 VL rfl) (by omega) zs
                refine op_app_run7 (by rfl) rfl rfl rfl hap ?_
                have bg : Below zz w3_ w4_ := (Below.refl _ _).grown hgr zs (fun k hk => (OX.lt k hk).1)
                replace HS := HS.trans bg
                replace OX := hown
                clear hap hgr hown bg zs
                replace hS := HS
                refine Shut.out hK _ _ hS (fun _ => ?_)
                clear hK K
                try simp only [Act.put, List.setIfInBounds_toArray, List.set_cons_zero, List.set_cons_succ]
                refine wpAnyH_ready (rs := [11]) (by kernel_rfl) (by simp) (AllReadyH.cons (o := ⟨some 58, .call { callee := .builtin .append, args := #[.tmp 54, .tmp 57], argTypes := #[38, 38] }, 38, "ref.go:60", #[⟨7, .data⟩, ⟨10, .data⟩, ⟨7, .chain⟩], none⟩) rfl (fun K hK => ?_) AllReadyH.nil)
                have zs : zz ≤ w4_.heap.size := by have h1 := HS.size; rw [hzz] at h1; exact h1
                obtain ⟨A5_, c5_, w5_, hap, hown, hgr⟩ := app_ints w4_ zz _ (k + 1) (out.take k ++ [(i : Int)]) OX Ct (o - k) ct _ (Es.below IT.out (BZ.out _ HS)) (by omega) zs
                refine op_app_run7 (by rfl) rfl rfl rfl hap ?_
                have bg : Below zz w4_ w5_ := (Below.refl _ _).grown hgr zs (fun k hk => (OX.lt k hk).1)
                replace HS := HS.trans bg
                replace OX := hown
                clear hap hgr hown bg zs
                replace hS := HS
                refine Shut.out hK _ _ hS (fun _ => ?_)
                clear hK K
                try simp only [Act.put, List.setIfInBounds_toArray, List.set_cons_zero, List.set_cons_succ]
                refine wpAnyH_take (i := 12) (oi := ⟨some 5, .assign (.tmp 58), 38, "ref.go:60", #[⟨11, .data⟩, ⟨11, .chain⟩, ⟨0, .phase⟩, ⟨1, .phase⟩, ⟨2, .phase⟩, ⟨3, .phase⟩, ⟨4, .phase⟩, ⟨5, .phase⟩, ⟨6, .phase⟩, ⟨7, .phase⟩, ⟨8, .phase⟩, ⟨9, .phase⟩, ⟨10, .phase⟩, ⟨11, .phase⟩], none⟩) (v := ?_) rfl (by kernel_rfl) (by kernel_rfl) (by kernel_rfl) (fun _ _ _ h => h) (Or.inl ⟨by rfl, ?_⟩) hS ?_
                rotate_left
                · intro wv _; go_simp; try with_reducible rfl
                try simp only [Act.put, List.setIfInBounds_toArray, List.set_cons_zero, List.set_cons_succ]
                refine wpAnyH_done (by kernel_rfl) ?_ _
                refine NoPanic.normal ?_
                go_wp2
                go_roundw
                case rel => exact ⟨i + 1, k + 1 + (o - k), c5_, A5_, rfl, by go_num, by omega, Lib.hid (show World.ownsRow _ g0 3 1 _ _ (intC (sortK ns fl (i + 1))) by rw [HK.out, HSP.out]; have h := own_base OX hgz; rw [List.append_assoc] at h; exact h), Lib.hid ((hbl.out.trans (HBD.out.mono (by have h1 := hbl.out.size; omega))).trans (HS.mono hgz))⟩
                case measure => simp [intOf]; omega
              ·
               go_simp
               have zs : zz ≤ zz := Nat.le_refl _
               have bd : Below zz wr (wr.alloc (.cells #[.int .i64 (i : Int)] 3)) := by have h := (Below.refl wr.heap.size wr).alloc (Nat.le_refl _) (.cells #[.int .i64 (i : Int)] 3); rwa [hzz] at h
               have VL : (wr.alloc (.cells #[.int .i64 (i : Int)] 3)).heap[zz]? = some (.cells (intC [(i : Int)]).toArray 3) := by have h := heap_alloc_new wr (.cells #[.int .i64 (i : Int)] 3); rw [hzz] at h; exact h
               replace HS := HS.trans (bd.mono zs)
               clear bd zs
               generalize wr.alloc (.cells #[.int .i64 (i : Int)] 3) = y1_ at *
               replace hS := HS.drew
               refine Shut.out hK _ _ hS (fun _ => ?_)
               clear hK K
               try simp only [Act.put, List.setIfInBounds_toArray, List.set_cons_zero, List.set_cons_succ]
               refine wpAnyH_ready (rs := [0]) (by kernel_rfl) (by simp) (AllReadyH.cons (o := ⟨some 47, .buildSlice 38 0 #[], 38, "ref.go:60", #[], none⟩) rfl (fun K hK => ?_) AllReadyH.nil)
               go_simp
               have zs : zz ≤ y1_.heap.size := by have h1 := HS.size; rw [hzz] at h1; exact h1
               have bd : Below y1_.heap.size y1_ (y1_.alloc (.cells #[] 3)) := (Below.refl _ _).alloc (Nat.le_refl _) _
               have ltl := blk_lt VL
               replace VL := blk_below VL bd ltl
               have OX : (y1_.alloc (.cells #[] 3)).ownsRow zz 3 1 (.slice (some ⟨y1_.heap.size, 0, none⟩) 0 0) 0 (intC []) := lit_ints y1_ zs [] (by simp) rfl
               have NE : ∀ k, (Value.slice (some ⟨y1_.heap.size, 0, none⟩) 0 0).ownBlock = some k → k ≠ zz := fun k hk => by simp [Value.ownBlock] at hk; subst hk; exact (Nat.ne_of_lt ltl).symm
               clear ltl
               replace HS := HS.trans (bd.mono zs)
               clear bd zs
               generalize y1_.alloc (.cells #[] 3) = y2_ at *
               generalize hs2_ : y1_.heap.size = s2_ at *
               replace hS := HS.drew
               refine Shut.out hK _ _ hS (fun _ => ?_)
               clear hK K
               try simp only [Act.put, List.setIfInBounds_toArray, List.set_cons_zero, List.set_cons_succ]
               refine wpAnyH_ready (rs := [4]) (by kernel_rfl) (by simp) (AllReadyH.cons (o := ⟨some 51, .call { callee := .builtin .append, args := #[.tmp 47, .tmp 50], argTypes := #[38, 38] }, 38, "ref.go:60", #[⟨0, .data⟩, ⟨3, .data⟩], none⟩) rfl (fun K hK => ?_) AllReadyH.nil)
               replace HS := HS.drew
               replace OX : y2_.drew.ownsRow zz 3 1 _ _ _ := ⟨OX.1, OX.2⟩
               replace VL : y2_.drew.heap[_]? = _ := VL
               have zs : zz ≤ y2_.drew.heap.size := by have h1 := HS.size; rw [hzz] at h1; exact h1
               obtain ⟨A3_, c3_, w3_, hap, hown, hgr⟩ := app_ints y2_.drew zz _ (0) [] OX Ch k ch _ (Es.below IH.out (BZ.out _ HS)) (by omega) zs
               rw [Nat.zero_add] at hap hown
               rw [List.nil_append] at hown
               refine op_app_run7 (by rfl) rfl rfl rfl hap ?_
               replace VL := blk_grown VL hgr NE
               clear NE
               have bg : Below zz y2_.drew w3_ := (Below.refl _ _).grown hgr zs (fun k hk => (OX.lt k hk).1)
               replace HS := HS.trans bg
               replace OX := hown
               clear hap hgr hown bg zs
               replace hS := HS
               refine Shut.out hK _ _ hS (fun _ => ?_)
               clear hK K
               try simp only [Act.put, List.setIfInBounds_toArray, List.set_cons_zero, List.set_cons_succ]
               refine wpAnyH_ready (rs := [7]) (by kernel_rfl) (by simp) (AllReadyH.cons (o := ⟨some 54, .call { callee := .builtin .append, args := #[.tmp 51, .tmp 53], argTypes := #[38, 38] }, 38, "ref.go:60", #[⟨4, .data⟩, ⟨6, .data⟩, ⟨4, .chain⟩], none⟩) rfl (fun K hK => ?_) AllReadyH.nil)
               have zs : zz ≤ w3_.heap.size := by have h1 := HS.size; rw [hzz] at h1; exact h1
               obtain ⟨A4_, c4_, w4_, hap, hown, hgr⟩ := app_ints w3_ zz _ (k) (out.take k) OX (some ⟨zz, 0, none⟩) 1 1 [(i : Int)] (is_blk9 VL rfl) (by omega) zs
               refine op_app_run7 (by rfl) rfl rfl rfl hap ?_
               have bg : Below zz w3_ w4_ := (Below.refl _ _).grown hgr zs (fun k hk => (OX.lt k hk).1)
               replace HS := HS.trans bg
               replace OX := hown
               clear hap hgr hown bg zs
               replace hS := HS
               refine Shut.out hK _ _ hS (fun _ => ?_)
               clear hK K
               try simp only [Act.put, List.setIfInBounds_toArray, List.set_cons_zero, List.set_cons_succ]
               refine wpAnyH_ready (rs := [11]) (by kernel_rfl) (by simp) (AllReadyH.cons (o := ⟨some 58, .call { callee := .builtin .append, args := #[.tmp 54, .tmp 57], argTypes := #[38, 38] }, 38, "ref.go:60", #[⟨7, .data⟩, ⟨10, .data⟩, ⟨7, .chain⟩], none⟩) rfl (fun K hK => ?_) AllReadyH.nil)
               have zs : zz ≤ w4_.heap.size := by have h1 := HS.size; rw [hzz] at h1; exact h1
               obtain ⟨A5_, c5_, w5_, hap, hown, hgr⟩ := app_ints w4_ zz _ (k + 1) (out.take k ++ [(i : Int)]) OX Ct (o - k) ct _ (Es.below IT.out (BZ.out _ HS)) (by omega) zs
               refine op_app_run7 (by rfl) rfl rfl rfl hap ?_
               have bg : Below zz w4_ w5_ := (Below.refl _ _).grown hgr zs (fun k hk => (OX.lt k hk).1)
               replace HS := HS.trans bg
               replace OX := hown
               clear hap hgr hown bg zs
               replace hS := HS
               refine Shut.out hK _ _ hS (fun _ => ?_)
               clear hK K
               try simp only [Act.put, List.setIfInBounds_toArray, List.set_cons_zero, List.set_cons_succ]
               refine wpAnyH_take (i := 12) (oi := ⟨some 5, .assign (.tmp 58), 38, "ref.go:60", #[⟨11, .data⟩, ⟨11, .chain⟩, ⟨0, .phase⟩, ⟨1, .phase⟩, ⟨2, .phase⟩, ⟨3, .phase⟩, ⟨4, .phase⟩, ⟨5, .phase⟩, ⟨6, .phase⟩, ⟨7, .phase⟩, ⟨8, .phase⟩, ⟨9, .phase⟩, ⟨10, .phase⟩, ⟨11, .phase⟩], none⟩) (v := ?_) rfl (by kernel_rfl) (by kernel_rfl) (by kernel_rfl) (fun _ _ _ h => h) (Or.inl ⟨by rfl, ?_⟩) hS ?_
               rotate_left
               · intro wv _; go_simp; try with_reducible rfl
               try simp only [Act.put, List.setIfInBounds_toArray, List.set_cons_zero, List.set_cons_succ]
               refine wpAnyH_done (by kernel_rfl) ?_ _
               refine NoPanic.normal ?_
               go_wp2
               go_roundw
               case rel => exact ⟨i + 1, k + 1 + (o - k), c5_, A5_, rfl, by go_num, by omega, Lib.hid (show World.ownsRow _ g0 3 1 _ _ (intC (sortK ns fl (i + 1))) by rw [HK.out, HSP.out]; have h := own_base OX hgz; rw [List.append_assoc] at h; exact h), Lib.hid ((hbl.out.trans (HBD.out.mono (by have h1 := hbl.out.size; omega))).trans (HS.mono hgz))⟩
               case measure => simp [intOf]; omega
          · have b1 : decide ((k : Int) < (o : Int)) = false := by simp; omega
            have b1n : decide (k < o) = false := by simp; omega
            have HSP := Lib.hid (show insK ns (i : Int) out = out.take k ++ (i : Int) :: out.drop k from insK_split (by have := HOL.out; omega) HJ.out (fun h => by have := HOL.out; omega))
            have c00 : wr.cell? ⟨q, 0, none⟩ = some (.slice (some ⟨b, off, none⟩) n c) := FR.out.cell 0 0 rfl rfl rfl
            have c01 : wr.cell? ⟨q, 1, none⟩ = some (.int .i64 rt) := FR.out.cell 0 1 rfl rfl rfl
            have c02 : wr.cell? ⟨q, 2, none⟩ = some (.int .i64 fr) := FR.out.cell 0 2 rfl rfl rfl
            clear HJ
            go_wp2
            go_quiet (fail)
            clear c00 c01 c02
            have FRd := FR.out
            have IOd := IO.out.drewN nq
            have hbd := bel_drewN hb.out nq
            have FRq : Fr w (wr.drewN nq) q [.cells #[.slice (some ⟨b, off, none⟩) n c, .int .i64 rt, .int .i64 fr] 24] := ⟨FRd.blk, bel_drewN FRd.bel nq, FRd.sz, FRd.q0⟩
            clear FR IO OW FRd hb ki
            generalize wr.drewN nq = wx at *
            obtain ⟨wr, hwr⟩ : ∃ x, x = wx := ⟨_, rfl⟩
            subst hwr
            have FR := Lib.hid FRq
            clear FRq
            obtain ⟨Ch, ch, hsh, hih⟩ := isl_take (P := Try.prog) IOd 38 unInts szInts (k : Int) k rfl (by omega)
            obtain ⟨Ct, ct, hst, hit⟩ := isl_drop (P := Try.prog) IOd 38 unInts szInts (k : Int) k rfl (by omega)
            have IH := Lib.hid hih; have IT := Lib.hid hit; have HBD := Lib.hid hbd
            have hgz : g0 ≤ wr.heap.size := by have h1 := hbl.out.size; have h2 := hbd.size; omega
            clear hih hit hbd IOd
            have b3 : k ≤ o := hk
            have k0' : (0 : Int) ≤ (k : Int) := by omega
            have k1' : (k : Int) ≤ (o : Int) := by omega
            generalize hzz : wr.heap.size = zz at *
            have BZ := Lib.hid (show ∀ X, Below zz wr X → Below wr.heap.size wr X from fun X h => by rw [hzz]; exact h)
            have HS : Below zz wr wr := by have h := Below.refl wr.heap.size wr; rwa [hzz] at h
            go_wp2
            refine wp_region_noPanic ?_
            refine wp_region_held_drew (S := (fun wv => Below zz wr wv)) (by kernel_rfl) (HS.drew) (fun hS => ?_)
            refine wpAnyH_take (i := 1) (oi := ⟨some 48, .move (.tmp 5), 38, "ref.go:60", #[], none⟩) (v := ?_) rfl (by kernel_rfl) (by kernel_rfl) (by kernel_rfl) (fun _ _ _ h => h) (Or.inl ⟨by rfl, ?_⟩) hS ?_
            rotate_left
            · intro wv _; go_simp; try with_reducible rfl
            try simp only [Act.put, List.setIfInBounds_toArray, List.set_cons_zero, List.set_cons_succ]
            refine wpAnyH_take (i := 2) (oi := ⟨some 49, .move (.tmp 7), 3, "ref.go:60", #[], none⟩) (v := ?_) rfl (by kernel_rfl) (by kernel_rfl) (by kernel_rfl) (fun _ _ _ h => h) (Or.inl ⟨by rfl, ?_⟩) hS ?_
            rotate_left
            · intro wv _; go_simp; try with_reducible rfl
            try simp only [Act.put, List.setIfInBounds_toArray, List.set_cons_zero, List.set_cons_succ]
            refine wpAnyH_take (i := 3) (oi := ⟨some 50, .slice 38 (.tmp 48) none (some (.tmp 49)) none, 38, "ref.go:60", #[⟨1, .data⟩, ⟨2, .data⟩], none⟩) (v := ?_) rfl (by kernel_rfl) (by kernel_rfl) (by kernel_rfl) (fun _ _ _ h => h) (Or.inl ⟨by rfl, ?_⟩) hS ?_
            rotate_left
            · intro wv _; go_simp; try with_reducible rfl
            try simp only [Act.put, List.setIfInBounds_toArray, List.set_cons_zero, List.set_cons_succ]
            refine wpAnyH_take (i := 5) (oi := ⟨some 52, .move (.tmp 6), 3, "ref.go:60", #[], none⟩) (v := ?_) rfl (by kernel_rfl) (by kernel_rfl) (by kernel_rfl) (fun _ _ _ h => h) (Or.inl ⟨by rfl, ?_⟩) hS ?_
            rotate_left
            · intro wv _; go_simp; try with_reducible rfl
            try simp only [Act.put, List.setIfInBounds_toArray, List.set_cons_zero, List.set_cons_succ]
            refine wpAnyH_take (i := 8) (oi := ⟨some 55, .move (.tmp 5), 38, "ref.go:60", #[], none⟩) (v := ?_) rfl (by kernel_rfl) (by kernel_rfl) (by kernel_rfl) (fun _ _ _ h => h) (Or.inl ⟨by rfl, ?_⟩) hS ?_
            rotate_left
            · intro wv _; go_simp; try with_reducible rfl
            try simp only [Act.put, List.setIfInBounds_toArray, List.set_cons_zero, List.set_cons_succ]
            refine wpAnyH_take (i := 9) (oi := ⟨some 56, .move (.tmp 7), 3, "ref.go:60", #[], none⟩) (v := ?_) rfl (by kernel_rfl) (by kernel_rfl) (by kernel_rfl) (fun _ _ _ h => h) (Or.inl ⟨by rfl, ?_⟩) hS ?_
            rotate_left
            · intro wv _; go_simp; try with_reducible rfl
            try simp only [Act.put, List.setIfInBounds_toArray, List.set_cons_zero, List.set_cons_succ]
            refine wpAnyH_take (i := 10) (oi := ⟨some 57, .slice 38 (.tmp 55) (some (.tmp 56)) none none, 38, "ref.go:60", #[⟨8, .data⟩, ⟨9, .data⟩], none⟩) (v := ?_) rfl (by kernel_rfl) (by kernel_rfl) (by kernel_rfl) (fun _ _ _ h => h) (Or.inl ⟨by rfl, ?_⟩) hS ?_
            rotate_left
            · intro wv _; go_simp; try with_reducible rfl
            try simp only [Act.put, List.setIfInBounds_toArray, List.set_cons_zero, List.set_cons_succ]
            refine wpAnyH_ready (rs := [0, 6]) (by kernel_rfl) (by simp) (AllReadyH.cons (o := ⟨some 47, .buildSlice 38 0 #[], 38, "ref.go:60", #[], none⟩) rfl (fun K hK => ?_) (AllReadyH.cons (o := ⟨some 53, .buildSlice 38 1 #[(0, .tmp 52)], 38, "ref.go:60", #[⟨5, .data⟩], none⟩) rfl (fun K hK => ?_) AllReadyH.nil))
            ·
             go_simp
             have zs : zz ≤ zz := Nat.le_refl _
             have bd : Below zz wr (wr.alloc (.cells #[] 3)) := by have h := (Below.refl wr.heap.size wr).alloc (Nat.le_refl _) (.cells #[] 3); rwa [hzz] at h
             have OX : (wr.alloc (.cells #[] 3)).ownsRow zz 3 1 (.slice (some ⟨zz, 0, none⟩) 0 0) 0 (intC []) := by have h := lit_ints (base := zz) wr (Nat.le_of_eq hzz.symm) [] (by simp) rfl; rw [hzz] at h; exact h
             replace HS := HS.trans (bd.mono zs)
             clear bd zs
             generalize wr.alloc (.cells #[] 3) = y1_ at *
             replace hS := HS.drew
             refine Shut.out hK _ _ hS (fun _ => ?_)
             clear hK K
             try simp only [Act.put, List.setIfInBounds_toArray, List.set_cons_zero, List.set_cons_succ]
             refine wpAnyH_ready (rs := [4, 6]) (by kernel_rfl) (by simp) (AllReadyH.cons (o := ⟨some 51, .call { callee := .builtin .append, args := #[.tmp 47, .tmp 50], argTypes := #[38, 38] }, 38, "ref.go:60", #[⟨0, .data⟩, ⟨3, .data⟩], none⟩) rfl (fun K hK => ?_) (AllReadyH.cons (o := ⟨some 53, .buildSlice 38 1 #[(0, .tmp 52)], 38, "ref.go:60", #[⟨5, .data⟩], none⟩) rfl (fun K hK => ?_) AllReadyH.nil))
             ·
              replace HS := HS.drew
              replace OX : y1_.drew.ownsRow zz 3 1 _ _ _ := ⟨OX.1, OX.2⟩
              have zs : zz ≤ y1_.drew.heap.size := by have h1 := HS.size; rw [hzz] at h1; exact h1
              obtain ⟨A3_, c3_, w3_, hap, hown, hgr⟩ := app_ints y1_.drew zz _ (0) [] OX Ch k ch _ (Es.below IH.out (BZ.out _ HS)) (by omega) zs
              rw [Nat.zero_add] at hap hown
              rw [List.nil_append] at hown
              refine op_app_run7 (by rfl) rfl rfl rfl hap ?_
              have bg : Below zz y1_.drew w3_ := (Below.refl _ _).grown hgr zs (fun k hk => (OX.lt k hk).1)
              replace HS := HS.trans bg
              replace OX := hown
              clear hap hgr hown bg zs
              replace hS := HS
              refine Shut.out hK _ _ hS (fun _ => ?_)
              clear hK K
              try simp only [Act.put, List.setIfInBounds_toArray, List.set_cons_zero, List.set_cons_succ]
              refine wpAnyH_ready (rs := [6]) (by kernel_rfl) (by simp) (AllReadyH.cons (o := ⟨some 53, .buildSlice 38 1 #[(0, .tmp 52)], 38, "ref.go:60", #[⟨5, .data⟩], none⟩) rfl (fun K hK => ?_) AllReadyH.nil)
              go_simp
              have zs : zz ≤ w3_.heap.size := by have h1 := HS.size; rw [hzz] at h1; exact h1
              have bd : Below w3_.heap.size w3_ (w3_.alloc (.cells #[.int .i64 (i : Int)] 3)) := (Below.refl _ _).alloc (Nat.le_refl _) _
              have NE := fun k hk => Nat.ne_of_lt (OX.lt k hk).2
              replace OX := own_below OX bd
              have VL : (w3_.alloc (.cells #[.int .i64 (i : Int)] 3)).heap[w3_.heap.size]? = some (.cells (intC [(i : Int)]).toArray 3) := heap_alloc_new _ _
              replace HS := HS.trans (bd.mono zs)
              clear bd zs
              generalize w3_.alloc (.cells #[.int .i64 (i : Int)] 3) = y2_ at *
              generalize hs2_ : w3_.heap.size = s2_ at *
              replace hS := HS
              refine Shut.out hK _ _ hS (fun _ => ?_)
              clear hK K
              try simp only [Act.put, List.setIfInBounds_toArray, List.set_cons_zero, List.set_cons_succ]
              refine wpAnyH_ready (rs := [7]) (by kernel_rfl) (by simp) (AllReadyH.cons (o := ⟨some 54, .call { callee := .builtin .append, args := #[.tmp 51, .tmp 53], argTypes := #[38, 38] }, 38, "ref.go:60", #[⟨4, .data⟩, ⟨6, .data⟩, ⟨4, .chain⟩], none⟩) rfl (fun K hK => ?_) AllReadyH.nil)
              have zs : zz ≤ y2_.heap.size := by have h1 := HS.size; rw [hzz] at h1; exact h1
              obtain ⟨A4_, c4_, w4_, hap, hown, hgr⟩ := app_ints y2_ zz _ (k) (out.take k) OX (some ⟨s2_, 0, none⟩) 1 1 [(i : Int)] (is_blk9 VL rfl) (by omega) zs
              refine op_app_run7 (by rfl) rfl rfl rfl hap ?_
              have bg : Below zz y2_ w4_ := (Below.refl _ _).grown hgr zs (fun k hk => (OX.lt k hk).1)
              replace HS := HS.trans bg
              replace OX := hown
              clear hap hgr hown bg zs
              replace hS := HS
              refine Shut.out hK _ _ hS (fun _ => ?_)
              clear hK K
              try simp only [Act.put, List.setIfInBounds_toArray, List.set_cons_zero, List.set_cons_succ]
              refine wpAnyH_ready (rs := [11]) (by kernel_rfl) (by simp) (AllReadyH.cons (o := ⟨some 58, .call { callee := .builtin .append, args := #[.tmp 54, .tmp 57], argTypes := #[38, 38] }, 38, "ref.go:60", #[⟨7, .data⟩, ⟨10, .data⟩, ⟨7, .chain⟩], none⟩) rfl (fun K hK => ?_) AllReadyH.nil)
              have zs : zz ≤ w4_.heap.size := by have h1 := HS.size; rw [hzz] at h1; exact h1
              obtain ⟨A5_, c5_, w5_, hap, hown, hgr⟩ := app_ints w4_ zz _ (k + 1) (out.take k ++ [(i : Int)]) OX Ct (o - k) ct _ (Es.below IT.out (BZ.out _ HS)) (by omega) zs
              refine op_app_run7 (by rfl) rfl rfl rfl hap ?_
              have bg : Below zz w4_ w5_ := (Below.refl _ _).grown hgr zs (fun k hk => (OX.lt k hk).1)
              replace HS := HS.trans bg
              replace OX := hown
              clear hap hgr hown bg zs
              replace hS := HS
              refine Shut.out hK _ _ hS (fun _ => ?_)
              clear hK K
              try simp only [Act.put, List.setIfInBounds_toArray, List.set_cons_zero, List.set_cons_succ]
              refine wpAnyH_take (i := 12) (oi := ⟨some 5, .assign (.tmp 58), 38, "ref.go:60", #[⟨11, .data⟩, ⟨11, .chain⟩, ⟨0, .phase⟩, ⟨1, .phase⟩, ⟨2, .phase⟩, ⟨3, .phase⟩, ⟨4, .phase⟩, ⟨5, .phase⟩, ⟨6, .phase⟩, ⟨7, .phase⟩, ⟨8, .phase⟩, ⟨9, .phase⟩, ⟨10, .phase⟩, ⟨11, .phase⟩], none⟩) (v := ?_) rfl (by kernel_rfl) (by kernel_rfl) (by kernel_rfl) (fun _ _ _ h => h) (Or.inl ⟨by rfl, ?_⟩) hS ?_
              rotate_left
              · intro wv _; go_simp; try with_reducible rfl
              try simp only [Act.put, List.setIfInBounds_toArray, List.set_cons_zero, List.set_cons_succ]
              refine wpAnyH_done (by kernel_rfl) ?_ _
              refine NoPanic.normal ?_
              go_wp2
              go_roundw
              case rel => exact ⟨i + 1, k + 1 + (o - k), c5_, A5_, rfl, by go_num, by omega, Lib.hid (show World.ownsRow _ g0 3 1 _ _ (intC (sortK ns fl (i + 1))) by rw [HK.out, HSP.out]; have h := own_base OX hgz; rw [List.append_assoc] at h; exact h), Lib.hid ((hbl.out.trans (HBD.out.mono (by have h1 := hbl.out.size; omega))).trans (HS.mono hgz))⟩
              case measure => simp [intOf]; omega
             ·
              go_simp
              have zs : zz ≤ y1_.heap.size := by have h1 := HS.size; rw [hzz] at h1; exact h1
              have bd : Below y1_.heap.size y1_ (y1_.alloc (.cells #[.int .i64 (i : Int)] 3)) := (Below.refl _ _).alloc (Nat.le_refl _) _
              have NE := fun k hk => Nat.ne_of_lt (OX.lt k hk).2
              replace OX := own_below OX bd
              have VL : (y1_.alloc (.cells #[.int .i64 (i : Int)] 3)).heap[y1_.heap.size]? = some (.cells (intC [(i : Int)]).toArray 3) := heap_alloc_new _ _
              replace HS := HS.trans (bd.mono zs)
              clear bd zs
              generalize y1_.alloc (.cells #[.int .i64 (i : Int)] 3) = y2_ at *
              generalize hs2_ : y1_.heap.size = s2_ at *
              replace hS := HS.drew
              refine Shut.out hK _ _ hS (fun _ => ?_)
              clear hK K
              try simp only [Act.put, List.setIfInBounds_toArray, List.set_cons_zero, List.set_cons_succ]
              refine wpAnyH_ready (rs := [4]) (by kernel_rfl) (by simp) (AllReadyH.cons (o := ⟨some 51, .call { callee := .builtin .append, args := #[.tmp 47, .tmp 50], argTypes := #[38, 38] }, 38, "ref.go:60", #[⟨0, .data⟩, ⟨3, .data⟩], none⟩) rfl (fun K hK => ?_) AllReadyH.nil)
              replace HS := HS.drew
              replace OX : y2_.drew.ownsRow zz 3 1 _ _ _ := ⟨OX.1, OX.2⟩
              replace VL : y2_.drew.heap[_]? = _ := VL
              have zs : zz ≤ y2_.drew.heap.size := by have h1 := HS.size; rw [hzz] at h1; exact h1
              obtain ⟨A3_, c3_, w3_, hap, hown, hgr⟩ := app_ints y2_.drew zz _ (0) [] OX Ch k ch _ (Es.below IH.out (BZ.out _ HS)) (by omega) zs
              rw [Nat.zero_add] at hap hown
              rw [List.nil_append] at hown
              refine op_app_run7 (by rfl) rfl rfl rfl hap ?_
              replace VL := blk_grown VL hgr NE
              clear NE
              have bg : Below zz y2_.drew w3_ := (Below.refl _ _).grown hgr zs (fun k hk => (OX.lt k hk).1)
              replace HS := HS.trans bg
              replace OX := hown
              clear hap hgr hown bg zs
              replace hS := HS
              refine Shut.out hK _ _ hS (fun _ => ?_)
              clear hK K
              try simp only [Act.put, List.setIfInBounds_toArray, List.set_cons_zero, List.set_cons_succ]
              refine wpAnyH_ready (rs := [7]) (by kernel_rfl) (by simp) (AllReadyH.cons (o := ⟨some 54, .call { callee := .builtin .append, args := #[.tmp 51, .tmp 53], argTypes := #[38, 38] }, 38, "ref.go:60", #[⟨4, .data⟩, ⟨6, .data⟩, ⟨4, .chain⟩], none⟩) rfl (fun K hK => ?_) AllReadyH.nil)
              have zs : zz ≤ w3_.heap.size := by have h1 := HS.size; rw [hzz] at h1; exact h1
              obtain ⟨A4_, c4_, w4_, hap, hown, hgr⟩ := app_ints w3_ zz _ (k) (out.take k) OX (some ⟨s2_, 0, none⟩) 1 1 [(i : Int)] (is_blk9 VL rfl) (by omega) zs
              refine op_app_run7 (by rfl) rfl rfl rfl hap ?_
              have bg : Below zz w3_ w4_ := (Below.refl _ _).grown hgr zs (fun k hk => (OX.lt k hk).1)
              replace HS := HS.trans bg
              replace OX := hown
              clear hap hgr hown bg zs
              replace hS := HS
              refine Shut.out hK _ _ hS (fun _ => ?_)
              clear hK K
              try simp only [Act.put, List.setIfInBounds_toArray, List.set_cons_zero, List.set_cons_succ]
              refine wpAnyH_ready (rs := [11]) (by kernel_rfl) (by simp) (AllReadyH.cons (o := ⟨some 58, .call { callee := .builtin .append, args := #[.tmp 54, .tmp 57], argTypes := #[38, 38] }, 38, "ref.go:60", #[⟨7, .data⟩, ⟨10, .data⟩, ⟨7, .chain⟩], none⟩) rfl (fun K hK => ?_) AllReadyH.nil)
              have zs : zz ≤ w4_.heap.size := by have h1 := HS.size; rw [hzz] at h1; exact h1
              obtain ⟨A5_, c5_, w5_, hap, hown, hgr⟩ := app_ints w4_ zz _ (k + 1) (out.take k ++ [(i : Int)]) OX Ct (o - k) ct _ (Es.below IT.out (BZ.out _ HS)) (by omega) zs
              refine op_app_run7 (by rfl) rfl rfl rfl hap ?_
              have bg : Below zz w4_ w5_ := (Below.refl _ _).grown hgr zs (fun k hk => (OX.lt k hk).1)
              replace HS := HS.trans bg
              replace OX := hown
              clear hap hgr hown bg zs
              replace hS := HS
              refine Shut.out hK _ _ hS (fun _ => ?_)
              clear hK K
              try simp only [Act.put, List.setIfInBounds_toArray, List.set_cons_zero, List.set_cons_succ]
              refine wpAnyH_take (i := 12) (oi := ⟨some 5, .assign (.tmp 58), 38, "ref.go:60", #[⟨11, .data⟩, ⟨11, .chain⟩, ⟨0, .phase⟩, ⟨1, .phase⟩, ⟨2, .phase⟩, ⟨3, .phase⟩, ⟨4, .phase⟩, ⟨5, .phase⟩, ⟨6, .phase⟩, ⟨7, .phase⟩, ⟨8, .phase⟩, ⟨9, .phase⟩, ⟨10, .phase⟩, ⟨11, .phase⟩], none⟩) (v := ?_) rfl (by kernel_rfl) (by kernel_rfl) (by kernel_rfl) (fun _ _ _ h => h) (Or.inl ⟨by rfl, ?_⟩) hS ?_
              rotate_left
              · intro wv _; go_simp; try with_reducible rfl
              try simp only [Act.put, List.setIfInBounds_toArray, List.set_cons_zero, List.set_cons_succ]
              refine wpAnyH_done (by kernel_rfl) ?_ _
              refine NoPanic.normal ?_
              go_wp2
              go_roundw
              case rel => exact ⟨i + 1, k + 1 + (o - k), c5_, A5_, rfl, by go_num, by omega, Lib.hid (show World.ownsRow _ g0 3 1 _ _ (intC (sortK ns fl (i + 1))) by rw [HK.out, HSP.out]; have h := own_base OX hgz; rw [List.append_assoc] at h; exact h), Lib.hid ((hbl.out.trans (HBD.out.mono (by have h1 := hbl.out.size; omega))).trans (HS.mono hgz))⟩
              case measure => simp [intOf]; omega
            ·
             go_simp
             have zs : zz ≤ zz := Nat.le_refl _
             have bd : Below zz wr (wr.alloc (.cells #[.int .i64 (i : Int)] 3)) := by have h := (Below.refl wr.heap.size wr).alloc (Nat.le_refl _) (.cells #[.int .i64 (i : Int)] 3); rwa [hzz] at h
             have VL : (wr.alloc (.cells #[.int .i64 (i : Int)] 3)).heap[zz]? = some (.cells (intC [(i : Int)]).toArray 3) := by have h := heap_alloc_new wr (.cells #[.int .i64 (i : Int)] 3); rw [hzz] at h; exact h
             replace HS := HS.trans (bd.mono zs)
             clear bd zs
             generalize wr.alloc (.cells #[.int .i64 (i : Int)] 3) = y1_ at *
             replace hS := HS.drew
             refine Shut.out hK _ _ hS (fun _ => ?_)
             clear hK K
             try simp only [Act.put, List.setIfInBounds_toArray, List.set_cons_zero, List.set_cons_succ]
             refine wpAnyH_ready (rs := [0]) (by kernel_rfl) (by simp) (AllReadyH.cons (o := ⟨some 47, .buildSlice 38 0 #[], 38, "ref.go:60", #[], none⟩) rfl (fun K hK => ?_) AllReadyH.nil)
             go_simp
             have zs : zz ≤ y1_.heap.size := by have h1 := HS.size; rw [hzz] at h1; exact h1
             have bd : Below y1_.heap.size y1_ (y1_.alloc (.cells #[] 3)) := (Below.refl _ _).alloc (Nat.le_refl _) _
             have ltl := blk_lt VL
             replace VL := blk_below VL bd ltl
             have OX : (y1_.alloc (.cells #[] 3)).ownsRow zz 3 1 (.slice (some ⟨y1_.heap.size, 0, none⟩) 0 0) 0 (intC []) := lit_ints y1_ zs [] (by simp) rfl
             have NE : ∀ k, (Value.slice (some ⟨y1_.heap.size, 0, none⟩) 0 0).ownBlock = some k → k ≠ zz := fun k hk => by simp [Value.ownBlock] at hk; subst hk; exact (Nat.ne_of_lt ltl).symm
             clear ltl
             replace HS := HS.trans (bd.mono zs)
             clear bd zs
             generalize y1_.alloc (.cells #[] 3) = y2_ at *
             generalize hs2_ : y1_.heap.size = s2_ at *
             replace hS := HS.drew
             refine Shut.out hK _ _ hS (fun _ => ?_)
             clear hK K
             try simp only [Act.put, List.setIfInBounds_toArray, List.set_cons_zero, List.set_cons_succ]
             refine wpAnyH_ready (rs := [4]) (by kernel_rfl) (by simp) (AllReadyH.cons (o := ⟨some 51, .call { callee := .builtin .append, args := #[.tmp 47, .tmp 50], argTypes := #[38, 38] }, 38, "ref.go:60", #[⟨0, .data⟩, ⟨3, .data⟩], none⟩) rfl (fun K hK => ?_) AllReadyH.nil)
             replace HS := HS.drew
             replace OX : y2_.drew.ownsRow zz 3 1 _ _ _ := ⟨OX.1, OX.2⟩
             replace VL : y2_.drew.heap[_]? = _ := VL
             have zs : zz ≤ y2_.drew.heap.size := by have h1 := HS.size; rw [hzz] at h1; exact h1
             obtain ⟨A3_, c3_, w3_, hap, hown, hgr⟩ := app_ints y2_.drew zz _ (0) [] OX Ch k ch _ (Es.below IH.out (BZ.out _ HS)) (by omega) zs
             rw [Nat.zero_add] at hap hown
             rw [List.nil_append] at hown
             refine op_app_run7 (by rfl) rfl rfl rfl hap ?_
             replace VL := blk_grown VL hgr NE
             clear NE
             have bg : Below zz y2_.drew w3_ := (Below.refl _ _).grown hgr zs (fun k hk => (OX.lt k hk).1)
             replace HS := HS.trans bg
             replace OX := hown
             clear hap hgr hown bg zs
             replace hS := HS
             refine Shut.out hK _ _ hS (fun _ => ?_)
             clear hK K
             try simp only [Act.put, List.setIfInBounds_toArray, List.set_cons_zero, List.set_cons_succ]
             refine wpAnyH_ready (rs := [7]) (by kernel_rfl) (by simp) (AllReadyH.cons (o := ⟨some 54, .call { callee := .builtin .append, args := #[.tmp 51, .tmp 53], argTypes := #[38, 38] }, 38, "ref.go:60", #[⟨4, .data⟩, ⟨6, .data⟩, ⟨4, .chain⟩], none⟩) rfl (fun K hK => ?_) AllReadyH.nil)
             have zs : zz ≤ w3_.heap.size := by have h1 := HS.size; rw [hzz] at h1; exact h1
             obtain ⟨A4_, c4_, w4_, hap, hown, hgr⟩ := app_ints w3_ zz _ (k) (out.take k) OX (some ⟨zz, 0, none⟩) 1 1 [(i : Int)] (is_blk9 VL rfl) (by omega) zs
             refine op_app_run7 (by rfl) rfl rfl rfl hap ?_
             have bg : Below zz w3_ w4_ := (Below.refl _ _).grown hgr zs (fun k hk => (OX.lt k hk).1)
             replace HS := HS.trans bg
             replace OX := hown
             clear hap hgr hown bg zs
             replace hS := HS
             refine Shut.out hK _ _ hS (fun _ => ?_)
             clear hK K
             try simp only [Act.put, List.setIfInBounds_toArray, List.set_cons_zero, List.set_cons_succ]
             refine wpAnyH_ready (rs := [11]) (by kernel_rfl) (by simp) (AllReadyH.cons (o := ⟨some 58, .call { callee := .builtin .append, args := #[.tmp 54, .tmp 57], argTypes := #[38, 38] }, 38, "ref.go:60", #[⟨7, .data⟩, ⟨10, .data⟩, ⟨7, .chain⟩], none⟩) rfl (fun K hK => ?_) AllReadyH.nil)
             have zs : zz ≤ w4_.heap.size := by have h1 := HS.size; rw [hzz] at h1; exact h1
             obtain ⟨A5_, c5_, w5_, hap, hown, hgr⟩ := app_ints w4_ zz _ (k + 1) (out.take k ++ [(i : Int)]) OX Ct (o - k) ct _ (Es.below IT.out (BZ.out _ HS)) (by omega) zs
             refine op_app_run7 (by rfl) rfl rfl rfl hap ?_
             have bg : Below zz w4_ w5_ := (Below.refl _ _).grown hgr zs (fun k hk => (OX.lt k hk).1)
             replace HS := HS.trans bg
             replace OX := hown
             clear hap hgr hown bg zs
             replace hS := HS
             refine Shut.out hK _ _ hS (fun _ => ?_)
             clear hK K
             try simp only [Act.put, List.setIfInBounds_toArray, List.set_cons_zero, List.set_cons_succ]
             refine wpAnyH_take (i := 12) (oi := ⟨some 5, .assign (.tmp 58), 38, "ref.go:60", #[⟨11, .data⟩, ⟨11, .chain⟩, ⟨0, .phase⟩, ⟨1, .phase⟩, ⟨2, .phase⟩, ⟨3, .phase⟩, ⟨4, .phase⟩, ⟨5, .phase⟩, ⟨6, .phase⟩, ⟨7, .phase⟩, ⟨8, .phase⟩, ⟨9, .phase⟩, ⟨10, .phase⟩, ⟨11, .phase⟩], none⟩) (v := ?_) rfl (by kernel_rfl) (by kernel_rfl) (by kernel_rfl) (fun _ _ _ h => h) (Or.inl ⟨by rfl, ?_⟩) hS ?_
             rotate_left
             · intro wv _; go_simp; try with_reducible rfl
             try simp only [Act.put, List.setIfInBounds_toArray, List.set_cons_zero, List.set_cons_succ]
             refine wpAnyH_done (by kernel_rfl) ?_ _
             refine NoPanic.normal ?_
             go_wp2
             go_roundw
             case rel => exact ⟨i + 1, k + 1 + (o - k), c5_, A5_, rfl, by go_num, by omega, Lib.hid (show World.ownsRow _ g0 3 1 _ _ (intC (sortK ns fl (i + 1))) by rw [HK.out, HSP.out]; have h := own_base OX hgz; rw [List.append_assoc] at h; exact h), Lib.hid ((hbl.out.trans (HBD.out.mono (by have h1 := hbl.out.size; omega))).trans (HS.mono hgz))⟩
             case measure => simp [intOf]; omega
    · have en : n = i := by omega
      subst en
      have b1 : decide ((n : Int) < (n : Int)) = false := by simp
      have c00 : wr.cell? ⟨q, 0, none⟩ = some (.slice A n c) := FR.out.cell 0 0 rfl rfl rfl
      have c01 : wr.cell? ⟨q, 1, none⟩ = some (.int .i64 rt) := FR.out.cell 0 1 rfl rfl rfl
      have c02 : wr.cell? ⟨q, 2, none⟩ = some (.int .i64 fr) := FR.out.cell 0 2 rfl rfl rfl
      go_wp2
      go_ret
      rw [HRK.out]
      exact ⟨_, _, _, rfl, own_base OW.out (by rw [hq]; omega), FR.out.out⟩
end Go.Proofs.Ytfgfohomgomidaa
