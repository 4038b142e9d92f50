/- What the document's own Right and Keys of layer 9 answer; for slices of up to 16384 nodes. -/
import Derived.Test.YtfgfohomgomidaaTreE
namespace Go.Proofs.Ytfgfohomgomidaa
set_option linter.unusedVariables false
set_option linter.unusedSimpArgs false
open Go.RowKit

theorem keysOk_step {ns : List Nd} {l : List Int} {k : Nat} (h : keysOk ns l k) (h0 : 0 ≤ keyT ns (l.getD k 0)) (h1 : 0 < k → keyT ns (l.getD (k - 1) 0) ≠ keyT ns (l.getD k 0)) : keysOk ns l (k + 1) := fun i hi => by
  rcases Nat.lt_or_ge i k with h2 | h2
  · exact h i h2
  · obtain rfl : i = k := by omega
    exact ⟨h0, h1⟩
theorem right_no {p : Trp} (h : ¬ rightP9 p) : rightT p = false := decide_eq_false h
theorem right_end {p : Trp} (h1 : p.1.length ≤ 64) (h2 : (freeW p).isSome = true) (h3 : keysOk p.1 (sortT p) (sortT p).length) : rightT p = decide (laidP p = p) := by
  unfold rightT
  by_cases h : laidP p = p
  · rw [decide_eq_true h, decide_eq_true ⟨h1, h2, h3, h⟩]
  · rw [decide_eq_false h, decide_eq_false fun hh => h hh.2.2.2]
theorem drop_map9 {l : List Int} {i : Nat} {x : Int} {f : Int → Int} (h : l.drop i = x :: l.drop (i + 1)) : (l.map f).take (i + 1) = (l.map f).take i ++ [f x] := by
  have := take_step h
  rw [← List.map_take, this, List.map_append, List.map_take]; rfl
set_option maxRecDepth 100000 in
set_option maxHeartbeats 4000000 in
theorem refRight9_any (A : Option Addr) (n c : Nat) (ns : List Nd) (rt fr : Int) (w : World) (hx : Ns w A n c ns) (hn : n ≤ 16384) :
    Calls Try.prog 17 #[.agg #[.slice A n c, .int .i64 rt, .int .i64 fr]] w (Yes9 w (rightT (ns, rt, fr))) := by
  have hlen := hx.len
  have RX := Lib.hid hx
  have HL := Lib.hid hlen
  have FW := fun (W : World) (h : Ns W A n c ns) => refFree9_any A n c ns rt fr W h hn
  have SW := fun (W : World) (h : Ns W A n c ns) => refSorted9_any A n c ns rt fr W h hn
  have LP := fun (W : World) (h : Ns W A n c ns) => refLaid9_any A n c ns rt fr W h hn
  obtain ⟨n1, r1, f1, hLP⟩ : ∃ n1 r1 f1, laidP (ns, rt, fr) = (n1, r1, f1) := ⟨_, _, _, rfl⟩
  rw [hLP] at LP
  have SM := fun (W : World) (B : Option Addr) (d : Nat) (h1 : Ns W B n d n1) (h2 : Ns W A n c ns) => refSame9_any B n d n1 r1 f1 A n c ns rt fr W h1 h2 hn
  obtain ⟨sb, hsb⟩ : ∃ sb, decide (((n1, r1, f1) : Trp) = (ns, rt, fr)) = sb := ⟨_, rfl⟩
  rw [hsb] at SM
  have hLE : decide (laidP (ns, rt, fr) = (ns, rt, fr)) = sb := by rw [hLP]; exact hsb
  replace LP : Hid (∀ W, Ns W A n c ns → Calls Try.prog 31 #[.agg #[.slice A n c, .int .i64 rt, .int .i64 fr]] W (CopyPost9 W n n1 r1 f1)) := Lib.hid LP
  replace SM : Hid (∀ W B d, Ns W B n d n1 → Ns W A n c ns → Calls Try.prog 15 #[.agg #[.slice B n d, .int .i64 r1, .int .i64 f1], .agg #[.slice A n c, .int .i64 rt, .int .i64 fr]] W (Yes9 W sb)) := Lib.hid SM
  clear hLP hsb
  obtain ⟨R, hR⟩ : ∃ R, rightT (ns, rt, fr) = R := ⟨_, rfl⟩
  rw [hR]
  have HR := Lib.hid hR
  clear hx hR
  obtain ⟨v1, hv1⟩ : ∃ W, w.alloc (.cells #[.slice A n c, .int .i64 rt, .int .i64 fr] 24) = W := ⟨_, rfl⟩
  have fr1 : Fr w v1 w.heap.size [.cells #[.slice A n c, .int .i64 rt, .int .i64 fr] 24] := hv1 ▸ Fr.first w _
  have z1 : v1.heap.size = w.heap.size + 1 := by rw [← hv1, Fr.size1]
  generalize hq : w.heap.size = q at *
  have FR := Lib.hid fr1
  clear fr1
  by_cases h64 : 64 < n
  · have c00 : v1.cell? ⟨q, 0, none⟩ = some (.slice A n c) := FR.out.cell 0 0 rfl rfl rfl
    have c01 : v1.cell? ⟨q, 1, none⟩ = some (.int .i64 rt) := FR.out.cell 0 1 rfl rfl rfl
    have c02 : v1.cell? ⟨q, 2, none⟩ = some (.int .i64 fr) := FR.out.cell 0 2 rfl rfl rfl
    have b0 : decide ((64 : Int) < (n : Int)) = true := by simp; omega
    have b0n : decide (64 < n) = true := by simp; omega
    have HE := Lib.hid (show R = false by rw [← HR.out]; exact right_no fun h => by have h1 := h.1; have h2 := HL.out; simp only at h1; omega)
    clear h64 FW SW hlen
    go_enter Try.func17, Try.ntmps17
    go_wp2
    go_ret
    rw [HE.out]
    exact ⟨rfl, FR.out.out⟩
  · have b0 : decide ((64 : Int) < (n : Int)) = false := by simp; omega
    have b0n : decide (64 < n) = false := by simp; omega
    have hsm : n ≤ 64 := by omega
    have hse := @right_end (ns, rt, fr) (by simp only; omega)
    rw [hLE] at hse
    clear hLE
    have hsi := sortT_in (ns, rt, fr)
    simp only [hlen] at hsi
    have hno := @right_no (ns, rt, fr)
    unfold rightP9 at hno
    obtain ⟨l, hl⟩ : ∃ l, sortT (ns, rt, fr) = l := ⟨_, rfl⟩
    obtain ⟨fw, hfw⟩ : ∃ fw, freeW (ns, rt, fr) = fw := ⟨_, rfl⟩
    rw [hl] at SW hsi hse hno
    rw [hfw] at FW hse hno
    rw [HR.out] at hse hno
    simp only at hse hno
    replace FW : Hid (∀ W, Ns W A n c ns → Calls Try.prog 38 #[.agg #[.slice A n c, .int .i64 rt, .int .i64 fr]] W (FreePost W fw)) := Lib.hid FW
    replace SW : Hid (∀ W, Ns W A n c ns → Calls Try.prog 39 #[.agg #[.slice A n c, .int .i64 rt, .int .i64 fr]] W (OwnI W l)) := Lib.hid SW
    have HSE := Lib.hid hse; have HNO := Lib.hid hno; have HSI := Lib.hid hsi
    clear hse hno hsi hl hfw hlen h64
    cases hs : fw.isSome
    · have HE := Lib.hid (show R = false from HNO.out fun h => by rw [hs] at h; cases h.2.1)
      go_enter Try.func17, Try.ntmps17
      have c00 : v1.cell? ⟨q, 0, none⟩ = some (.slice A n c) := FR.out.cell 0 0 rfl rfl rfl
      have c01 : v1.cell? ⟨q, 1, none⟩ = some (.int .i64 rt) := FR.out.cell 0 1 rfl rfl rfl
      have c02 : v1.cell? ⟨q, 2, none⟩ = some (.int .i64 fr) := FR.out.cell 0 2 rfl rfl rfl
      go_wp2_with fail
      refine (FW.out _ (FR.out.es RX.out)).mono ?_
      rintro e w2 ⟨B, m0, d, rfl, hown, hb⟩
      rw [hs]
      clear hown
      clear c00 c01 c02
      replace FR := Lib.hid (FR.out.step hb)
      clear hb
      go_wp2
      go_ret
      rw [HE.out]
      exact ⟨rfl, FR.out.out⟩
    · go_enter Try.func17, Try.ntmps17
      have c00 : v1.cell? ⟨q, 0, none⟩ = some (.slice A n c) := FR.out.cell 0 0 rfl rfl rfl
      have c01 : v1.cell? ⟨q, 1, none⟩ = some (.int .i64 rt) := FR.out.cell 0 1 rfl rfl rfl
      have c02 : v1.cell? ⟨q, 2, none⟩ = some (.int .i64 fr) := FR.out.cell 0 2 rfl rfl rfl
      go_wp2_with fail
      refine (FW.out _ (FR.out.es RX.out)).mono ?_
      rintro e w2 ⟨B, m0, d, rfl, hown, hb⟩
      rw [hs]
      clear hown
      clear c00 c01 c02
      replace FR := Lib.hid (FR.out.step hb)
      clear hb
      have c00 : w2.cell? ⟨q, 0, none⟩ = some (.slice A n c) := FR.out.cell 0 0 rfl rfl rfl
      have c01 : w2.cell? ⟨q, 1, none⟩ = some (.int .i64 rt) := FR.out.cell 0 1 rfl rfl rfl
      have c02 : w2.cell? ⟨q, 2, none⟩ = some (.int .i64 fr) := FR.out.cell 0 2 rfl rfl rfl
      go_wp2_with fail
      refine ((SW.out _ (FR.out.es RX.out))).mono ?_
      rintro e w3 ⟨C, m, c2, rfl, hown, hb⟩
      clear c00 c01 c02
      replace FR := Lib.hid (FR.out.step hb)
      clear hb
      obtain ⟨_, _, he, his⟩ := Es.of_own hown (intC_one _)
      injection he with he1 he2 he3; subst he1; subst he3
      have IL := Lib.hid (show Is w3 C m c2 l from his)
      have hml : l.length = m := Is.len his
      have HML := Lib.hid hml
      have hmn : m ≤ n := by have := HSI.out.2; omega
      clear hown his hml hv1 z1
      obtain ⟨g0, hg0⟩ : ∃ g, w3.heap.size = g := ⟨_, rfl⟩
      go_wp2
      go_loopw [6] (fun iv wr => ∃ i : Nat, iv = .int .i64 (i : Int) ∧ i ≤ m ∧ Hid (keysOk ns l i) ∧ Hid (Below w3.heap.size w3 wr)) (fun iv _ => m - (intOf iv).toNat)
      case atStart => exact ⟨0, rfl, by omega, fun i hi => by omega, Below.refl _ _⟩
      case round =>
        obtain ⟨i, rfl, hi, HK, hbl⟩ := hrel
        replace FR := Lib.hid (FR.out.step hbl.out)
        replace IL := Lib.hid (Es.below IL.out hbl.out)
        by_cases hlt : i < m
        · have b1 : decide ((i : Int) < (m : Int)) = true := by simpa using hlt
          obtain ⟨lb, loff, x, rfl, hlb, lhc, hdr⟩ := (show Is wr C m c2 l from IL.out).look i hlt
          have hgx : l.getD i 0 = x := by have h1 := drop_at (xs := l) (i := i) (by have := HML.out; omega); rw [h1] at hdr; injection hdr with h2 _; rw [← h2]; simp [List.getD, show i < l.length by have := HML.out; omega]
          have hxb := HSI.out.1 x (mem_at hdr)
          obtain ⟨j, rfl⟩ : ∃ j : Nat, x = j := ⟨x.toNat, by omega⟩
          have i0 : (0 : Int) ≤ (i : Int) := by omega
          have i1 : (i : Int) < (m : Int) := by omega
          have j0 : (0 : Int) ≤ (j : Int) := hxb.1
          have j1 : (j : Int) < (n : Int) := hxb.2
          obtain ⟨b, off, rfl, hbq, kx, _, _, _, _, _⟩ := Ns.look (ns := ns) RX.out j (by omega)
          replace kx := (FR.out.out.cell (p := ⟨b, off + j * 6, none⟩) hbq).trans kx
          clear hdr hlb hxb
          by_cases hk0 : keyT ns (j : Int) < 0
          · have b2 : decide ((ndAt ns (j : Int)).k < 0) = true := by simpa [keyT] using hk0
            have HE := Lib.hid (show R = false from HNO.out fun h => by have h1 := (h.2.2.1 i (by have := HML.out; omega)).1; rw [hgx] at h1; omega)
            clear hk0 hgx HK
            generalize (ndAt ns (j : Int)).k = kj at *
            have c00 : wr.cell? ⟨q, 0, none⟩ = some (.slice (some ⟨b, off, none⟩) n c) := FR.out.cell 0 0 rfl rfl rfl
            have c01 : wr.cell? ⟨q, 1, none⟩ = some (.int .i64 rt) := FR.out.cell 0 1 rfl rfl rfl
            have c02 : wr.cell? ⟨q, 2, none⟩ = some (.int .i64 fr) := FR.out.cell 0 2 rfl rfl rfl
            go_wp2
            go_quiet (fail)
            go_wp2
            go_quiet (fail)
            go_wp2
            go_ret
            rw [HE.out]
            exact ⟨rfl, bel_drewN (bel_drewN FR.out.out _) _⟩
          · have b2 : decide ((ndAt ns (j : Int)).k < 0) = false := by simpa [keyT] using hk0
            by_cases hi0 : i = 0
            · have b3 : decide ((0 : Int) < (i : Int)) = false := by simp; omega
              have b3n : decide (0 < i) = false := by simp; omega
              have HK2 := Lib.hid (keysOk_step HK.out (by rw [hgx]; omega) (fun h => absurd hi0 (by omega)))
              clear hk0 hgx hi0 HK
              generalize (ndAt ns (j : Int)).k = kj at *
              have c00 : wr.cell? ⟨q, 0, none⟩ = some (.slice (some ⟨b, off, none⟩) n c) := FR.out.cell 0 0 rfl rfl rfl
              have c01 : wr.cell? ⟨q, 1, none⟩ = some (.int .i64 rt) := FR.out.cell 0 1 rfl rfl rfl
              have c02 : wr.cell? ⟨q, 2, none⟩ = some (.int .i64 fr) := FR.out.cell 0 2 rfl rfl rfl
              go_wp2
              go_quiet (fail)
              go_wp2
              go_quiet (fail)
              go_wp2
              go_roundw
              case rel => exact ⟨i + 1, by go_num, by omega, HK2, Lib.hid (bel_drewN hbl.out _)⟩
              case measure => simp [intOf]; omega
            · have b3 : decide ((0 : Int) < (i : Int)) = true := by simp; omega
              have b3n : decide (0 < i) = true := by simp; omega
              have hw1 : IntKind.i64.wrap ((i : Int) - 1) = ((i - 1 : Nat) : Int) := by rw [IntKind.wrap_i64]; omega
              obtain ⟨e, he⟩ : ∃ e, i - 1 = e := ⟨_, rfl⟩
              rw [he] at hw1
              obtain ⟨lb', loff', y, he2, _, lhc2, hdr2⟩ := (show Is wr _ m c2 l from IL.out).look e (by omega)
              injection he2 with he2; injection he2 with he3 he4; subst he3; subst he4
              have hgy : l.getD (i - 1) 0 = y := by rw [he]; have h1 := drop_at (xs := l) (i := e) (by have := HML.out; omega); rw [h1] at hdr2; injection hdr2 with h2 _; rw [← h2]; simp [List.getD, show e < l.length by have := HML.out; omega]
              have hyb := HSI.out.1 y (mem_at hdr2)
              obtain ⟨o, rfl⟩ : ∃ o : Nat, y = o := ⟨y.toNat, by omega⟩
              have e0 : (0 : Int) ≤ (e : Int) := by omega
              have e1 : (e : Int) < (m : Int) := by omega
              have o0 : (0 : Int) ≤ (o : Int) := hyb.1
              have o1 : (o : Int) < (n : Int) := hyb.2
              obtain ⟨b', off', he5, _, ky, _, _, _, _, _⟩ := Ns.look (ns := ns) RX.out o (by omega)
              injection he5 with he5; injection he5 with he6 he7; subst he6; subst he7
              replace ky := (FR.out.out.cell (p := ⟨b, off + o * 6, none⟩) hbq).trans ky
              clear hdr2 hyb
              by_cases hkk : keyT ns (o : Int) = keyT ns (j : Int)
              · have b4 : ((ndAt ns (o : Int)).k == (ndAt ns (j : Int)).k) = true := by simpa [keyT] using hkk
                have HE := Lib.hid (show R = false from HNO.out fun h => (h.2.2.1 i (by have := HML.out; omega)).2 (by omega) (by rw [hgx, hgy]; exact hkk))
                clear hk0 hgx hgy hi0 hkk HK he
                generalize (ndAt ns (j : Int)).k = kj at *
                generalize (ndAt ns (o : Int)).k = ko at *
                have c00 : wr.cell? ⟨q, 0, none⟩ = some (.slice (some ⟨b, off, none⟩) n c) := FR.out.cell 0 0 rfl rfl rfl
                have c01 : wr.cell? ⟨q, 1, none⟩ = some (.int .i64 rt) := FR.out.cell 0 1 rfl rfl rfl
                have c02 : wr.cell? ⟨q, 2, none⟩ = some (.int .i64 fr) := FR.out.cell 0 2 rfl rfl rfl
                go_wp2
                go_quiet (fail)
                go_wp2
                go_quiet (fail)
                go_wp2
                go_ret
                rw [HE.out]
                exact ⟨rfl, bel_drewN (bel_drewN FR.out.out _) _⟩
              · have b4 : ((ndAt ns (o : Int)).k == (ndAt ns (j : Int)).k) = false := by simpa [keyT] using hkk
                have HK2 := Lib.hid (keysOk_step HK.out (by rw [hgx]; omega) (fun h => by rw [hgx, hgy]; exact hkk))
                clear hk0 hgx hgy hi0 hkk HK he
                generalize (ndAt ns (j : Int)).k = kj at *
                generalize (ndAt ns (o : Int)).k = ko at *
                have c00 : wr.cell? ⟨q, 0, none⟩ = some (.slice (some ⟨b, off, none⟩) n c) := FR.out.cell 0 0 rfl rfl rfl
                have c01 : wr.cell? ⟨q, 1, none⟩ = some (.int .i64 rt) := FR.out.cell 0 1 rfl rfl rfl
                have c02 : wr.cell? ⟨q, 2, none⟩ = some (.int .i64 fr) := FR.out.cell 0 2 rfl rfl rfl
                go_wp2
                go_quiet (fail)
                go_wp2
                go_quiet (fail)
                go_wp2
                go_roundw
                case rel => exact ⟨i + 1, by go_num, by omega, HK2, Lib.hid (bel_drewN hbl.out _)⟩
                case measure => simp [intOf]; omega
        · have en : m = i := by omega
          subst en
          have b1 : decide ((m : Int) < (m : Int)) = false := by simp
          have HE := Lib.hid (HSE.out hs (by rw [HML.out]; exact HK.out))
          clear HK
          go_wp2
          refine wp_region_noPanic ?_
          refine wp_region_held_drew (S := (fun wv => Hid (wv.heap[q]? = some (.cells #[.slice A n c, .int .i64 rt, .int .i64 fr] 24)))) (by kernel_rfl) (Lib.hid (FR.out.blk 0 _ rfl)) (fun hS => ?_)
          refine wpAnyH_take (i := 0) (oi := ⟨some 56, .load 24 (.tmp 1), 24, "ref.go:117", #[], none⟩) (v := .agg (([.slice A n c, .int .i64 rt, .int .i64 fr] : List Value)).toArray) rfl (by kernel_rfl) (by kernel_rfl) (by kernel_rfl) (fun _ _ _ h => h) (yieldsIf_load_mid (by rfl) _ _ (by rfl) (q) (0) (by rfl) (([.slice A n c, .int .i64 rt, .int .i64 fr] : List Value)) _ (fun wv hS => blk_rngl hS.out) Try.underlying24 (by rfl) (by kernel_rfl)) hS ?_
          try simp only [Act.put, List.setIfInBounds_toArray, List.set_cons_zero, List.set_cons_succ]
          refine wpAnyH_take (i := 2) (oi := ⟨some 58, .load 24 (.tmp 1), 24, "ref.go:117", #[], none⟩) (v := .agg (([.slice A n c, .int .i64 rt, .int .i64 fr] : List Value)).toArray) rfl (by kernel_rfl) (by kernel_rfl) (by kernel_rfl) (fun _ _ _ h => h) (yieldsIf_load_mid (by rfl) _ _ (by rfl) (q) (0) (by rfl) (([.slice A n c, .int .i64 rt, .int .i64 fr] : List Value)) _ (fun wv hS => blk_rngl hS.out) Try.underlying24 (by rfl) (by kernel_rfl)) hS ?_
          try simp only [Act.put, List.setIfInBounds_toArray, List.set_cons_zero, List.set_cons_succ]
          refine wpAnyH_ready (rs := [1]) (by kernel_rfl) (by simp) (AllReadyH.cons (o := ⟨some 57, .call { callee := .value (.func 31), args := #[.tmp 56], argTypes := #[24] }, 24, "ref.go:117", #[⟨0, .data⟩], none⟩) rfl (fun K hK => ?_) AllReadyH.nil)
          go_simp
          refine (LP.out _ (FR.out.drew.es RX.out)).mono ?_
          rintro e wa ⟨B1, d1, rfl, hown, hb⟩
          replace FR := Lib.hid (FR.out.drew.step hb)
          have NO := Lib.hid (ns_own hown)
          clear hown hb
          replace hS := Lib.hid (FR.out.blk 0 _ rfl)
          go_wp2_with fail
          refine Shut.out hK _ _ hS (fun _ => ?_)
          clear hK K
          try simp only [Act.put, List.setIfInBounds_toArray, List.set_cons_zero, List.set_cons_succ]
          refine wpAnyH_ready (rs := [3]) (by kernel_rfl) (by simp) (AllReadyH.cons (o := ⟨some 59, .call { callee := .value (.func 15), args := #[.tmp 57, .tmp 58], argTypes := #[24, 24] }, 4, "ref.go:117", #[⟨1, .data⟩, ⟨2, .data⟩, ⟨1, .chain⟩], none⟩) rfl (fun K hK => ?_) AllReadyH.nil)
          go_simp
          refine (SM.out _ _ _ NO.out (FR.out.es RX.out)).mono ?_
          rintro e wb ⟨rfl, hb⟩
          replace FR := Lib.hid (FR.out.step hb)
          clear hb NO
          replace hS := Lib.hid (FR.out.blk 0 _ rfl)
          go_wp2_with fail
          refine Shut.out hK _ _ hS (fun _ => ?_)
          clear hK K
          try simp only [Act.put, List.setIfInBounds_toArray, List.set_cons_zero, List.set_cons_succ]
          refine wpAnyH_take (i := 4) (oi := ⟨some 2, .assign (.tmp 59), 4, "ref.go:117", #[⟨3, .data⟩, ⟨3, .chain⟩, ⟨0, .phase⟩, ⟨1, .phase⟩, ⟨2, .phase⟩, ⟨3, .phase⟩], none⟩) (v := ?_) rfl (by kernel_rfl) (by kernel_rfl) (by kernel_rfl) (fun _ _ _ h => h) (Or.inl ⟨by rfl, ?_⟩) hS ?_
          rotate_left
          · intro wv _; go_simp; try with_reducible rfl
          try simp only [Act.put, List.setIfInBounds_toArray, List.set_cons_zero, List.set_cons_succ]
          refine wpAnyH_done (by kernel_rfl) ?_ _
          refine NoPanic.normal ?_
          go_wp2
          go_ret
          rw [HE.out]
          exact ⟨rfl, FR.out.out⟩
set_option maxRecDepth 100000 in
set_option maxHeartbeats 4000000 in
theorem refKeys9_any (A : Option Addr) (n c : Nat) (ns : List Nd) (rt fr : Int) (w : World) (hx : Ns w A n c ns) (hn : n ≤ 16384) :
    Calls Try.prog 20 #[.agg #[.slice A n c, .int .i64 rt, .int .i64 fr]] w (OwnI w (keysT (ns, rt, fr))) := by
  obtain ⟨i5, hi5, hz0, hz1, hz2⟩ := info_of infoInt
  have HI := Lib.hid hi5; have HZ0 := Lib.hid hz0; have HZ1 := Lib.hid hz1; have HZ2 := Lib.hid hz2
  clear hi5 hz0 hz1 hz2
  have hlen := hx.len
  have RX := Lib.hid hx
  have HL := Lib.hid hlen
  have RT := fun (W : World) (h : Ns W A n c ns) => refRight9_any A n c ns rt fr W h hn
  have SW := fun (W : World) (h : Ns W A n c ns) => refSorted9_any A n c ns rt fr W h hn
  have hsi := sortT_in (ns, rt, fr)
  simp only [hlen] at hsi
  obtain ⟨R, hR⟩ : ∃ R, keysT (ns, rt, fr) = R := ⟨_, rfl⟩
  rw [hR]
  unfold keysT at hR
  obtain ⟨l, hl⟩ : ∃ l, sortT (ns, rt, fr) = l := ⟨_, rfl⟩
  rw [hl] at SW hsi hR
  replace SW := Lib.hid SW
  have HSI := Lib.hid hsi
  clear hx hlen hsi hl
  obtain ⟨v1, hv1⟩ : ∃ W, w.alloc (.cells #[.slice A n c, .int .i64 rt, .int .i64 fr] 24) = W := ⟨_, rfl⟩
  have fr1 : Fr w v1 w.heap.size [.cells #[.slice A n c, .int .i64 rt, .int .i64 fr] 24] := hv1 ▸ Fr.first w _
  have z1 : v1.heap.size = w.heap.size + 1 := by rw [← hv1, Fr.size1]
  generalize hq : w.heap.size = q at *
  have FR := Lib.hid fr1
  clear fr1
  cases hr : rightT (ns, rt, fr)
  · rw [hr] at RT hR
    replace RT := Lib.hid RT
    have HE := Lib.hid (show R = [] from hR.symm)
    clear hr hR
    go_enter Try.func20, Try.ntmps20
    have c00 : v1.cell? ⟨q, 0, none⟩ = some (.slice A n c) := FR.out.cell 0 0 rfl rfl rfl
    have c01 : v1.cell? ⟨q, 1, none⟩ = some (.int .i64 rt) := FR.out.cell 0 1 rfl rfl rfl
    have c02 : v1.cell? ⟨q, 2, none⟩ = some (.int .i64 fr) := FR.out.cell 0 2 rfl rfl rfl
    go_wp2_with fail
    refine ((RT.out _ (FR.out.es RX.out))).mono ?_
    rintro e w2 ⟨rfl, hb⟩
    clear c00 c01 c02
    replace FR := Lib.hid (FR.out.step hb)
    clear hb
    go_wp2
    go_ret
    rw [HE.out]
    exact ⟨_, _, _, rfl, World.ownsRow_nil _ _ _ _, FR.out.out⟩
  · rw [hr] at RT hR
    replace RT := Lib.hid RT
    have HE := Lib.hid (show R = l.map (keyT ns) from hR.symm)
    clear hr hR
    go_enter Try.func20, Try.ntmps20
    have c00 : v1.cell? ⟨q, 0, none⟩ = some (.slice A n c) := FR.out.cell 0 0 rfl rfl rfl
    have c01 : v1.cell? ⟨q, 1, none⟩ = some (.int .i64 rt) := FR.out.cell 0 1 rfl rfl rfl
    have c02 : v1.cell? ⟨q, 2, none⟩ = some (.int .i64 fr) := FR.out.cell 0 2 rfl rfl rfl
    go_wp2_with fail
    refine ((RT.out _ (FR.out.es RX.out))).mono ?_
    rintro e w2 ⟨rfl, hb⟩
    clear c00 c01 c02
    replace FR := Lib.hid (FR.out.step hb)
    clear hb
    have c00 : w2.cell? ⟨q, 0, none⟩ = some (.slice A n c) := FR.out.cell 0 0 rfl rfl rfl
    have c01 : w2.cell? ⟨q, 1, none⟩ = some (.int .i64 rt) := FR.out.cell 0 1 rfl rfl rfl
    have c02 : w2.cell? ⟨q, 2, none⟩ = some (.int .i64 fr) := FR.out.cell 0 2 rfl rfl rfl
    go_wp2_with fail
    refine ((SW.out _ (FR.out.es RX.out))).mono ?_
    rintro e w3 ⟨C, m, c2, rfl, hown, hb⟩
    clear c00 c01 c02
    replace FR := Lib.hid (FR.out.step hb)
    clear hb
    obtain ⟨_, _, he, his⟩ := Es.of_own hown (intC_one _)
    injection he with he1 he2 he3; subst he1; subst he3
    have IL := Lib.hid (show Is w3 C m c2 l from his)
    have hml : l.length = m := Is.len his
    have HM := Lib.hid hml
    have hmn : m ≤ n := by have := HSI.out.2; omega
    clear hown his hml hv1 z1
    go_wp2
    go_loopw [3, 5] (fun ov iv wr => ∃ (i : Nat), iv = .int .i64 (i : Int) ∧ i ≤ m ∧ lenV ov = i ∧ Hid (wr.ownsRow w3.heap.size 3 1 ov i (intC ((l.map (keyT ns)).take i))) ∧ Hid (Below w3.heap.size w3 wr)) (fun _ iv _ => m - (intOf iv).toNat)
    case atStart => exact ⟨0, rfl, by omega, rfl, World.ownsRow_nil _ _ _ _, Below.refl _ _⟩
    case round =>
      obtain ⟨i, rfl, hi, hlv, OW, hbl⟩ := hrel
      have FR3 := FR
      replace FR := Lib.hid (FR.out.step hbl.out)
      obtain ⟨C2, d2, rfl, hit⟩ := Es.of_own OW.out (intC_one _)
      clear hit hlv
      by_cases hlt : i < m
      · have b1 : decide ((i : Int) < (m : Int)) = true := by simpa using hlt
        obtain ⟨lb, loff, x, rfl, hlb, hlc, hdr⟩ := (show Is _ _ m c2 l from IL.out).look i hlt
        replace hlc := (hbl.out.cell (p := ⟨lb, loff + i, none⟩) hlb).trans hlc
        have hx := HSI.out.1 x (mem_at hdr)
        obtain ⟨k, rfl⟩ : ∃ k : Nat, x = k := ⟨x.toNat, by omega⟩
        have hqz : q < w3.heap.size := by have := FR3.out.sz; simp only [List.length_cons, List.length_nil] at this; omega
        obtain ⟨b, off, rfl, hbq, k0, _, _, _, _, _⟩ := Ns.look (ns := ns) RX.out k (by omega)
        replace k0 := (FR.out.out.cell (p := ⟨b, off + k * 6, none⟩) hbq).trans k0
        have hb0 : b < w3.heap.size := by omega
        have c00 : wr.cell? ⟨q, 0, none⟩ = some (.slice (some ⟨b, off, none⟩) n c) := FR.out.cell 0 0 rfl rfl rfl
        have c01 : wr.cell? ⟨q, 1, none⟩ = some (.int .i64 rt) := FR.out.cell 0 1 rfl rfl rfl
        have c02 : wr.cell? ⟨q, 2, none⟩ = some (.int .i64 fr) := FR.out.cell 0 2 rfl rfl rfl
        have hi0 : (0 : Int) ≤ (i : Int) := by omega
        have hi1 : (i : Int) < (m : Int) := by omega
        have hk0 : (0 : Int) ≤ (k : Int) := by omega
        have hk1 : (k : Int) < (n : Int) := by omega
        have lez := hbl.out.size
        obtain ⟨A4, c4, w9, hap4, hown4, hbel4⟩ := eapp_lit (P := Try.prog) (ty := 38) (w0 := wr) (base := w3.heap.size) (W := wr.drew) Try.underlying38 HI.out HZ0.out HZ1.out HZ2.out rfl (by decide) (own_below OW.out (Below.refl _ _).drew) (intC_one _) (intC [keyT ns (k : Int)]) (intC_one _) (m := 1) rfl (by unfold maxLen; omega) (by omega) (Below.refl _ wr).drew (show _ ≤ wr.heap.size from lez)
        rw [← intC_app, ← drop_map9 (f := keyT ns) hdr] at hown4
        have HO4 := Lib.hid hown4; have HBR := Lib.hid hbel4; have HB4 := Lib.hid (hbl.out.trans hbel4)
        clear hown4 hbel4 OW hbl hdr hx
        unfold keyT at hap4
        generalize (ndAt ns (k : Int)).k = kk at *
        go_wp2
        refine wp_region_noPanic ?_
        refine wp_region_held_drew (S := (fun wv => Below w3.heap.size wr wv)) (by kernel_rfl) ((Below.refl _ wr).drew) (fun hS => ?_)
        refine wpAnyH_take (i := 0) (oi := ⟨some 17, .move (.tmp 3), 38, "ref.go:128", #[], none⟩) (v := ?_) rfl (by kernel_rfl) (by kernel_rfl) (by kernel_rfl) (fun _ _ _ h => h) (Or.inl ⟨by rfl, ?_⟩) hS ?_
        rotate_left
        · intro wv _; go_simp; try with_reducible rfl
        try simp only [Act.put, List.setIfInBounds_toArray, List.set_cons_zero, List.set_cons_succ]
        refine wpAnyH_take (i := 1) (oi := ⟨some 18, .fieldAddr 24 (.tmp 1) 0, 0, "ref.go:128", #[], none⟩) (v := ?_) rfl (by kernel_rfl) (by kernel_rfl) (by kernel_rfl) (fun _ _ _ h => h) (Or.inl ⟨by rfl, ?_⟩) hS ?_
        rotate_left
        · intro wv _; go_simp; try with_reducible rfl
        try simp only [Act.put, List.setIfInBounds_toArray, List.set_cons_zero, List.set_cons_succ]
        refine wpAnyH_take (i := 2) (oi := ⟨some 19, .load 22 (.tmp 18), 22, "ref.go:128", #[⟨1, .data⟩], none⟩) (v := ?_) rfl (by kernel_rfl) (by kernel_rfl) (by kernel_rfl) (fun _ _ _ h => h) (Or.inl ⟨by rfl, ?_⟩) hS ?_
        rotate_left
        · intro wv hS; have hrun := (hS.cell (p := ⟨q, 0, none⟩) hqz).trans c00; go_simp; try with_reducible rfl
        try simp only [Act.put, List.setIfInBounds_toArray, List.set_cons_zero, List.set_cons_succ]
        refine wpAnyH_take (i := 3) (oi := ⟨some 20, .move (.tmp 4), 38, "ref.go:128", #[], none⟩) (v := ?_) rfl (by kernel_rfl) (by kernel_rfl) (by kernel_rfl) (fun _ _ _ h => h) (Or.inl ⟨by rfl, ?_⟩) hS ?_
        rotate_left
        · intro wv _; go_simp; try with_reducible rfl
        try simp only [Act.put, List.setIfInBounds_toArray, List.set_cons_zero, List.set_cons_succ]
        refine wpAnyH_take (i := 4) (oi := ⟨some 21, .move (.tmp 5), 3, "ref.go:128", #[], none⟩) (v := ?_) rfl (by kernel_rfl) (by kernel_rfl) (by kernel_rfl) (fun _ _ _ h => h) (Or.inl ⟨by rfl, ?_⟩) hS ?_
        rotate_left
        · intro wv _; go_simp; try with_reducible rfl
        try simp only [Act.put, List.setIfInBounds_toArray, List.set_cons_zero, List.set_cons_succ]
        refine wpAnyH_take (i := 5) (oi := ⟨some 22, .indexAddr 38 (.tmp 20) (.tmp 21), 0, "ref.go:128", #[⟨3, .data⟩, ⟨4, .data⟩], none⟩) (v := ?_) rfl (by kernel_rfl) (by kernel_rfl) (by kernel_rfl) (fun _ _ _ h => h) (Or.inl ⟨by rfl, ?_⟩) hS ?_
        rotate_left
        · intro wv _; go_simp; try with_reducible rfl
        try simp only [Act.put, List.setIfInBounds_toArray, List.set_cons_zero, List.set_cons_succ]
        refine wpAnyH_take (i := 6) (oi := ⟨some 23, .load 3 (.tmp 22), 3, "ref.go:128", #[⟨5, .data⟩], none⟩) (v := ?_) rfl (by kernel_rfl) (by kernel_rfl) (by kernel_rfl) (fun _ _ _ h => h) (Or.inl ⟨by rfl, ?_⟩) hS ?_
        rotate_left
        · intro wv hS; have hrun := (hS.cell (p := ⟨lb, loff + i, none⟩) hlb).trans hlc; go_simp; try with_reducible rfl
        try simp only [Act.put, List.setIfInBounds_toArray, List.set_cons_zero, List.set_cons_succ]
        refine wpAnyH_take (i := 7) (oi := ⟨some 24, .indexAddr 22 (.tmp 19) (.tmp 23), 0, "ref.go:128", #[⟨2, .data⟩, ⟨6, .data⟩], none⟩) (v := ?_) rfl (by kernel_rfl) (by kernel_rfl) (by kernel_rfl) (fun _ _ _ h => h) (Or.inl ⟨by rfl, ?_⟩) hS ?_
        rotate_left
        · intro wv _; go_simp; try with_reducible rfl
        try simp only [Act.put, List.setIfInBounds_toArray, List.set_cons_zero, List.set_cons_succ]
        refine wpAnyH_take (i := 8) (oi := ⟨some 25, .fieldAddr 52 (.tmp 24) 0, 0, "ref.go:128", #[⟨7, .data⟩], none⟩) (v := ?_) rfl (by kernel_rfl) (by kernel_rfl) (by kernel_rfl) (fun _ _ _ h => h) (Or.inl ⟨by rfl, ?_⟩) hS ?_
        rotate_left
        · intro wv _; go_simp; try with_reducible rfl
        try simp only [Act.put, List.setIfInBounds_toArray, List.set_cons_zero, List.set_cons_succ]
        refine wpAnyH_take (i := 9) (oi := ⟨some 26, .load 3 (.tmp 25), 3, "ref.go:128", #[⟨8, .data⟩], none⟩) (v := ?_) rfl (by kernel_rfl) (by kernel_rfl) (by kernel_rfl) (fun _ _ _ h => h) (Or.inl ⟨by rfl, ?_⟩) hS ?_
        rotate_left
        · intro wv hS; have hrun := (hS.cell (p := ⟨b, off + k * 6, none⟩) hb0).trans k0; go_simp; try with_reducible rfl
        try simp only [Act.put, List.setIfInBounds_toArray, List.set_cons_zero, List.set_cons_succ]
        refine wpAnyH_ready (rs := [10]) (by kernel_rfl) (by simp) (AllReadyH.cons (o := ⟨some 27, .buildSlice 38 1 #[(0, .tmp 26)], 38, "ref.go:128", #[⟨9, .data⟩], none⟩) rfl (fun K hK => ?_) AllReadyH.nil)
        go_simp
        replace hS := hS.alloc (show w3.heap.size ≤ wr.heap.size from lez) (.cells #[.int .i64 kk] 3)
        refine Shut.out hK _ _ hS (fun _ => ?_)
        clear hK K
        try simp only [Act.put, List.setIfInBounds_toArray, List.set_cons_zero, List.set_cons_succ]
        refine wpAnyH_ready (rs := [11]) (by kernel_rfl) (by simp) (AllReadyH.cons (o := ⟨some 28, .call { callee := .builtin .append, args := #[.tmp 17, .tmp 27], argTypes := #[38, 38] }, 38, "ref.go:128", #[⟨0, .data⟩, ⟨10, .data⟩], none⟩) rfl (fun K hK => ?_) AllReadyH.nil)
        refine op_app_run7 (by rfl) rfl rfl rfl hap4 ?_
        replace hS := HBR.out
        refine Shut.out hK _ _ hS (fun _ => ?_)
        clear hK K
        try simp only [Act.put, List.setIfInBounds_toArray, List.set_cons_zero, List.set_cons_succ]
        refine wpAnyH_take (i := 12) (oi := ⟨some 3, .assign (.tmp 28), 38, "ref.go:128", #[⟨11, .data⟩, ⟨11, .chain⟩, ⟨0, .phase⟩, ⟨1, .phase⟩, ⟨2, .phase⟩, ⟨3, .phase⟩, ⟨4, .phase⟩, ⟨5, .phase⟩, ⟨6, .phase⟩, ⟨7, .phase⟩, ⟨8, .phase⟩, ⟨9, .phase⟩, ⟨10, .phase⟩, ⟨11, .phase⟩], none⟩) (v := ?_) rfl (by kernel_rfl) (by kernel_rfl) (by kernel_rfl) (fun _ _ _ h => h) (Or.inl ⟨by rfl, ?_⟩) hS ?_
        rotate_left
        · intro wv _; go_simp; try with_reducible rfl
        try simp only [Act.put, List.setIfInBounds_toArray, List.set_cons_zero, List.set_cons_succ]
        refine wpAnyH_done (by kernel_rfl) ?_ _
        refine NoPanic.normal ?_
        go_wp2
        go_roundw
        case rel => exact ⟨i + 1, by go_num, by omega, rfl, HO4.out, HB4.out⟩
        case measure => simp [intOf]; omega
      · obtain rfl : i = m := by omega
        have b1 : decide ((i : Int) < (i : Int)) = false := by simp
        have HF := Lib.hid (show wr.ownsRow _ 3 1 (.slice C2 i d2) i (intC (l.map (keyT ns))) by have h := OW.out; rw [List.take_of_length_le (by rw [List.length_map]; exact Nat.le_of_eq HM.out)] at h; exact h)
        have HQ3 := Lib.hid (FR3.out.sz)
        clear OW hlt
        go_wp2
        go_ret
        rw [HE.out]
        exact ⟨_, _, _, rfl, own_base HF.out (by have := HQ3.out; rw [hq]; omega), FR.out.out⟩
end Go.Proofs.Ytfgfohomgomidaa
