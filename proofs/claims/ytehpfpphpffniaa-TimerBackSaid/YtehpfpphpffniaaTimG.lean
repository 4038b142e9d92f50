/- What the document's own Pop of layer 12 answers; for lists of up to 16384. -/
import Derived.Test.YtehpfpphpffniaaTimF
namespace Go.Proofs.Ytehpfpphpffniaa
set_option linter.unusedVariables false
set_option linter.unusedSimpArgs false
open Go.RowKit
theorem res_scs {P : Program} {fn : Func} {tmps : Array Value} {a b c : Nat} {t : TypeId} {ad : Addr} {v : Value} {w : World} (h : fn.results = #[.tmp a, .cell b t, .tmp c]) (hp : tmps.getD b undef = .pointer (some ad))
    (hl : (loadVar t ad).run P w = .ok v w) : (results fn tmps).run P w = .ok (.tuple #[tmps.getD a undef, v, tmps.getD c undef]) w := by
  unfold results
  rw [h]
  have hp2 : tmps[b]?.getD undef = .pointer (some ad) := by simpa using hp
  simp only [List.mapM_toArray, List.mapM_cons, List.mapM_nil]
  simp [Sem.run_bind, hp2]
  rw [show (Sem.run P (asAddr (Value.pointer (some ad))) w) = Result.ok ad w from rfl]
  simp [hl]
/-- timers, one of them, and what was wrong. -/
def PGot (w : World) (A : Option Addr) (n c : Nat) (r : List Tm × Tm × Int) (e : Ending) (w' : World) : Prop :=
  ∃ B m d, e = .returned (.tuple #[.slice B m d, .agg #[.int .i64 r.2.1.1, .int .i64 r.2.1.2], .int .i64 r.2.2]) ∧ Tms w' B m d r.1 ∧ Below w.heap.size w w' ∧ (w'.ownsRow w.heap.size 24 2 (.slice B m d) m (tmC r.1) ∨ Value.slice B m d = .slice A n c)
set_option maxRecDepth 100000 in
set_option maxHeartbeats 4000000 in
theorem refPop12_any (A : Option Addr) (n c : Nat) (h : List Tm) (w : World) (hx : Tms w A n c h) (hn : n ≤ 16384) :
    Calls Try.prog 12 #[.slice A n c] w (PGot w A n c (popH h)) := by
  have hlen : h.length = n := hx.len
  have RX := Lib.hid hx
  have RT := fun (W : World) (hw : Tms W A n c h) => refRight12_any A n c h W hw hn
  have WO := Lib.hid (fun (i : Nat) (W : World) (hw : Tms W A n c h) (hi : i < n) => refWithout_any A n c i h W hw hn hi)
  obtain ⟨R, hR⟩ : ∃ R, popH h = R := ⟨_, rfl⟩
  rw [hR]
  obtain ⟨v1, hv1⟩ : ∃ W, w.alloc (.cells #[.int .i64 0, .int .i64 0] 24) = W := ⟨_, rfl⟩
  have fr1 : Fr w v1 w.heap.size [.cells #[.int .i64 0, .int .i64 0] 24] := hv1 ▸ Fr.first w _
  have z1 : v1.heap.size = w.heap.size + 1 := by rw [← hv1, Fr.size1]
  generalize hq : w.heap.size = q at *
  have FR := Lib.hid fr1
  clear fr1
  cases hr : rightH h
  · rw [hr] at RT
    replace RT := Lib.hid RT
    have HE := Lib.hid (show R = (h, (0, 0), 1) by rw [← hR]; unfold popH; rw [if_pos hr])
    clear hr hR hlen hx WO
    go_enter Try.func12, Try.ntmps12
    have c00 : v1.cell? ⟨q, 0, none⟩ = some (.int .i64 0) := FR.out.cell 0 0 rfl rfl rfl
    have c01 : v1.cell? ⟨q, 1, none⟩ = some (.int .i64 0) := FR.out.cell 0 1 rfl rfl rfl
    go_wp2_with fail
    refine ((RT.out _ (FR.out.es RX.out))).mono ?_
    rintro e w2 ⟨rfl, hb⟩
    clear c00 c01
    replace FR := Lib.hid (FR.out.step hb)
    clear hb
    have c00 : w2.cell? ⟨q, 0, none⟩ = some (.int .i64 0) := FR.out.cell 0 0 rfl rfl rfl
    have f00 : w2.frozen? ⟨q, 0, none⟩ = false := FR.out.frozen 0 0 rfl rfl
    have c01 : w2.cell? ⟨q, 1, none⟩ = some (.int .i64 0) := FR.out.cell 0 1 rfl rfl rfl
    have f01 : w2.frozen? ⟨q, 1, none⟩ = false := FR.out.frozen 0 1 rfl rfl
    go_wp2
    have FZ : Fr w ((w2.setCell ⟨q, 0, none⟩ (.int .i64 0)).setCell ⟨q, 1, none⟩ (.int .i64 0)) q [.cells #[.int .i64 0, .int .i64 0] 24] := ((FR.out.set 0 0 rfl rfl (.int .i64 0)).set 0 1 rfl rfl (.int .i64 0))
    refine bodyPost_ret (res_scs Try.results12 (by rfl) (FZ.load 0 rfl rfl Try.underlying24 (by kernel_rfl))) rfl ?_
    rw [HE.out]
    exact ⟨_, _, _, rfl, FZ.es RX.out, FZ.out, Or.inr rfl⟩
  · rw [hr] at RT
    replace RT := Lib.hid RT
    by_cases h1 : n = 0
    · have c1 : ((n : Int) == 0) = true := by simpa using h1
      have c1n : (n == 0) = true := by simpa using h1
      have HE := Lib.hid (show R = (h, (0, 0), 7) by rw [← hR]; unfold popH; rw [if_neg (by rw [hr]; simp), if_pos (List.eq_nil_of_length_eq_zero (by omega))])
      clear hr hR hlen hx h1 WO
      go_enter Try.func12, Try.ntmps12
      have c00 : v1.cell? ⟨q, 0, none⟩ = some (.int .i64 0) := FR.out.cell 0 0 rfl rfl rfl
      have c01 : v1.cell? ⟨q, 1, none⟩ = some (.int .i64 0) := FR.out.cell 0 1 rfl rfl rfl
      go_wp2_with fail
      refine ((RT.out _ (FR.out.es RX.out))).mono ?_
      rintro e w2 ⟨rfl, hb⟩
      clear c00 c01
      replace FR := Lib.hid (FR.out.step hb)
      clear hb
      have c00 : w2.cell? ⟨q, 0, none⟩ = some (.int .i64 0) := FR.out.cell 0 0 rfl rfl rfl
      have f00 : w2.frozen? ⟨q, 0, none⟩ = false := FR.out.frozen 0 0 rfl rfl
      have c01 : w2.cell? ⟨q, 1, none⟩ = some (.int .i64 0) := FR.out.cell 0 1 rfl rfl rfl
      have f01 : w2.frozen? ⟨q, 1, none⟩ = false := FR.out.frozen 0 1 rfl rfl
      go_wp2
      have FZ : Fr w ((w2.setCell ⟨q, 0, none⟩ (.int .i64 0)).setCell ⟨q, 1, none⟩ (.int .i64 0)) q [.cells #[.int .i64 0, .int .i64 0] 24] := ((FR.out.set 0 0 rfl rfl (.int .i64 0)).set 0 1 rfl rfl (.int .i64 0))
      refine bodyPost_ret (res_scs Try.results12 (by rfl) (FZ.load 0 rfl rfl Try.underlying24 (by kernel_rfl))) rfl ?_
      rw [HE.out]
      exact ⟨_, _, _, rfl, FZ.es RX.out, FZ.out, Or.inr rfl⟩
    · have c1 : ((n : Int) == 0) = false := by simp; omega
      have c1n : (n == 0) = false := by simp; omega
      have n0 : (0 : Int) < (n : Int) := by omega
      have n0n : 0 < n := by omega
      have hne : h ≠ [] := fun h5 => by rw [h5] at hlen; simp at hlen; omega
      obtain ⟨⟨tw, tk⟩, ht⟩ : ∃ x, tmAt h 0 = x := ⟨_, rfl⟩
      have HE := Lib.hid (show R = (wioT h 0, (tw, tk), 0) by rw [← hR]; unfold popH; rw [if_neg (by rw [hr]; simp), if_neg hne, ht])
      obtain ⟨b, off, rfl, hb0, k0, k1⟩ := hx.look 0 (by omega)
      rw [ht] at k0 k1
      simp only [Nat.zero_mul, Nat.add_zero] at k0 k1
      have HB0 := Lib.hid (show b < q by omega)
      have K0 := Lib.hid k0; have K1 := Lib.hid k1
      have HN := Lib.hid n0n
      clear hr hR hlen hx h1 hne ht hb0 k0 k1
      go_enter Try.func12, Try.ntmps12
      have c00 : v1.cell? ⟨q, 0, none⟩ = some (.int .i64 0) := FR.out.cell 0 0 rfl rfl rfl
      have c01 : v1.cell? ⟨q, 1, none⟩ = some (.int .i64 0) := FR.out.cell 0 1 rfl rfl rfl
      go_wp2_with fail
      refine ((RT.out _ (FR.out.es RX.out))).mono ?_
      rintro e w2 ⟨rfl, hb⟩
      clear c00 c01
      replace FR := Lib.hid (FR.out.step hb)
      clear hb
      go_wp2
      refine wp_region_noPanic ?_
      refine wp_region_held_drew (S := (fun wv => Hid (Below q w2 wv))) (by kernel_rfl) (Lib.hid (Below.refl q w2).drew) (fun hS => ?_)
      refine wpAnyH_take (i := 0) (oi := ⟨some 17, .move (.tmp 0), 22, "ref.go:104", #[], none⟩) (v := ?_) rfl (by kernel_rfl) (by kernel_rfl) (by kernel_rfl) (fun _ _ _ h => h) (Or.inl ⟨by rfl, ?_⟩) hS ?_
      rotate_left
      · intro wv _; go_simp; try with_reducible rfl
      try simp only [Act.put, List.setIfInBounds_toArray, List.set_cons_zero, List.set_cons_succ]
      refine wpAnyH_take (i := 2) (oi := ⟨some 19, .move (.tmp 0), 22, "ref.go:104", #[⟨5, .gcOnly .lateStores⟩], none⟩) (v := ?_) rfl (by kernel_rfl) (by kernel_rfl) (by kernel_rfl) (fun _ _ _ h => h) (Or.inl ⟨by rfl, ?_⟩) hS ?_
      rotate_left
      · intro wv _; go_simp; try with_reducible rfl
      try simp only [Act.put, List.setIfInBounds_toArray, List.set_cons_zero, List.set_cons_succ]
      refine wpAnyH_take (i := 3) (oi := ⟨some 20, .indexAddr 22 (.tmp 19) (.const (Value.int IntKind.i64 0)), 0, "ref.go:104", #[⟨2, .data⟩, ⟨5, .gcOnly .lateStores⟩], none⟩) (v := ?_) rfl (by kernel_rfl) (by kernel_rfl) (by kernel_rfl) (fun _ _ _ h => h) (Or.inl ⟨by rfl, ?_⟩) hS ?_
      rotate_left
      · intro wv _; go_simp; try with_reducible rfl
      try simp only [Act.put, List.setIfInBounds_toArray, List.set_cons_zero, List.set_cons_succ]
      refine wpAnyH_take (i := 4) (oi := ⟨some 21, .load 24 (.tmp 20), 24, "ref.go:104", #[⟨3, .data⟩, ⟨5, .gcOnly .lateStores⟩], none⟩) (v := .agg (([.int .i64 tw, .int .i64 tk] : List Value)).toArray) rfl (by kernel_rfl) (by kernel_rfl) (by kernel_rfl) (fun _ _ _ h => h) (yieldsIf_load_mid (by rfl) _ _ (by rfl) (b) (off) (by rfl) (([.int .i64 tw, .int .i64 tk] : List Value)) _ (fun wv hS => tm_range ((hS.out.cell (p := ⟨b, off, none⟩) HB0.out).trans ((FR.out.bel.cell (p := ⟨b, off, none⟩) HB0.out).trans K0.out)) ((hS.out.cell (p := ⟨b, off + 1, none⟩) HB0.out).trans ((FR.out.bel.cell (p := ⟨b, off + 1, none⟩) HB0.out).trans K1.out))) Try.underlying24 (by rfl) (by kernel_rfl)) hS ?_
      try simp only [Act.put, List.setIfInBounds_toArray, List.set_cons_zero, List.set_cons_succ]
      refine wpAnyH_ready (rs := [1]) (by kernel_rfl) (by simp) (AllReadyH.cons (o := ⟨some 18, .call { callee := .value (.func 32), args := #[.tmp 17, .const (Value.int IntKind.i64 0)], argTypes := #[22, 3] }, 22, "ref.go:104", #[⟨0, .data⟩], none⟩) rfl (fun K hK => ?_) AllReadyH.nil)
      go_simp
      refine (WO.out 0 _ (FR.out.drew.es RX.out) HN.out).mono ?_; rintro e wa ⟨B, m, d, rfl, hown, hbb⟩
      have hsz := FR.out.sz
      simp only [List.length_cons, List.length_nil] at hsz
      replace hS := Lib.hid (hS.out.trans (hbb.mono (show q ≤ w2.heap.size by omega)))
      have OW := Lib.hid (own_base hown (show q + 1 ≤ _ from hsz))
      have FR2 := Lib.hid (show Fr w wa q [.cells #[.int .i64 0, .int .i64 0] 24] from FR.out.drew.step hbb)
      clear hown hbb hsz FR
      have FR := FR2
      clear FR2
      have c00 : wa.cell? ⟨q, 0, none⟩ = some (.int .i64 0) := FR.out.cell 0 0 rfl rfl rfl
      have f00 : wa.frozen? ⟨q, 0, none⟩ = false := FR.out.frozen 0 0 rfl rfl
      have c01 : wa.cell? ⟨q, 1, none⟩ = some (.int .i64 0) := FR.out.cell 0 1 rfl rfl rfl
      have f01 : wa.frozen? ⟨q, 1, none⟩ = false := FR.out.frozen 0 1 rfl rfl
      go_wp2_with fail
      refine Shut.out hK _ _ hS (fun _ => ?_)
      clear hK K
      try simp only [Act.put, List.setIfInBounds_toArray, List.set_cons_zero, List.set_cons_succ]
      refine wpAnyH_take (i := 5) (oi := ⟨some 2, .assign (.tmp 18), 22, "ref.go:104", #[⟨1, .data⟩, ⟨1, .chain⟩, ⟨0, .phase⟩, ⟨1, .phase⟩, ⟨2, .textOnly .lateStores⟩, ⟨3, .textOnly .lateStores⟩, ⟨4, .textOnly .lateStores⟩], none⟩) (v := ?_) rfl (by kernel_rfl) (by kernel_rfl) (by kernel_rfl) (fun _ _ _ h => h) (Or.inl ⟨by rfl, ?_⟩) hS ?_
      rotate_left
      · intro wv _; go_simp; try with_reducible rfl
      try simp only [Act.put, List.setIfInBounds_toArray, List.set_cons_zero, List.set_cons_succ]
      refine wpAnyH_ready (rs := [6]) (by kernel_rfl) (by simp) (AllReadyH.cons (o := ⟨none, .store 24 (.tmp 3) (.tmp 21), 0, "ref.go:104", #[⟨4, .data⟩, ⟨5, .chain⟩, ⟨0, .phase⟩, ⟨1, .phase⟩, ⟨2, .phase⟩, ⟨3, .phase⟩, ⟨4, .phase⟩, ⟨5, .phase⟩], none⟩) rfl (fun K hK => ?_) AllReadyH.nil)
      go_simp
      replace hS := Lib.hid ((hS.out.setCell (by simp) (p := ⟨q, 0, none⟩) (.int .i64 tw)).setCell (by simp) (p := ⟨q, 1, none⟩) (.int .i64 tk))
      refine Shut.out hK _ _ hS (fun _ => ?_)
      clear hK K
      try simp only [Act.put, List.setIfInBounds_toArray, List.set_cons_zero, List.set_cons_succ]
      refine wpAnyH_take (i := 7) (oi := ⟨some 4, .assign (.const (Value.int IntKind.i64 0)), 27, "ref.go:104", #[⟨6, .chain⟩, ⟨0, .phase⟩, ⟨1, .phase⟩, ⟨2, .phase⟩, ⟨3, .phase⟩, ⟨4, .phase⟩, ⟨5, .phase⟩, ⟨6, .phase⟩], none⟩) (v := ?_) rfl (by kernel_rfl) (by kernel_rfl) (by kernel_rfl) (fun _ _ _ h => h) (Or.inl ⟨by rfl, ?_⟩) hS ?_
      rotate_left
      · intro wv _; go_simp; try with_reducible rfl
      try simp only [Act.put, List.setIfInBounds_toArray, List.set_cons_zero, List.set_cons_succ]
      refine wpAnyH_done (by kernel_rfl) ?_ _
      refine NoPanic.normal ?_
      go_wp2
      have FZ : Fr w ((wa.setCell ⟨q, 0, none⟩ (.int .i64 tw)).setCell ⟨q, 1, none⟩ (.int .i64 tk)) q [.cells #[.int .i64 tw, .int .i64 tk] 24] := ((FR.out.set 0 0 rfl rfl (.int .i64 tw)).set 0 1 rfl rfl (.int .i64 tk))
      refine bodyPost_ret (res_scs Try.results12 (by rfl) (FZ.load 0 rfl rfl Try.underlying24 (by kernel_rfl))) rfl ?_
      rw [HE.out]
      have hrs := own_base (own_apart (own_apart (OW.out) (k := q) (o := 0) (u := .int .i64 tw) (by omega)) (k := q) (o := 1) (u := .int .i64 tk) (by omega)) (show w.heap.size ≤ _ from by rw [hq]; omega)
      exact ⟨B, m, d, rfl, tms_own hrs, FZ.out, Or.inl hrs⟩
end Go.Proofs.Ytehpfpphpffniaa
