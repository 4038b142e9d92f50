/- What the document's own laid and Laid of layer 9 answer; for slices of up to 16384 nodes. -/
import Derived.Test.YtfgfohomgomidaaTreC
namespace Go.Proofs.Ytfgfohomgomidaa
set_option linter.unusedVariables false
set_option linter.unusedSimpArgs false
open Go.RowKit

theorem gw_below {w w' : World} {row : Option Nat} (h : Below w.heap.size w w') : w.grownBy w' row := ⟨h.os, h.tape, h.output, h.size, fun k hk _ => h.block k hk⟩
theorem gw_trans {w w' w2 : World} {row : Option Nat} (h : w.grownBy w' row) (g : w'.grownBy w2 row) : w.grownBy w2 row :=
  ⟨g.os.trans h.os, g.tape.trans h.tape, g.output.trans h.output, Nat.le_trans h.size g.size, fun k hk hne => (g.block k (by have := h.size; omega) hne).trans (h.block k hk hne)⟩
theorem gw_set (w : World) (r o : Nat) (v : Value) : w.grownBy (w.setCell ⟨r, o, none⟩ v) (some r) :=
  ⟨rfl, rfl, rfl, by simp [World.setCell], fun k hk hne => Below.heap_setCell _ _ _ _ (fun e => hne (by rw [e]))⟩
theorem gw_drew {w w' : World} {row : Option Nat} (h : w.grownBy w' row) : w.grownBy w'.drew row := ⟨h.os, h.tape, h.output, h.size, h.block⟩
theorem own_some9 {w : World} {base n d k : Nat} {e : TypeId} {B : Option Addr} {cs : List Value} (h : w.ownsRow base e k (.slice B n d) n cs) (hn : 0 < n) : ∃ g, B = some ⟨g, 0, none⟩ := by
  rcases h.2 with ⟨h, h0⟩ | ⟨g, cap, cur, h, _⟩
  · omega
  · injection h with h; exact ⟨g, h⟩
/-- numbers that don't lie in a block. -/
def IsX (w : World) (g : Nat) (C : Option Addr) (m c : Nat) (l : List Int) : Prop := Is w C m c l ∧ ∀ b o, 0 < m → C = some ⟨b, o, none⟩ → b ≠ g
theorem IsX.grown {w w' : World} {g : Nat} {C : Option Addr} {m c : Nat} {l : List Int} (h : IsX w g C m c l) (gr : w.grownBy w' (some g)) : IsX w' g C m c l := by
  have hz : Es w C m c 1 (intC l) := h.1
  refine ⟨⟨hz.len, hz.cap, hz.one, fun hm => ?_⟩, h.2⟩
  obtain ⟨b, off, e, hb, hc⟩ := hz.mem hm
  refine ⟨b, off, e, Nat.lt_of_lt_of_le hb gr.size, fun j u hj => ?_⟩
  have := hc j u hj
  unfold World.cell? at this ⊢
  rw [show w'.heap[b]? = w.heap[b]? from gr.block b hb (fun e2 => by injection e2 with e2; exact h.2 b off (by omega) e e2)]
  exact this
theorem IsX.below {w w' : World} {g : Nat} {C : Option Addr} {m c : Nat} {l : List Int} (h : IsX w g C m c l) (hb : Below w.heap.size w w') : IsX w' g C m c l := ⟨Es.below h.1 hb, h.2⟩
theorem IsX.look {w : World} {g : Nat} {C : Option Addr} {m c : Nat} {l : List Int} (h : IsX w g C m c l) (i : Nat) (hi : i < m) :
    ∃ b off x, C = some ⟨b, off, none⟩ ∧ b < w.heap.size ∧ b ≠ g ∧ w.cell? ⟨b, off + i, none⟩ = some (.int .i64 x) ∧ l.getD i 0 = x ∧ x ∈ l := by
  obtain ⟨b, off, x, e, hb, hc, hd⟩ := h.1.look i hi
  refine ⟨b, off, x, e, hb, h.2 b off (by omega) e, hc, ?_, mem_at hd⟩
  have hl : i < l.length := by have := Is.len h.1; omega
  have h1 := drop_at (xs := l) (i := i) hl
  rw [h1] at hd; injection hd with h2 _; rw [← h2]; simp [List.getD, hl]
theorem isx_take {P : Program} {w : World} {G : Nat} {A : Option Addr} {n c : Nat} {xs : List Int} (h : IsX w G A n c xs) (t : TypeId) (ht : P.underlying t = some (.slice (P.elem t)))
    (hsz : ∀ W : World, (sizeOf (P.elem t)).run P W = .ok 1 W) (g : Int) (m : Nat) (hg : g = (m : Nat)) (hm : m ≤ n) :
    ∃ A2 c2, (∀ W : World, (Instr.slice t (.slice A n c) none (some (.int .i64 g)) none).run P W = .ok (.slice A2 m c2) W) ∧ IsX w G A2 m c2 (xs.take m) := by
  have hcap := Es.cap h.1
  have hlen := Is.len h.1
  refine ⟨if c = 0 then A else A.map (·.add (0 * 1)), c - 0, fun W => ?_, ⟨?_, by omega, intC_one _, fun hm0 => ?_⟩, fun b o h0 e => ?_⟩
  · rw [run_slice_h W t A n c ht .i64 g (by omega) (by omega), hsz]
    have e2 : g.toNat - 0 = m := by omega
    simp only [Result.andThen, sliced, e2]
  · rw [intC_len, List.length_take]; omega
  · obtain ⟨b, off, rfl, hb, hc⟩ := Es.mem h.1 (by omega)
    rw [if_neg (by omega)]
    refine ⟨b, off, by simp [add_plain], hb, fun j u hj => hc j u ?_⟩
    have hjl : j < m := by
      rcases Nat.lt_or_ge j m with h1 | h1
      · exact h1
      · rw [List.getElem?_eq_none (by rw [intC_len, List.length_take]; omega)] at hj; cases hj
    unfold intC at hj ⊢
    rw [List.getElem?_map, List.getElem?_take, if_pos hjl] at hj
    rw [List.getElem?_map]; exact hj
  · obtain ⟨b', off, rfl, hb, hc⟩ := Es.mem h.1 (by omega)
    rw [if_neg (by omega)] at e
    simp [add_plain] at e
    rw [← e.1]; exact h.2 b' off (by omega) rfl
theorem isx_drop {P : Program} {w : World} {G : Nat} {A : Option Addr} {n c : Nat} {xs : List Int} (h : IsX w G A n c xs) (t : TypeId) (ht : P.underlying t = some (.slice (P.elem t)))
    (hsz : ∀ W : World, (sizeOf (P.elem t)).run P W = .ok 1 W) (l : Int) (k : Nat) (hl : l = (k : Nat)) (hk : k ≤ n) :
    ∃ A2 c2, (∀ W : World, (Instr.slice t (.slice A n c) (some (.int .i64 l)) none none).run P W = .ok (.slice A2 (n - k) c2) W) ∧ IsX w G A2 (n - k) c2 (xs.drop k) := by
  have hcap := Es.cap h.1
  have hlen := Is.len h.1
  refine ⟨if c = k then A else A.map (·.add (k * 1)), c - k, fun W => ?_, ⟨?_, by omega, intC_one _, fun hm0 => ?_⟩, fun b o h0 e => ?_⟩
  · rw [run_slice_l W t A n c ht .i64 l (by omega) (by omega), hsz]
    have e1 : l.toNat = k := by omega
    simp only [Result.andThen, sliced, e1]
  · rw [intC_len, List.length_drop]; omega
  · obtain ⟨b, off, rfl, hb, hc⟩ := Es.mem h.1 (by omega)
    rw [if_neg (by omega)]
    refine ⟨b, off + k, by simp [add_plain], hb, fun j u hj => ?_⟩
    rw [Nat.add_assoc]
    refine hc (k + j) u ?_
    unfold intC at hj ⊢
    rw [List.getElem?_map, List.getElem?_drop] at hj
    rw [List.getElem?_map]; exact hj
  · obtain ⟨b', off, rfl, hb, hc⟩ := Es.mem h.1 (by omega)
    rw [if_neg (by omega)] at e
    simp [add_plain] at e
    rw [← e.1]; exact h.2 b' off (by omega) rfl
/-- a tree is laid: the one on top; nothing turns but the nodes' block. -/
def LaidPost9 (w : World) (base : Nat) (B : Option Addr) (n d : Nat) (r : List Nd × Int) (e : Ending) (w' : World) : Prop :=
  e = .returned (.int .i64 r.2) ∧ w'.ownsRow base 52 6 (.slice B n d) n (ndC r.1) ∧ w.grownBy w' (Value.slice B n d).ownBlock
theorem laidT_at {f : Nat} {ns : List Nd} {l : List Int} {b : Nat} {x : Int} {n1 n2 : List Nd} {r1 r2 : Int} (hl : l ≠ []) (hb : bestI ns l l.length = b) (hx : l.getD b 0 = x) (h1 : laidT f ns (l.take b) = (n1, r1)) (h2 : laidT f (setL n1 x r1) (l.drop (b + 1)) = (n2, r2)) :
    laidT (f + 1) ns l = (setR n2 x r2, x) := by
  conv => lhs; unfold laidT
  rw [if_neg hl, hb, hx, h1]
  simp only
  rw [h2]
theorem laid_len : ∀ (f : Nat) (ns : List Nd) (l : List Int), (laidT f ns l).1.length = ns.length
  | 0, _, _ => rfl
  | f + 1, ns, l => by
    by_cases hl : l = []
    · subst hl; rw [laidT_nil]
    · rw [laidT_at (n1 := (laidT f ns (l.take (bestI ns l l.length))).1) (r1 := (laidT f ns (l.take (bestI ns l l.length))).2) hl rfl rfl rfl rfl]
      simp only
      rw [setR_len, laid_len f, setL_len, laid_len f]
set_option maxRecDepth 100000 in
set_option maxHeartbeats 8000000 in
theorem refLaid0_any : ∀ (f : Nat) (B : Option Addr) (n d : Nat) (ns : List Nd) (C : Option Addr) (m c : Nat) (l : List Int) (base : Nat) (w : World), w.ownsRow base 52 6 (.slice B n d) n (ndC ns) → (∀ g, B = some ⟨g, 0, none⟩ → IsX w g C m c l) → Is w C m c l → InN n l → l.length ≤ f → m ≤ 16384 → n ≤ 16384 →
    Calls Try.prog 44 #[.slice B n d, .slice C m c] w (LaidPost9 w base B n d (laidT f ns l)) := by
  intro f
  induction f with
  | zero =>
    intro B n d ns C m c l base w hown hix his hin hlf hm hn
    have hm0 : m = 0 := by have := Is.len his; omega
    subst hm0
    have HO := Lib.hid hown
    clear hown hix his
    go_enter Try.func44, Try.ntmps44
    go_wp2
    go_ret
    exact ⟨rfl, HO.out, gw_below (Below.refl _ _)⟩
  | succ f ih =>
    intro B n d ns C m c l base w hown hix his hin hlf hm hn
    have hml := Is.len his
    by_cases hl : l = []
    · have hm0 : m = 0 := by rw [hl] at hml; simpa using hml.symm
      subst hm0
      have HO := Lib.hid (show w.ownsRow base 52 6 (.slice B n d) n (ndC (laidT (f + 1) ns l).1) by rw [hl, laidT_nil]; exact hown)
      have HR := Lib.hid (show (laidT (f + 1) ns l).2 = -1 by rw [hl, laidT_nil])
      clear hown hix his hl
      go_enter Try.func44, Try.ntmps44
      go_wp2
      go_ret
      exact ⟨by rw [HR.out]; rfl, HO.out, gw_below (Below.refl _ _)⟩
    · have hm0 : 0 < m := by have := List.length_pos_iff.2 hl; omega
      have hn0 : 0 < n := by
        obtain ⟨x, hx⟩ := List.exists_mem_of_ne_nil l hl
        have := hin x hx; omega
      obtain ⟨g, rfl⟩ := own_some9 hown hn0
      have hnl : ns.length = n := by have := hown.1; rw [ndC_len] at this; omega
      have hglt := (hown.lt g (by simp [Value.ownBlock])).2
      have OW := Lib.hid hown
      have IX := Lib.hid (hix g rfl)
      have IH := Lib.hid ih
      have HLNE := Lib.hid hl
      have HIN := Lib.hid hin
      have HML := Lib.hid hml
      have HNL := Lib.hid hnl
      have HLF := Lib.hid hlf
      have b0 : ((m : Int) == 0) = false := by simp; omega
      have b0n : (m == 0) = false := by simp; omega
      clear hown hix his ih hl hin hnl hlf
      obtain ⟨R, hR⟩ : ∃ R, laidT (f + 1) ns l = R := ⟨_, rfl⟩
      have HR := Lib.hid hR
      rw [hR]
      clear hR
      go_enter Try.func44, Try.ntmps44
      go_wp2
      go_loopw [5, 6] (fun bv kv wr => ∃ k b : Nat, bv = .int .i64 (b : Int) ∧ kv = .int .i64 (k : Int) ∧ 1 ≤ k ∧ k ≤ m ∧ b < m ∧ Hid (bestI ns l k = b) ∧ Hid (Below w.heap.size w wr)) (fun _ kv _ => m - (intOf kv).toNat)
      case atStart => exact ⟨1, 0, rfl, rfl, Nat.le_refl _, hm0, hm0, by unfold bestI; split <;> rfl, Below.refl _ _⟩
      case round =>
        obtain ⟨k, b, rfl, rfl, hk1, hkm, hbm, HBI, hb⟩ := hrel
        have OW0 := OW; have IX0 := IX
        replace OW := Lib.hid (own_below OW.out hb.out)
        replace IX := Lib.hid (IX.out.below hb.out)
        by_cases hlt : k < m
        · have b1 : decide ((k : Int) < (m : Int)) = true := by simpa using hlt
          obtain ⟨lb, loff, x, rfl, hlb, hlg, lhc, hgx, hxm⟩ := IX.out.look k hlt
          obtain ⟨lb', loff', y, he, _, _, lhc2, hgy, hym⟩ := IX.out.look b hbm
          injection he with he; injection he with he1 he2; subst he1; subst he2
          have hxb := HIN.out x hxm; have hyb := HIN.out y hym
          obtain ⟨i, rfl⟩ : ∃ i : Nat, x = i := ⟨x.toNat, by omega⟩
          obtain ⟨j, rfl⟩ : ∃ j : Nat, y = j := ⟨y.toNat, by omega⟩
          have i0 : (0 : Int) ≤ (i : Int) := hxb.1
          have i1 : (i : Int) < (n : Int) := hxb.2
          have j0 : (0 : Int) ≤ (j : Int) := hyb.1
          have j1 : (j : Int) < (n : Int) := hyb.2
          obtain ⟨ea0, ea1, ea2, ea3, _, _⟩ := ndC_at ns i (by have := HNL.out; omega)
          have qa := (OW.out.cellAt (i * 6 + 1) (by omega)).trans ea1
          clear ea0 ea1 ea2 ea3
          obtain ⟨eb0, eb1, eb2, eb3, _, _⟩ := ndC_at ns j (by have := HNL.out; omega)
          have qb := (OW.out.cellAt (j * 6 + 1) (by omega)).trans eb1
          clear eb0 eb1 eb2 eb3
          have k0 : (0 : Int) ≤ (k : Int) := by omega
          have k1 : (k : Int) < (m : Int) := by omega
          have l0 : (0 : Int) ≤ (b : Int) := by omega
          have l1 : (b : Int) < (m : Int) := by omega
          by_cases hp : prT ns (i : Int) < prT ns (j : Int)
          · have HB2 := Lib.hid (show bestI ns l (k + 1) = k by unfold bestI; rw [HBI.out, hgx, hgy, if_pos hp])
            have b2 : decide ((ndAt ns (i : Int)).p < (ndAt ns (j : Int)).p) = true := by simpa [prT] using hp
            clear hp hgx hgy hxm hym hxb hyb HBI
            generalize (ndAt ns (i : Int)).p = pi at *
            generalize (ndAt ns (j : Int)).p = pj at *
            go_wp2
            go_quiet (fail)
            go_wp2
            go_roundw
            case rel => exact ⟨k + 1, k, rfl, by go_num, by omega, by omega, by omega, HB2, Lib.hid (bel_drewN hb.out _)⟩
            case measure => simp [intOf]; omega
          · have HB2 := Lib.hid (show bestI ns l (k + 1) = b by unfold bestI; rw [HBI.out, hgx, hgy, if_neg hp])
            have b2 : decide ((ndAt ns (i : Int)).p < (ndAt ns (j : Int)).p) = false := by simpa [prT] using hp
            clear hp hgx hgy hxm hym hxb hyb HBI
            generalize (ndAt ns (i : Int)).p = pi at *
            generalize (ndAt ns (j : Int)).p = pj at *
            go_wp2
            go_quiet (fail)
            go_wp2
            go_roundw
            case rel => exact ⟨k + 1, b, rfl, by go_num, by omega, by omega, by omega, HB2, Lib.hid (bel_drewN hb.out _)⟩
            case measure => simp [intOf]; omega
        · have en : m = k := by omega
          subst en
          have b1 : decide ((m : Int) < (m : Int)) = false := by simp
          obtain ⟨lb, loff, x, rfl, hlb, hlg, lhc, hgx, hxm⟩ := IX.out.look b hbm
          have hxb := HIN.out x hxm
          obtain ⟨i, rfl⟩ : ∃ i : Nat, x = i := ⟨x.toNat, by omega⟩
          have i0 : (0 : Int) ≤ (i : Int) := hxb.1
          have i1 : (i : Int) < (n : Int) := hxb.2
          have l0 : (0 : Int) ≤ (b : Int) := by omega
          have l1 : (b : Int) < (m : Int) := by omega
          have l2 : (b : Int) ≤ (m : Int) := by omega
          obtain ⟨Ch, ch, hsh, hih⟩ := isx_take (P := Try.prog) IX.out 38 unInts szInts (b : Int) b rfl (by omega)
          obtain ⟨Ct, ct, hst, hit⟩ := isx_drop (P := Try.prog) IX.out 38 unInts szInts ((b : Int) + 1) (b + 1) rfl (by omega)
          have hw1 : IntKind.i64.wrap ((b : Int) + 1) = (b : Int) + 1 := by rw [IntKind.wrap_i64]; omega
          have l3 : (0 : Int) ≤ (b : Int) + 1 := by omega
          have l4 : (b : Int) + 1 ≤ (m : Int) := by omega
          obtain ⟨n1, r1, hL1⟩ : ∃ n1 r1, laidT f ns (l.take b) = (n1, r1) := ⟨_, _, rfl⟩
          obtain ⟨n2, r2, hL2⟩ : ∃ n2 r2, laidT f (setL n1 (i : Int) r1) (l.drop (b + 1)) = (n2, r2) := ⟨_, _, rfl⟩
          have HE := Lib.hid (show R = (setR n2 (i : Int) r2, (i : Int)) by rw [← HR.out]; exact laidT_at HLNE.out (by rw [HML.out]; exact HBI.out) hgx hL1 hL2)
          have hn1 : n1.length = n := by
            have h1 := laid_len f ns (l.take b)
            rw [hL1] at h1; exact h1.trans HNL.out
          have hn2 : n2.length = n := by
            have h1 := laid_len f (setL n1 (i : Int) r1) (l.drop (b + 1))
            rw [hL2] at h1; rw [setL_len] at h1; exact h1.trans hn1
          have G1 : Hid (∀ W, W.ownsRow base 52 6 (.slice (some ⟨g, 0, none⟩) n d) n (ndC ns) → IsX W g Ch b ch (l.take b) → Calls Try.prog 44 #[.slice (some ⟨g, 0, none⟩) n d, .slice Ch b ch] W (LaidPost9 W base (some ⟨g, 0, none⟩) n d (n1, r1))) := Lib.hid (fun W h1 h2 => hL1 ▸ IH.out _ n d ns Ch b ch (l.take b) base W h1 (fun g2 e => by injection e with e; injection e with e _; subst e; exact h2) h2.1 (fun y hy => HIN.out y (List.mem_of_mem_take hy)) (by rw [List.length_take]; have := HLF.out; have := HML.out; omega) (by omega) hn)
          have G2 : Hid (∀ W, W.ownsRow base 52 6 (.slice (some ⟨g, 0, none⟩) n d) n (ndC (setL n1 (i : Int) r1)) → IsX W g Ct (m - (b + 1)) ct (l.drop (b + 1)) → Calls Try.prog 44 #[.slice (some ⟨g, 0, none⟩) n d, .slice Ct (m - (b + 1)) ct] W (LaidPost9 W base (some ⟨g, 0, none⟩) n d (n2, r2))) := Lib.hid (fun W h1 h2 => hL2 ▸ IH.out _ n d (setL n1 (i : Int) r1) Ct (m - (b + 1)) ct (l.drop (b + 1)) base W h1 (fun g2 e => by injection e with e; injection e with e _; subst e; exact h2) h2.1 (fun y hy => HIN.out y (List.mem_of_mem_drop hy)) (by rw [List.length_drop]; have := HLF.out; have := HML.out; omega) (by omega) hn)
          have X1 := Lib.hid hih; have X2 := Lib.hid hit
          have GW := Lib.hid (gw_below (row := some g) hb.out)
          have HN1 := Lib.hid hn1; have HN2 := Lib.hid hn2
          clear hih hit hL1 hL2 hn1 hn2 hgx hxm hxb HBI hb IH OW0 IX0
          go_wp2
          refine wp_region_noPanic ?_
          refine wp_region_held_drew (S := (fun wv => Hid (wv.cell? ⟨lb, loff + b, none⟩ = some (.int .i64 (i : Int))))) (by kernel_rfl) (Lib.hid lhc) (fun hS => ?_)
          refine wpAnyH_take (i := 0) (oi := ⟨some 34, .move (.tmp 0), 22, "ref.go:76", #[], none⟩) (v := ?_) rfl (by kernel_rfl) (by kernel_rfl) (by kernel_rfl) (fun _ _ _ h => h) (Or.inl ⟨by rfl, ?_⟩) hS ?_
          rotate_left
          · intro wv _; go_simp; try with_reducible rfl
          try simp only [Act.put, List.setIfInBounds_toArray, List.set_cons_zero, List.set_cons_succ]
          refine wpAnyH_take (i := 1) (oi := ⟨some 35, .move (.tmp 1), 38, "ref.go:76", #[], none⟩) (v := ?_) rfl (by kernel_rfl) (by kernel_rfl) (by kernel_rfl) (fun _ _ _ h => h) (Or.inl ⟨by rfl, ?_⟩) hS ?_
          rotate_left
          · intro wv _; go_simp; try with_reducible rfl
          try simp only [Act.put, List.setIfInBounds_toArray, List.set_cons_zero, List.set_cons_succ]
          refine wpAnyH_take (i := 2) (oi := ⟨some 36, .move (.tmp 5), 3, "ref.go:76", #[], none⟩) (v := ?_) rfl (by kernel_rfl) (by kernel_rfl) (by kernel_rfl) (fun _ _ _ h => h) (Or.inl ⟨by rfl, ?_⟩) hS ?_
          rotate_left
          · intro wv _; go_simp; try with_reducible rfl
          try simp only [Act.put, List.setIfInBounds_toArray, List.set_cons_zero, List.set_cons_succ]
          refine wpAnyH_take (i := 3) (oi := ⟨some 37, .indexAddr 38 (.tmp 35) (.tmp 36), 0, "ref.go:76", #[⟨1, .data⟩, ⟨2, .data⟩], none⟩) (v := ?_) rfl (by kernel_rfl) (by kernel_rfl) (by kernel_rfl) (fun _ _ _ h => h) (Or.inl ⟨by rfl, ?_⟩) hS ?_
          rotate_left
          · intro wv _; go_simp; try with_reducible rfl
          try simp only [Act.put, List.setIfInBounds_toArray, List.set_cons_zero, List.set_cons_succ]
          refine wpAnyH_take (i := 4) (oi := ⟨some 38, .load 3 (.tmp 37), 3, "ref.go:76", #[⟨3, .data⟩], none⟩) (v := ?_) rfl (by kernel_rfl) (by kernel_rfl) (by kernel_rfl) (fun _ _ _ h => h) (Or.inl ⟨by rfl, ?_⟩) hS ?_
          rotate_left
          · intro wv hS; have hrun := hS.out; go_simp; try with_reducible rfl
          try simp only [Act.put, List.setIfInBounds_toArray, List.set_cons_zero, List.set_cons_succ]
          refine wpAnyH_take (i := 5) (oi := ⟨some 39, .move (.tmp 0), 22, "ref.go:76", #[], none⟩) (v := ?_) rfl (by kernel_rfl) (by kernel_rfl) (by kernel_rfl) (fun _ _ _ h => h) (Or.inl ⟨by rfl, ?_⟩) hS ?_
          rotate_left
          · intro wv _; go_simp; try with_reducible rfl
          try simp only [Act.put, List.setIfInBounds_toArray, List.set_cons_zero, List.set_cons_succ]
          refine wpAnyH_take (i := 6) (oi := ⟨some 40, .move (.tmp 1), 38, "ref.go:76", #[], none⟩) (v := ?_) rfl (by kernel_rfl) (by kernel_rfl) (by kernel_rfl) (fun _ _ _ h => h) (Or.inl ⟨by rfl, ?_⟩) hS ?_
          rotate_left
          · intro wv _; go_simp; try with_reducible rfl
          try simp only [Act.put, List.setIfInBounds_toArray, List.set_cons_zero, List.set_cons_succ]
          refine wpAnyH_take (i := 7) (oi := ⟨some 41, .move (.tmp 5), 3, "ref.go:76", #[], none⟩) (v := ?_) rfl (by kernel_rfl) (by kernel_rfl) (by kernel_rfl) (fun _ _ _ h => h) (Or.inl ⟨by rfl, ?_⟩) hS ?_
          rotate_left
          · intro wv _; go_simp; try with_reducible rfl
          try simp only [Act.put, List.setIfInBounds_toArray, List.set_cons_zero, List.set_cons_succ]
          refine wpAnyH_take (i := 8) (oi := ⟨some 42, .slice 38 (.tmp 40) none (some (.tmp 41)) none, 38, "ref.go:76", #[⟨6, .data⟩, ⟨7, .data⟩], none⟩) (v := ?_) rfl (by kernel_rfl) (by kernel_rfl) (by kernel_rfl) (fun _ _ _ h => h) (Or.inl ⟨by rfl, ?_⟩) hS ?_
          rotate_left
          · intro wv _; go_simp; try with_reducible rfl
          try simp only [Act.put, List.setIfInBounds_toArray, List.set_cons_zero, List.set_cons_succ]
          refine wpAnyH_ready (rs := [9]) (by kernel_rfl) (by simp) (AllReadyH.cons (o := ⟨some 43, .call { callee := .value (.func 44), args := #[.tmp 39, .tmp 42], argTypes := #[22, 38] }, 3, "ref.go:76", #[⟨5, .data⟩, ⟨8, .data⟩], none⟩) rfl (fun K hK => ?_) AllReadyH.nil)
          go_simp
          refine (G1.out _ (own_below OW.out (Below.refl _ wr).drew) (X1.out.below (Below.refl _ wr).drew)).mono ?_
          rintro e wa1 ⟨rfl, hown, hgr⟩
          have hgr2 : World.grownBy wr wa1 (some g) := gw_trans (gw_drew (gw_below (Below.refl _ wr))) hgr
          replace IX := Lib.hid (IX.out.grown hgr2)
          replace X2 := Lib.hid (X2.out.grown hgr2)
          replace GW := Lib.hid (gw_trans GW.out hgr2)
          replace OW := Lib.hid hown
          clear hown hgr
          have hlb1 : lb < wa1.heap.size := Nat.lt_of_lt_of_le hlb hgr2.size
          have lhc1 : wa1.cell? ⟨lb, loff + b, none⟩ = some (.int .i64 (i : Int)) := (World.cell?_of_block (a := ⟨lb, loff + b, none⟩) (hgr2.block lb hlb (fun e => by injection e with e; exact hlg e))).trans lhc
          clear hgr2
          replace hS := Lib.hid lhc1
          obtain ⟨e0, e1, e2, e3, _, _⟩ := ndC_at n1 i (by have := HN1.out; omega)
          have qs := (OW.out.cellAt (i * 6 + 2) (by omega)).trans e2
          have fs := OW.out.frozenAt (i * 6 + 2)
          clear e0 e1 e2 e3
          go_wp2_with fail
          refine Shut.out hK _ _ hS (fun _ => ?_)
          clear hK K
          try simp only [Act.put, List.setIfInBounds_toArray, List.set_cons_zero, List.set_cons_succ]
          refine wpAnyH_take (i := 10) (oi := ⟨some 44, .indexAddr 22 (.tmp 34) (.tmp 38), 0, "ref.go:76", #[⟨0, .data⟩, ⟨4, .data⟩, ⟨0, .phase⟩, ⟨1, .phase⟩, ⟨2, .phase⟩, ⟨3, .phase⟩, ⟨4, .phase⟩, ⟨5, .phase⟩, ⟨6, .phase⟩, ⟨7, .phase⟩, ⟨8, .phase⟩, ⟨9, .phase⟩], none⟩) (v := ?_) rfl (by kernel_rfl) (by kernel_rfl) (by kernel_rfl) (fun _ _ _ h => h) (Or.inl ⟨by rfl, ?_⟩) hS ?_
          rotate_left
          · intro wv _; go_simp; try with_reducible rfl
          try simp only [Act.put, List.setIfInBounds_toArray, List.set_cons_zero, List.set_cons_succ]
          refine wpAnyH_take (i := 11) (oi := ⟨some 45, .fieldAddr 52 (.tmp 44) 2, 0, "ref.go:76", #[⟨10, .data⟩, ⟨0, .phase⟩, ⟨1, .phase⟩, ⟨2, .phase⟩, ⟨3, .phase⟩, ⟨4, .phase⟩, ⟨5, .phase⟩, ⟨6, .phase⟩, ⟨7, .phase⟩, ⟨8, .phase⟩, ⟨9, .phase⟩], none⟩) (v := ?_) rfl (by kernel_rfl) (by kernel_rfl) (by kernel_rfl) (fun _ _ _ h => h) (Or.inl ⟨by rfl, ?_⟩) hS ?_
          rotate_left
          · intro wv _; go_simp; try with_reducible rfl
          try simp only [Act.put, List.setIfInBounds_toArray, List.set_cons_zero, List.set_cons_succ]
          refine wpAnyH_ready (rs := [12]) (by kernel_rfl) (by simp) (AllReadyH.cons (o := ⟨none, .store 3 (.tmp 45) (.tmp 43), 0, "ref.go:76", #[⟨11, .data⟩, ⟨9, .data⟩, ⟨9, .chain⟩, ⟨0, .phase⟩, ⟨1, .phase⟩, ⟨2, .phase⟩, ⟨3, .phase⟩, ⟨4, .phase⟩, ⟨5, .phase⟩, ⟨6, .phase⟩, ⟨7, .phase⟩, ⟨8, .phase⟩, ⟨9, .phase⟩], none⟩) rfl (fun K hK => ?_) AllReadyH.nil)
          go_simp
          replace hS := Lib.hid ((World.cell?_of_block (a := ⟨lb, loff + b, none⟩) (Below.heap_setCell _ ⟨g, i * 6 + 2, none⟩ (.int .i64 r1) lb hlg)).trans lhc1)
          refine Shut.out hK _ _ hS (fun _ => ?_)
          clear hK K
          try simp only [Act.put, List.setIfInBounds_toArray, List.set_cons_zero, List.set_cons_succ]
          refine wpAnyH_done (by kernel_rfl) ?_ _
          refine NoPanic.normal ?_
          clear qs fs
          have own7 := (OW.out.stored (i * 6 + 2) (.int .i64 r1)).1
          rw [← ndC_l n1 i r1 (by have := HN1.out; omega)] at own7
          have gs := gw_set wa1 g (i * 6 + 2) (.int .i64 r1)
          replace IX := Lib.hid (IX.out.grown gs)
          replace X2 := Lib.hid (X2.out.grown gs)
          replace GW := Lib.hid (gw_trans GW.out gs)
          replace OW := Lib.hid own7
          have hlbz1 := Nat.lt_of_lt_of_le hlb1 gs.size
          have lhcz := hS.out
          clear own7 gs hS
          generalize (wa1.setCell ⟨g, i * 6 + 2, none⟩ (.int .i64 r1)) = wb1 at *
          replace lhc := lhcz
          replace hlb := hlbz1
          clear lhcz lhc1 hlb1 hlbz1
          go_wp2
          refine wp_region_noPanic ?_
          refine wp_region_held_drew (S := (fun wv => Hid (wv.cell? ⟨lb, loff + b, none⟩ = some (.int .i64 (i : Int))))) (by kernel_rfl) (Lib.hid lhc) (fun hS => ?_)
          refine wpAnyH_take (i := 0) (oi := ⟨some 46, .move (.tmp 0), 22, "ref.go:77", #[], none⟩) (v := ?_) rfl (by kernel_rfl) (by kernel_rfl) (by kernel_rfl) (fun _ _ _ h => h) (Or.inl ⟨by rfl, ?_⟩) hS ?_
          rotate_left
          · intro wv _; go_simp; try with_reducible rfl
          try simp only [Act.put, List.setIfInBounds_toArray, List.set_cons_zero, List.set_cons_succ]
          refine wpAnyH_take (i := 1) (oi := ⟨some 47, .move (.tmp 1), 38, "ref.go:77", #[], none⟩) (v := ?_) rfl (by kernel_rfl) (by kernel_rfl) (by kernel_rfl) (fun _ _ _ h => h) (Or.inl ⟨by rfl, ?_⟩) hS ?_
          rotate_left
          · intro wv _; go_simp; try with_reducible rfl
          try simp only [Act.put, List.setIfInBounds_toArray, List.set_cons_zero, List.set_cons_succ]
          refine wpAnyH_take (i := 2) (oi := ⟨some 48, .move (.tmp 5), 3, "ref.go:77", #[], none⟩) (v := ?_) rfl (by kernel_rfl) (by kernel_rfl) (by kernel_rfl) (fun _ _ _ h => h) (Or.inl ⟨by rfl, ?_⟩) hS ?_
          rotate_left
          · intro wv _; go_simp; try with_reducible rfl
          try simp only [Act.put, List.setIfInBounds_toArray, List.set_cons_zero, List.set_cons_succ]
          refine wpAnyH_take (i := 3) (oi := ⟨some 49, .indexAddr 38 (.tmp 47) (.tmp 48), 0, "ref.go:77", #[⟨1, .data⟩, ⟨2, .data⟩], none⟩) (v := ?_) rfl (by kernel_rfl) (by kernel_rfl) (by kernel_rfl) (fun _ _ _ h => h) (Or.inl ⟨by rfl, ?_⟩) hS ?_
          rotate_left
          · intro wv _; go_simp; try with_reducible rfl
          try simp only [Act.put, List.setIfInBounds_toArray, List.set_cons_zero, List.set_cons_succ]
          refine wpAnyH_take (i := 4) (oi := ⟨some 50, .load 3 (.tmp 49), 3, "ref.go:77", #[⟨3, .data⟩], none⟩) (v := ?_) rfl (by kernel_rfl) (by kernel_rfl) (by kernel_rfl) (fun _ _ _ h => h) (Or.inl ⟨by rfl, ?_⟩) hS ?_
          rotate_left
          · intro wv hS; have hrun := hS.out; go_simp; try with_reducible rfl
          try simp only [Act.put, List.setIfInBounds_toArray, List.set_cons_zero, List.set_cons_succ]
          refine wpAnyH_take (i := 5) (oi := ⟨some 51, .move (.tmp 0), 22, "ref.go:77", #[], none⟩) (v := ?_) rfl (by kernel_rfl) (by kernel_rfl) (by kernel_rfl) (fun _ _ _ h => h) (Or.inl ⟨by rfl, ?_⟩) hS ?_
          rotate_left
          · intro wv _; go_simp; try with_reducible rfl
          try simp only [Act.put, List.setIfInBounds_toArray, List.set_cons_zero, List.set_cons_succ]
          refine wpAnyH_take (i := 6) (oi := ⟨some 52, .move (.tmp 1), 38, "ref.go:77", #[], none⟩) (v := ?_) rfl (by kernel_rfl) (by kernel_rfl) (by kernel_rfl) (fun _ _ _ h => h) (Or.inl ⟨by rfl, ?_⟩) hS ?_
          rotate_left
          · intro wv _; go_simp; try with_reducible rfl
          try simp only [Act.put, List.setIfInBounds_toArray, List.set_cons_zero, List.set_cons_succ]
          refine wpAnyH_take (i := 7) (oi := ⟨some 53, .move (.tmp 5), 3, "ref.go:77", #[], none⟩) (v := ?_) rfl (by kernel_rfl) (by kernel_rfl) (by kernel_rfl) (fun _ _ _ h => h) (Or.inl ⟨by rfl, ?_⟩) hS ?_
          rotate_left
          · intro wv _; go_simp; try with_reducible rfl
          try simp only [Act.put, List.setIfInBounds_toArray, List.set_cons_zero, List.set_cons_succ]
          refine wpAnyH_take (i := 8) (oi := ⟨some 54, .binOp .add 3 (.tmp 53) (.const (Value.int IntKind.i64 1)) 3, 3, "ref.go:77", #[⟨7, .data⟩], none⟩) (v := ?_) rfl (by kernel_rfl) (by kernel_rfl) (by kernel_rfl) (fun _ _ _ h => h) (Or.inl ⟨by rfl, ?_⟩) hS ?_
          rotate_left
          · intro wv _; go_simp; try with_reducible rfl
          try simp only [Act.put, List.setIfInBounds_toArray, List.set_cons_zero, List.set_cons_succ]
          refine wpAnyH_take (i := 9) (oi := ⟨some 55, .slice 38 (.tmp 52) (some (.tmp 54)) none none, 38, "ref.go:77", #[⟨6, .data⟩, ⟨8, .data⟩], none⟩) (v := ?_) rfl (by kernel_rfl) (by kernel_rfl) (by kernel_rfl) (fun _ _ _ h => h) (Or.inl ⟨by rfl, ?_⟩) hS ?_
          rotate_left
          · intro wv _; go_simp; try with_reducible rfl
          try simp only [Act.put, List.setIfInBounds_toArray, List.set_cons_zero, List.set_cons_succ]
          refine wpAnyH_ready (rs := [10]) (by kernel_rfl) (by simp) (AllReadyH.cons (o := ⟨some 56, .call { callee := .value (.func 44), args := #[.tmp 51, .tmp 55], argTypes := #[22, 38] }, 3, "ref.go:77", #[⟨5, .data⟩, ⟨9, .data⟩], none⟩) rfl (fun K hK => ?_) AllReadyH.nil)
          go_simp
          refine (G2.out _ (own_below OW.out (Below.refl _ wb1).drew) (X2.out.below (Below.refl _ wb1).drew)).mono ?_
          rintro e wa2 ⟨rfl, hown, hgr⟩
          have hgr2 : World.grownBy wb1 wa2 (some g) := gw_trans (gw_drew (gw_below (Below.refl _ wb1))) hgr
          replace IX := Lib.hid (IX.out.grown hgr2)
          replace GW := Lib.hid (gw_trans GW.out hgr2)
          replace OW := Lib.hid hown
          clear hown hgr
          have hlb2 : lb < wa2.heap.size := Nat.lt_of_lt_of_le hlb hgr2.size
          have lhc2 : wa2.cell? ⟨lb, loff + b, none⟩ = some (.int .i64 (i : Int)) := (World.cell?_of_block (a := ⟨lb, loff + b, none⟩) (hgr2.block lb hlb (fun e => by injection e with e; exact hlg e))).trans lhc
          clear hgr2
          replace hS := Lib.hid lhc2
          obtain ⟨e0, e1, e2, e3, _, _⟩ := ndC_at n2 i (by have := HN2.out; omega)
          have qs := (OW.out.cellAt (i * 6 + 3) (by omega)).trans e3
          have fs := OW.out.frozenAt (i * 6 + 3)
          clear e0 e1 e2 e3
          go_wp2_with fail
          refine Shut.out hK _ _ hS (fun _ => ?_)
          clear hK K
          try simp only [Act.put, List.setIfInBounds_toArray, List.set_cons_zero, List.set_cons_succ]
          refine wpAnyH_take (i := 11) (oi := ⟨some 57, .indexAddr 22 (.tmp 46) (.tmp 50), 0, "ref.go:77", #[⟨0, .data⟩, ⟨4, .data⟩, ⟨0, .phase⟩, ⟨1, .phase⟩, ⟨2, .phase⟩, ⟨3, .phase⟩, ⟨4, .phase⟩, ⟨5, .phase⟩, ⟨6, .phase⟩, ⟨7, .phase⟩, ⟨8, .phase⟩, ⟨9, .phase⟩, ⟨10, .phase⟩], none⟩) (v := ?_) rfl (by kernel_rfl) (by kernel_rfl) (by kernel_rfl) (fun _ _ _ h => h) (Or.inl ⟨by rfl, ?_⟩) hS ?_
          rotate_left
          · intro wv _; go_simp; try with_reducible rfl
          try simp only [Act.put, List.setIfInBounds_toArray, List.set_cons_zero, List.set_cons_succ]
          refine wpAnyH_take (i := 12) (oi := ⟨some 58, .fieldAddr 52 (.tmp 57) 3, 0, "ref.go:77", #[⟨11, .data⟩, ⟨0, .phase⟩, ⟨1, .phase⟩, ⟨2, .phase⟩, ⟨3, .phase⟩, ⟨4, .phase⟩, ⟨5, .phase⟩, ⟨6, .phase⟩, ⟨7, .phase⟩, ⟨8, .phase⟩, ⟨9, .phase⟩, ⟨10, .phase⟩], none⟩) (v := ?_) rfl (by kernel_rfl) (by kernel_rfl) (by kernel_rfl) (fun _ _ _ h => h) (Or.inl ⟨by rfl, ?_⟩) hS ?_
          rotate_left
          · intro wv _; go_simp; try with_reducible rfl
          try simp only [Act.put, List.setIfInBounds_toArray, List.set_cons_zero, List.set_cons_succ]
          refine wpAnyH_ready (rs := [13]) (by kernel_rfl) (by simp) (AllReadyH.cons (o := ⟨none, .store 3 (.tmp 58) (.tmp 56), 0, "ref.go:77", #[⟨12, .data⟩, ⟨10, .data⟩, ⟨10, .chain⟩, ⟨0, .phase⟩, ⟨1, .phase⟩, ⟨2, .phase⟩, ⟨3, .phase⟩, ⟨4, .phase⟩, ⟨5, .phase⟩, ⟨6, .phase⟩, ⟨7, .phase⟩, ⟨8, .phase⟩, ⟨9, .phase⟩, ⟨10, .phase⟩], none⟩) rfl (fun K hK => ?_) AllReadyH.nil)
          go_simp
          replace hS := Lib.hid ((World.cell?_of_block (a := ⟨lb, loff + b, none⟩) (Below.heap_setCell _ ⟨g, i * 6 + 3, none⟩ (.int .i64 r2) lb hlg)).trans lhc2)
          refine Shut.out hK _ _ hS (fun _ => ?_)
          clear hK K
          try simp only [Act.put, List.setIfInBounds_toArray, List.set_cons_zero, List.set_cons_succ]
          refine wpAnyH_done (by kernel_rfl) ?_ _
          refine NoPanic.normal ?_
          clear qs fs
          have own7 := (OW.out.stored (i * 6 + 3) (.int .i64 r2)).1
          rw [← ndC_r n2 i r2 (by have := HN2.out; omega)] at own7
          have gs := gw_set wa2 g (i * 6 + 3) (.int .i64 r2)
          replace IX := Lib.hid (IX.out.grown gs)
          replace GW := Lib.hid (gw_trans GW.out gs)
          replace OW := Lib.hid own7
          have hlbz2 := Nat.lt_of_lt_of_le hlb2 gs.size
          have lhcz := hS.out
          clear own7 gs hS
          generalize (wa2.setCell ⟨g, i * 6 + 3, none⟩ (.int .i64 r2)) = wb2 at *
          replace lhc := lhcz
          replace hlb := hlbz2
          clear lhcz lhc2 hlb2 hlbz2
          go_wp2
          go_ret
          rw [HE.out]
          exact ⟨rfl, OW.out, GW.out⟩
end Go.Proofs.Ytfgfohomgomidaa
