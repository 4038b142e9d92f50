/- What the landed treap's own walk of a tree, and Right, of layer 9 answer; for slices of up to 16384 nodes. -/
import Derived.Test.YtfgfohomgomidaaTreKB
import Derived.Deep.Cut
import Derived.Deep.CutRange
namespace Go.Proofs.Ytfgfohomgomidaa
set_option linter.unusedVariables false
set_option linter.unusedSimpArgs false
open Go.RowKit
/-- nothing below a block is turned, and nothing but rows of numbers. -/
structure Kp (base : Nat) (w w' : World) : Prop where
  bel : Below base w w'
  blk : ∀ (k : Nat) (cs : Array Value) (T : TypeId) (fr : Nat × Nat), w.heap[k]? = some (.cells cs T fr) → T ≠ 3 → w'.heap[k]? = some (.cells cs T fr)
section
variable {base : Nat} {w w' w2 : World}
theorem Kp.refl (base : Nat) (w : World) : Kp base w w := ⟨Below.refl _ _, fun _ _ _ _ h _ => h⟩
theorem Kp.trans (h : Kp base w w') (g : Kp base w' w2) : Kp base w w2 := ⟨h.bel.trans g.bel, fun k cs T fr hk hT => g.blk k cs T fr (h.blk k cs T fr hk hT) hT⟩
theorem Kp.below (h : Below w.heap.size w w') (hb : base ≤ w.heap.size) : Kp base w w' := ⟨h.mono hb, fun k cs T fr hk _ => by rw [h.block k (blk_lt hk)]; exact hk⟩
theorem Kp.drew (h : Kp base w w') : Kp base w w'.drew := ⟨h.bel.drew, h.blk⟩
theorem Kp.alloc (h : Kp base w w') (hb : base ≤ w'.heap.size) (o : Obj) : Kp base w (w'.alloc o) := h.trans (Kp.below ((Below.refl _ _).alloc (Nat.le_refl _) o) hb)
theorem Kp.grown (h : Kp base w w') {v : Value} {n : Nat} {xs : List Value} (ho : w'.ownsRow base 3 1 v n xs) (g : w'.grownBy w2 v.ownBlock) (hb : base ≤ w'.heap.size) : Kp base w w2 :=
  h.trans ⟨(Below.refl _ _).grown g hb (fun k hk => (ho.lt k hk).1), fun k cs T fr hk hT => keep_grown hk g (row_int ho) hT⟩
end
/-- what a walk of a tree tells. -/
def BehPost (w0 w : World) (ns : List Nd) (out : List Int) (i : Int) (e : Ending) (w' : World) : Prop :=
  ∃ r C m d bb, BehOk ns out i r ∧ r.isSome = bb ∧ e = .returned (.tuple #[.slice C m d, .bool bb]) ∧ w'.ownsRow w0.heap.size 3 1 (.slice C m d) m (intC (r.getD [])) ∧ Kp w0.heap.size w w'
theorem some_of {α : Type} {r : Option α} (h : r.isSome = true) : ∃ x, r = some x := Option.isSome_iff_exists.1 h
theorem none_of {α : Type} {r : Option α} (h : r.isSome = false) : r = none := by cases r; rfl; cases h
set_option maxRecDepth 100000 in
set_option maxHeartbeats 8000000 in
theorem tpBehind_nil (A : Option Addr) (n c : Nat) (ns : List Nd) (rt fr : Int) (w0 : World) (hx : Ns w0 A n c ns) (hn : n ≤ 16384) (C : Option Addr) (m d : Nat) (out : List Int) (i : Int) (w : World) (hb : Below w0.heap.size w0 w) (ho : w.ownsRow w0.heap.size 3 1 (.slice C m d) m (intC out)) (hr : RP ns out) (hi : i = -1) :
    Calls Try.prog 49 #[.agg #[.slice A n c, .int .i64 rt, .int .i64 fr], .slice C m d, .int .i64 i] w (BehPost w0 w ns out i) := by
  have OW := Lib.hid ho; have HB := Lib.hid hb
  have HE := Lib.hid (beh_nil hi hr)
  have b0 : (i == -1) = true := by simp [hi]
  clear hx hb ho hr hi
  obtain ⟨v1, hv1⟩ : ∃ W, w.alloc (.cells #[.slice A n c, .int .i64 rt, .int .i64 fr] 54) = W := ⟨_, rfl⟩
  have fr1 : Fr w v1 w.heap.size [.cells #[.slice A n c, .int .i64 rt, .int .i64 fr] 54] := hv1 ▸ Fr.first w _
  have z1 : v1.heap.size = w.heap.size + 1 := by rw [← hv1, Fr.size1]
  generalize hq : w.heap.size = q at *
  have FR := Lib.hid fr1
  clear fr1
  have OW1 := Lib.hid (own_below OW.out (show Below w.heap.size w v1 from by rw [hq]; exact FR.out.bel))
  clear OW
  have c00 : v1.cell? ⟨q, 0, none⟩ = some (.slice A n c) := FR.out.cell 0 0 rfl rfl rfl
  have f00 : v1.frozen? ⟨q, 0, none⟩ = false := FR.out.frozen 0 0 rfl rfl
  have c01 : v1.cell? ⟨q, 1, none⟩ = some (.int .i64 rt) := FR.out.cell 0 1 rfl rfl rfl
  have f01 : v1.frozen? ⟨q, 1, none⟩ = false := FR.out.frozen 0 1 rfl rfl
  have c02 : v1.cell? ⟨q, 2, none⟩ = some (.int .i64 fr) := FR.out.cell 0 2 rfl rfl rfl
  have f02 : v1.frozen? ⟨q, 2, none⟩ = false := FR.out.frozen 0 2 rfl rfl
  go_enter Try.func49, Try.ntmps49
  go_wp2
  go_ret2
  exact ⟨some out, C, m, d, true, HE.out, rfl, rfl, OW1.out, Kp.below (show Below w.heap.size w v1 from by rw [hq]; exact FR.out.bel) HB.out.size⟩
set_option maxRecDepth 100000 in
set_option maxHeartbeats 16000000 in
theorem tpBehind_any (A : Option Addr) (n c : Nat) (ns : List Nd) (rt fr : Int) (w0 : World) (hx : Ns w0 A n c ns) (hn : n ≤ 16384) : ∀ (f : Nat) (C : Option Addr) (m d : Nat) (out : List Int) (i : Int) (w : World), Below w0.heap.size w0 w → w.ownsRow w0.heap.size 3 1 (.slice C m d) m (intC out) → RP ns out → (i = -1 ∨ (0 ≤ i ∧ i < (n : Int) ∧ rankN ns (ndAt ns i) < f)) →
    Calls Try.prog 49 #[.agg #[.slice A n c, .int .i64 rt, .int .i64 fr], .slice C m d, .int .i64 i] w (BehPost w0 w ns out i) := by
  intro f
  induction f with
  | zero =>
    intro C m d out i w hb ho hr hi
    exact tpBehind_nil A n c ns rt fr w0 hx hn C m d out i w hb ho hr (by omega)
  | succ f ih =>
    intro C m d out i w hb ho hr hi
    by_cases h1 : i = -1
    · exact tpBehind_nil A n c ns rt fr w0 hx hn C m d out i w hb ho hr h1
    obtain ⟨i0, i1, hrk⟩ : 0 ≤ i ∧ i < (n : Int) ∧ rankN ns (ndAt ns i) < f + 1 := by omega
    obtain ⟨i, rfl⟩ : ∃ k : Nat, i = k := ⟨i.toNat, by omega⟩
    have hlen := hx.len
    have hml : out.length = m := by have h := ho.1; rw [intC_len] at h; omega
    have hmn : m ≤ n := by have := hr.len; omega
    have HB := Lib.hid hb; have OW := Lib.hid ho; have HR := Lib.hid hr; have IH := Lib.hid ih; have NX0 := Lib.hid hx
    have NX := Lib.hid (show Ns w A n c ns from Es.below hx hb)
    have LD := Lib.hid (fun (W : World) (h : Ns W A n c ns) (x : Nd) (j : Int) => tpLead_any A n c ns rt fr x j W h hn)
    have H1 := Lib.hid (fun h => beh_lead (ns := ns) (out := out) h1 h)
    have H2 := Lib.hid (fun h => beh_left (ns := ns) (out := out) h1 h)
    have H3 := Lib.hid (fun o1 h g => beh_key (ns := ns) (out := out) (o1 := o1) h1 h g)
    have H4 := Lib.hid (fun hl hr o1 h g => beh_right (ns := ns) (out := out) (o1 := o1) i0 (by rw [hlen]; exact i1) hl hr h g)
    have H5 : Hid (∀ j, leadN ns (ndAt ns (i : Int)) j = true → j = -1 ∨ (0 ≤ j ∧ j < (n : Int) ∧ rankN ns (ndAt ns j) < f)) := Lib.hid (fun j h => by
      rcases leadN_iff.1 h with h | ⟨g0, g1, g2⟩
      · exact Or.inl h
      · have := rank_lt g2 (ndAt_mem g0 g1)
        exact Or.inr ⟨g0, by omega, by omega⟩)
    have b0 : ((i : Int) == -1) = false := by simp
    clear hi hrk h1 hb ho hr ih hlen
    obtain ⟨v1, hv1⟩ : ∃ W, w.alloc (.cells #[.slice A n c, .int .i64 rt, .int .i64 fr] 54) = W := ⟨_, rfl⟩
    have fr1 : Fr w v1 w.heap.size [.cells #[.slice A n c, .int .i64 rt, .int .i64 fr] 54] := hv1 ▸ Fr.first w _
    have z1 : v1.heap.size = w.heap.size + 1 := by rw [← hv1, Fr.size1]
    generalize hq : w.heap.size = q at *
    have FR := Lib.hid fr1
    clear fr1
    replace NX := Lib.hid (FR.out.es NX.out)
    have KP := Lib.hid (Kp.below (base := w0.heap.size) (show Below w.heap.size w v1 from by rw [hq]; exact FR.out.bel) HB.out.size)
    replace OW := Lib.hid (own_below OW.out (show Below w.heap.size w v1 from by rw [hq]; exact FR.out.bel))
    have HQ := Lib.hid (show w0.heap.size ≤ q from by rw [← hq]; exact HB.out.size)
    obtain ⟨b, off, rfl, hb0, k0, k1, k2, k3, k4, k5⟩ := Ns.look (ns := ns) NX.out i (by omega)
    have HNB := Lib.hid hb0
    clear hb0
    generalize ndAt ns (i : Int) = r at *
    have c00 : v1.cell? ⟨q, 0, none⟩ = some (.slice (some ⟨b, off, none⟩) n c) := FR.out.cell 0 0 rfl rfl rfl
    have c01 : v1.cell? ⟨q, 1, none⟩ = some (.int .i64 rt) := FR.out.cell 0 1 rfl rfl rfl
    have c02 : v1.cell? ⟨q, 2, none⟩ = some (.int .i64 fr) := FR.out.cell 0 2 rfl rfl rfl
    obtain ⟨v2, hv2⟩ : ∃ W, v1.alloc (.cells #[.int .i64 r.k, .int .u32 r.p, .int .i64 r.l, .int .i64 r.r, .int .i64 r.h, .int .i64 r.t] 52) = W := ⟨_, rfl⟩
    have fr2 : Fr w v2 q [.cells #[.slice (some ⟨b, off, none⟩) n c, .int .i64 rt, .int .i64 fr] 54, .cells #[.int .i64 r.k, .int .u32 r.p, .int .i64 r.l, .int .i64 r.r, .int .i64 r.h, .int .i64 r.t] 52] := hv2 ▸ FR.out.more z1 _
    have z2 : v2.heap.size = q + 2 := by rw [← hv2, Fr.size1, z1]
    have hb12 : Below v1.heap.size v1 v2 := hv2 ▸ (Below.refl _ _).alloc (Nat.le_refl _) _
    replace KP := Lib.hid (KP.out.trans (Kp.below hb12 (by have := HQ.out; omega)))
    replace NX := Lib.hid (Es.below NX.out hb12)
    replace OW := Lib.hid (own_below OW.out hb12)
    replace FR := Lib.hid fr2
    clear fr2 hb12
    have nc00 : v2.cell? ⟨q, 0, none⟩ = some (.slice (some ⟨b, off, none⟩) n c) := FR.out.cell 0 0 rfl rfl rfl
    have nc01 : v2.cell? ⟨q, 1, none⟩ = some (.int .i64 rt) := FR.out.cell 0 1 rfl rfl rfl
    have nc02 : v2.cell? ⟨q, 2, none⟩ = some (.int .i64 fr) := FR.out.cell 0 2 rfl rfl rfl
    have nc10 : v2.cell? ⟨q + 1, 0, none⟩ = some (.int .i64 r.k) := FR.out.cell 1 0 rfl rfl rfl
    have nc11 : v2.cell? ⟨q + 1, 1, none⟩ = some (.int .u32 r.p) := FR.out.cell 1 1 rfl rfl rfl
    have nc12 : v2.cell? ⟨q + 1, 2, none⟩ = some (.int .i64 r.l) := FR.out.cell 1 2 rfl rfl rfl
    have nc13 : v2.cell? ⟨q + 1, 3, none⟩ = some (.int .i64 r.r) := FR.out.cell 1 3 rfl rfl rfl
    have nc14 : v2.cell? ⟨q + 1, 4, none⟩ = some (.int .i64 r.h) := FR.out.cell 1 4 rfl rfl rfl
    have nc15 : v2.cell? ⟨q + 1, 5, none⟩ = some (.int .i64 r.t) := FR.out.cell 1 5 rfl rfl rfl
    go_enter Try.func49, Try.ntmps49
    cases hl : leadN ns r r.l
    · replace LD := Lib.hid (fun (W : World) (h : Ns W (some ⟨b, off, none⟩) n c ns) (j : Int) (hj : j = r.l) => (by have h2 := LD.out W h r j; rw [hj, hl] at h2; rw [hj]; exact h2 : Calls Try.prog 53 #[.agg #[.slice (some ⟨b, off, none⟩) n c, .int .i64 rt, .int .i64 fr], .agg #[.int .i64 r.k, .int .u32 r.p, .int .i64 r.l, .int .i64 r.r, .int .i64 r.h, .int .i64 r.t], .int .i64 j] W (Yes9 W false)))
      go_wp2_with fail
      refine (LD.out _ NX.out r.l rfl).mono ?_
      rintro e wa ⟨rfl, hb⟩
      replace KP := Lib.hid (KP.out.trans (Kp.below hb (Nat.le_trans HQ.out (by have := FR.out.sz; simp only [List.length_cons, List.length_nil] at this; omega))))
      go_wp2
      go_ret2
      have HE := Lib.hid (H1.out (Or.inl hl))
      exact ⟨none, none, 0, 0, false, HE.out, rfl, rfl, World.ownsRow_nil _ _ _ _, KP.out⟩
    · have Ll := Lib.hid (fun (W : World) (h : Ns W (some ⟨b, off, none⟩) n c ns) (j : Int) (hj : j = r.l) => (by have h2 := LD.out W h r j; rw [hj, hl] at h2; rw [hj]; exact h2 : Calls Try.prog 53 #[.agg #[.slice (some ⟨b, off, none⟩) n c, .int .i64 rt, .int .i64 fr], .agg #[.int .i64 r.k, .int .u32 r.p, .int .i64 r.l, .int .i64 r.r, .int .i64 r.h, .int .i64 r.t], .int .i64 j] W (Yes9 W true)))
      replace hl := Lib.hid hl
      cases hr : leadN ns r r.r
      · have Lr := Lib.hid (fun (W : World) (h : Ns W (some ⟨b, off, none⟩) n c ns) (j : Int) (hj : j = r.r) => (by have h2 := LD.out W h r j; rw [hj, hr] at h2; rw [hj]; exact h2 : Calls Try.prog 53 #[.agg #[.slice (some ⟨b, off, none⟩) n c, .int .i64 rt, .int .i64 fr], .agg #[.int .i64 r.k, .int .u32 r.p, .int .i64 r.l, .int .i64 r.r, .int .i64 r.h, .int .i64 r.t], .int .i64 j] W (Yes9 W false)))
        clear LD
        replace hr := Lib.hid hr
        go_wp2_with fail
        refine (Ll.out _ NX.out r.l rfl).mono ?_
        rintro e w2 ⟨rfl, hb⟩
        clear c00 c01 c02 nc00 nc01 nc02 nc10 nc11 nc12 nc13 nc14 nc15 k0 k1 k2 k3 k4 k5 hv1 hv2 z1 z2
        replace KP := Lib.hid (KP.out.trans (Kp.below hb (Nat.le_trans HQ.out (by have := FR.out.sz; simp only [List.length_cons, List.length_nil] at this; omega))))
        replace FR := Lib.hid (FR.out.step hb)
        replace NX := Lib.hid (Es.below NX.out hb)
        replace OW := Lib.hid (own_below OW.out hb)
        clear hb
        have c00 : w2.cell? ⟨q, 0, none⟩ = some (.slice (some ⟨b, off, none⟩) n c) := FR.out.cell 0 0 rfl rfl rfl
        have c01 : w2.cell? ⟨q, 1, none⟩ = some (.int .i64 rt) := FR.out.cell 0 1 rfl rfl rfl
        have c02 : w2.cell? ⟨q, 2, none⟩ = some (.int .i64 fr) := FR.out.cell 0 2 rfl rfl rfl
        have c10 : w2.cell? ⟨q + 1, 0, none⟩ = some (.int .i64 r.k) := FR.out.cell 1 0 rfl rfl rfl
        have c11 : w2.cell? ⟨q + 1, 1, none⟩ = some (.int .u32 r.p) := FR.out.cell 1 1 rfl rfl rfl
        have c12 : w2.cell? ⟨q + 1, 2, none⟩ = some (.int .i64 r.l) := FR.out.cell 1 2 rfl rfl rfl
        have c13 : w2.cell? ⟨q + 1, 3, none⟩ = some (.int .i64 r.r) := FR.out.cell 1 3 rfl rfl rfl
        have c14 : w2.cell? ⟨q + 1, 4, none⟩ = some (.int .i64 r.h) := FR.out.cell 1 4 rfl rfl rfl
        have c15 : w2.cell? ⟨q + 1, 5, none⟩ = some (.int .i64 r.t) := FR.out.cell 1 5 rfl rfl rfl
        go_wp2_with fail
        refine (Lr.out _ NX.out r.r rfl).mono ?_
        rintro e w3 ⟨rfl, hb⟩
        clear c00 c01 c02 c10 c11 c12 c13 c14 c15
        replace KP := Lib.hid (KP.out.trans (Kp.below hb (Nat.le_trans HQ.out (by have := FR.out.sz; simp only [List.length_cons, List.length_nil] at this; omega))))
        replace FR := Lib.hid (FR.out.step hb)
        replace NX := Lib.hid (Es.below NX.out hb)
        replace OW := Lib.hid (own_below OW.out hb)
        clear hb Ll Lr
        have HE := Lib.hid (H1.out (Or.inr hr.out))
        go_wp2
        go_ret2
        exact ⟨none, none, 0, 0, false, HE.out, rfl, rfl, World.ownsRow_nil _ _ _ _, KP.out⟩
      · have Lr := Lib.hid (fun (W : World) (h : Ns W (some ⟨b, off, none⟩) n c ns) (j : Int) (hj : j = r.r) => (by have h2 := LD.out W h r j; rw [hj, hr] at h2; rw [hj]; exact h2 : Calls Try.prog 53 #[.agg #[.slice (some ⟨b, off, none⟩) n c, .int .i64 rt, .int .i64 fr], .agg #[.int .i64 r.k, .int .u32 r.p, .int .i64 r.l, .int .i64 r.r, .int .i64 r.h, .int .i64 r.t], .int .i64 j] W (Yes9 W true)))
        clear LD
        replace hr := Lib.hid hr
        go_wp2_with fail
        refine (Ll.out _ NX.out r.l rfl).mono ?_
        rintro e w2 ⟨rfl, hb⟩
        clear c00 c01 c02 nc00 nc01 nc02 nc10 nc11 nc12 nc13 nc14 nc15 k0 k1 k2 k3 k4 k5 hv1 hv2 z1 z2
        replace KP := Lib.hid (KP.out.trans (Kp.below hb (Nat.le_trans HQ.out (by have := FR.out.sz; simp only [List.length_cons, List.length_nil] at this; omega))))
        replace FR := Lib.hid (FR.out.step hb)
        replace NX := Lib.hid (Es.below NX.out hb)
        replace OW := Lib.hid (own_below OW.out hb)
        clear hb
        have c00 : w2.cell? ⟨q, 0, none⟩ = some (.slice (some ⟨b, off, none⟩) n c) := FR.out.cell 0 0 rfl rfl rfl
        have c01 : w2.cell? ⟨q, 1, none⟩ = some (.int .i64 rt) := FR.out.cell 0 1 rfl rfl rfl
        have c02 : w2.cell? ⟨q, 2, none⟩ = some (.int .i64 fr) := FR.out.cell 0 2 rfl rfl rfl
        have c10 : w2.cell? ⟨q + 1, 0, none⟩ = some (.int .i64 r.k) := FR.out.cell 1 0 rfl rfl rfl
        have c11 : w2.cell? ⟨q + 1, 1, none⟩ = some (.int .u32 r.p) := FR.out.cell 1 1 rfl rfl rfl
        have c12 : w2.cell? ⟨q + 1, 2, none⟩ = some (.int .i64 r.l) := FR.out.cell 1 2 rfl rfl rfl
        have c13 : w2.cell? ⟨q + 1, 3, none⟩ = some (.int .i64 r.r) := FR.out.cell 1 3 rfl rfl rfl
        have c14 : w2.cell? ⟨q + 1, 4, none⟩ = some (.int .i64 r.h) := FR.out.cell 1 4 rfl rfl rfl
        have c15 : w2.cell? ⟨q + 1, 5, none⟩ = some (.int .i64 r.t) := FR.out.cell 1 5 rfl rfl rfl
        go_wp2_with fail
        refine (Lr.out _ NX.out r.r rfl).mono ?_
        rintro e w3 ⟨rfl, hb⟩
        clear c00 c01 c02 c10 c11 c12 c13 c14 c15
        replace KP := Lib.hid (KP.out.trans (Kp.below hb (Nat.le_trans HQ.out (by have := FR.out.sz; simp only [List.length_cons, List.length_nil] at this; omega))))
        replace FR := Lib.hid (FR.out.step hb)
        replace NX := Lib.hid (Es.below NX.out hb)
        replace OW := Lib.hid (own_below OW.out hb)
        clear hb Ll Lr
        have HBW := Lib.hid (show Below w0.heap.size w0 _ from HB.out.trans KP.out.bel)
        have c00 : w3.cell? ⟨q, 0, none⟩ = some (.slice (some ⟨b, off, none⟩) n c) := FR.out.cell 0 0 rfl rfl rfl
        have c01 : w3.cell? ⟨q, 1, none⟩ = some (.int .i64 rt) := FR.out.cell 0 1 rfl rfl rfl
        have c02 : w3.cell? ⟨q, 2, none⟩ = some (.int .i64 fr) := FR.out.cell 0 2 rfl rfl rfl
        have c10 : w3.cell? ⟨q + 1, 0, none⟩ = some (.int .i64 r.k) := FR.out.cell 1 0 rfl rfl rfl
        have c11 : w3.cell? ⟨q + 1, 1, none⟩ = some (.int .u32 r.p) := FR.out.cell 1 1 rfl rfl rfl
        have c12 : w3.cell? ⟨q + 1, 2, none⟩ = some (.int .i64 r.l) := FR.out.cell 1 2 rfl rfl rfl
        have c13 : w3.cell? ⟨q + 1, 3, none⟩ = some (.int .i64 r.r) := FR.out.cell 1 3 rfl rfl rfl
        have c14 : w3.cell? ⟨q + 1, 4, none⟩ = some (.int .i64 r.h) := FR.out.cell 1 4 rfl rfl rfl
        have c15 : w3.cell? ⟨q + 1, 5, none⟩ = some (.int .i64 r.t) := FR.out.cell 1 5 rfl rfl rfl
        have TQ := Lib.hid (FR.out.blk 0 _ rfl)
        have Vd := Lib.hid (FR.out.blk 1 _ rfl)
        go_wp2_with fail
        refine (IH.out C m d out r.l _ HBW.out OW.out HR.out (H5.out r.l hl.out)).mono ?_
        rintro e w7 ⟨r1, C1, m1, d1, bb, hbeh, hbb, rfl, hown, hkp⟩
        clear c00 c01 c02 c10 c11 c12 c13 c14 c15
        replace OW := Lib.hid hown
        replace TQ := Lib.hid (hkp.blk _ _ _ _ TQ.out (by decide))
        replace Vd := Lib.hid (hkp.blk _ _ _ _ Vd.out (by decide))
        replace KP := Lib.hid (KP.out.trans hkp)
        replace HBW := Lib.hid (show Below w0.heap.size w0 _ from HBW.out.trans hkp.bel)
        replace NX := Lib.hid (show Ns w7 (some ⟨b, off, none⟩) n c ns from Es.below NX0.out HBW.out)
        have hqz : q < w7.heap.size := blk_lt TQ.out
        have hdz : q + 1 < w7.heap.size := blk_lt Vd.out
        have h0z : w0.heap.size ≤ w7.heap.size := HBW.out.size
        clear hown hkp FR
        have c00 : w7.cell? ⟨q, 0, none⟩ = some (.slice (some ⟨b, off, none⟩) n c) := (blk_cell TQ.out 0).trans rfl
        have cd0 : w7.cell? ⟨q + 1, 0, none⟩ = some (.int .i64 r.k) := (blk_cell Vd.out 0).trans rfl
        cases bb
        · have HE := Lib.hid (H2.out (none_of hbb ▸ hbeh))
          clear hbeh hbb
          go_wp2
          refine wp_region_noPanic ?_
          refine wp_region_held_drew (S := (fun wv => Hid (Below w7.heap.size w7 wv))) (by kernel_rfl) (Lib.hid (Below.refl _ w7).drew) (fun hS => ?_)
          refine wpAnyH_take (i := 0) (oi := ⟨some 41, .move (.tmp 9), 4, "tree.go:64", #[], none⟩) (v := ?_) rfl (by kernel_rfl) (by kernel_rfl) (by kernel_rfl) (fun _ _ _ h => h) (Or.inl ⟨by rfl, ?_⟩) hS ?_
          rotate_left
          · intro wv _; go_simp; try with_reducible rfl
          try simp only [Act.put, List.setIfInBounds_toArray, List.set_cons_zero, List.set_cons_succ]
          refine wpAnyH_take (i := 1) (oi := ⟨some 42, .unOp .not 4 (.tmp 41), 4, "tree.go:64", #[⟨0, .data⟩], none⟩) (v := ?_) rfl (by kernel_rfl) (by kernel_rfl) (by kernel_rfl) (fun _ _ _ h => h) (Or.inl ⟨by rfl, ?_⟩) hS ?_
          rotate_left
          · intro wv _; go_simp; try with_reducible rfl
          try simp only [Act.put, List.setIfInBounds_toArray, List.set_cons_zero, List.set_cons_succ]
          refine wpAnyH_take (i := 2) (oi := ⟨some 43, .move (.tmp 42), 4, "tree.go:64", #[⟨1, .data⟩], none⟩) (v := ?_) rfl (by kernel_rfl) (by kernel_rfl) (by kernel_rfl) (fun _ _ _ h => h) (Or.inl ⟨by rfl, ?_⟩) hS ?_
          rotate_left
          · intro wv _; go_simp; try with_reducible rfl
          try simp only [Act.put, List.setIfInBounds_toArray, List.set_cons_zero, List.set_cons_succ]
          refine wpAnyH_take (i := 3) (oi := ⟨some 44, .fieldAddr 52 (.tmp 8) 0, 0, "tree.go:64", #[⟨2, .guard⟩], some (2, false)⟩) (v := undef) rfl (by kernel_rfl) (by kernel_rfl) (by kernel_rfl) (fun _ _ _ h => h) (Or.inr ⟨by rfl, rfl⟩) hS ?_
          try simp only [Act.put, List.setIfInBounds_toArray, List.set_cons_zero, List.set_cons_succ]
          refine wpAnyH_take (i := 4) (oi := ⟨some 45, .load 3 (.tmp 44), 3, "tree.go:64", #[⟨3, .data⟩, ⟨2, .guard⟩], some (2, false)⟩) (v := undef) rfl (by kernel_rfl) (by kernel_rfl) (by kernel_rfl) (fun _ _ _ h => h) (Or.inr ⟨by rfl, rfl⟩) hS ?_
          try simp only [Act.put, List.setIfInBounds_toArray, List.set_cons_zero, List.set_cons_succ]
          refine wpAnyH_take (i := 5) (oi := ⟨some 46, .load 54 (.tmp 3), 54, "tree.go:64", #[⟨2, .guard⟩], some (2, false)⟩) (v := undef) rfl (by kernel_rfl) (by kernel_rfl) (by kernel_rfl) (fun _ _ _ h => h) (Or.inr ⟨by rfl, rfl⟩) hS ?_
          try simp only [Act.put, List.setIfInBounds_toArray, List.set_cons_zero, List.set_cons_succ]
          refine wpAnyH_take (i := 6) (oi := ⟨some 47, .move (.tmp 1), 38, "tree.go:64", #[⟨2, .guard⟩], some (2, false)⟩) (v := undef) rfl (by kernel_rfl) (by kernel_rfl) (by kernel_rfl) (fun _ _ _ h => h) (Or.inr ⟨by rfl, rfl⟩) hS ?_
          try simp only [Act.put, List.setIfInBounds_toArray, List.set_cons_zero, List.set_cons_succ]
          refine wpAnyH_take (i := 7) (oi := ⟨some 48, .call { callee := .value (.func 54), args := #[.tmp 46, .tmp 47], argTypes := #[54, 38] }, 3, "tree.go:64", #[⟨5, .data⟩, ⟨6, .data⟩, ⟨2, .chain⟩, ⟨2, .guard⟩], some (2, false)⟩) (v := undef) rfl (by kernel_rfl) (by kernel_rfl) (by kernel_rfl) (fun _ _ _ h => h) (Or.inr ⟨by rfl, rfl⟩) hS ?_
          try simp only [Act.put, List.setIfInBounds_toArray, List.set_cons_zero, List.set_cons_succ]
          refine wpAnyH_take (i := 8) (oi := ⟨some 49, .binOp .leq 3 (.tmp 45) (.tmp 48) 3, 4, "tree.go:64", #[⟨4, .data⟩, ⟨7, .data⟩, ⟨2, .guard⟩], some (2, false)⟩) (v := undef) rfl (by kernel_rfl) (by kernel_rfl) (by kernel_rfl) (fun _ _ _ h => h) (Or.inr ⟨by rfl, rfl⟩) hS ?_
          try simp only [Act.put, List.setIfInBounds_toArray, List.set_cons_zero, List.set_cons_succ]
          refine wpAnyH_take (i := 9) (oi := ⟨some 50, .pick (.tmp 43) (.const (Value.bool true)) (.tmp 49), 4, "tree.go:64", #[⟨2, .data⟩, ⟨8, .data⟩], none⟩) (v := ?_) rfl (by kernel_rfl) (by kernel_rfl) (by kernel_rfl) (fun _ _ _ h => h) (Or.inl ⟨by rfl, ?_⟩) hS ?_
          rotate_left
          · intro wv _; go_simp; try with_reducible rfl
          try simp only [Act.put, List.setIfInBounds_toArray, List.set_cons_zero, List.set_cons_succ]
          refine wpAnyH_done (by kernel_rfl) ?_ _
          refine NoPanic.normal ?_
          replace KP := Lib.hid (KP.out.trans (Kp.below hS.out h0z))
          go_wp2
          go_ret2
          exact ⟨none, none, 0, 0, false, HE.out, rfl, rfl, World.ownsRow_nil _ _ _ _, KP.out⟩
        · obtain ⟨o1, rfl⟩ := some_of hbb
          replace OW := Lib.hid (show w7.ownsRow w0.heap.size 3 1 (.slice C1 m1 d1) m1 (intC o1) from OW.out)
          have HO := Lib.hid hbeh
          have hro := beh_rp hbeh
          have hm1 : o1.length = m1 := by have h := OW.out.1; rw [intC_len] at h; omega
          have hol : m1 ≤ n := by have h1 := hro.len; have h2 := NX0.out.len; omega
          have IX : Hid (Is w7 C1 m1 d1 o1) := Lib.hid (by obtain ⟨_, _, he, his⟩ := Es.of_own OW.out (intC_one _); injection he with e1 e2 e3; subst e1; subst e3; exact his)
          have HIN := Lib.hid (show InN n o1 from by rw [← NX0.out.len]; exact hro.inN)
          have LK := Lib.hid (fun (W : World) (h : Ns W (some ⟨b, off, none⟩) n c ns) (g : Is W C1 m1 d1 o1) => tpLast_any (some ⟨b, off, none⟩) n c ns rt fr W h hn C1 m1 d1 o1 g HIN.out (by omega))
          clear hbeh hbb hro
          obtain ⟨lk, hlk⟩ : ∃ lk, lastK ns o1 = lk := ⟨_, rfl⟩
          rw [hlk] at LK
          by_cases hk : r.k ≤ lk
          · have b1 : decide (r.k ≤ lk) = true := by simpa using hk
            have HE := Lib.hid (H3.out o1 HO.out (by rw [hlk]; exact hk))
            clear hk hlk
            go_wp2
            refine wp_region_noPanic ?_
            refine wp_region_held_drew (S := (fun wv => Hid (Below w7.heap.size w7 wv))) (by kernel_rfl) (Lib.hid (Below.refl _ w7).drew) (fun hS => ?_)
            refine wpAnyH_take (i := 0) (oi := ⟨some 41, .move (.tmp 9), 4, "tree.go:64", #[], none⟩) (v := ?_) rfl (by kernel_rfl) (by kernel_rfl) (by kernel_rfl) (fun _ _ _ h => h) (Or.inl ⟨by rfl, ?_⟩) hS ?_
            rotate_left
            · intro wv _; go_simp; try with_reducible rfl
            try simp only [Act.put, List.setIfInBounds_toArray, List.set_cons_zero, List.set_cons_succ]
            refine wpAnyH_take (i := 1) (oi := ⟨some 42, .unOp .not 4 (.tmp 41), 4, "tree.go:64", #[⟨0, .data⟩], none⟩) (v := ?_) rfl (by kernel_rfl) (by kernel_rfl) (by kernel_rfl) (fun _ _ _ h => h) (Or.inl ⟨by rfl, ?_⟩) hS ?_
            rotate_left
            · intro wv _; go_simp; try with_reducible rfl
            try simp only [Act.put, List.setIfInBounds_toArray, List.set_cons_zero, List.set_cons_succ]
            refine wpAnyH_take (i := 2) (oi := ⟨some 43, .move (.tmp 42), 4, "tree.go:64", #[⟨1, .data⟩], none⟩) (v := ?_) rfl (by kernel_rfl) (by kernel_rfl) (by kernel_rfl) (fun _ _ _ h => h) (Or.inl ⟨by rfl, ?_⟩) hS ?_
            rotate_left
            · intro wv _; go_simp; try with_reducible rfl
            try simp only [Act.put, List.setIfInBounds_toArray, List.set_cons_zero, List.set_cons_succ]
            refine wpAnyH_take (i := 3) (oi := ⟨some 44, .fieldAddr 52 (.tmp 8) 0, 0, "tree.go:64", #[⟨2, .guard⟩], some (2, false)⟩) (v := ?_) rfl (by kernel_rfl) (by kernel_rfl) (by kernel_rfl) (fun _ _ _ h => h) (Or.inl ⟨by rfl, ?_⟩) hS ?_
            rotate_left
            · intro wv _; go_simp; try with_reducible rfl
            try simp only [Act.put, List.setIfInBounds_toArray, List.set_cons_zero, List.set_cons_succ]
            refine wpAnyH_take (i := 4) (oi := ⟨some 45, .load 3 (.tmp 44), 3, "tree.go:64", #[⟨3, .data⟩, ⟨2, .guard⟩], some (2, false)⟩) (v := ?_) rfl (by kernel_rfl) (by kernel_rfl) (by kernel_rfl) (fun _ _ _ h => h) (Or.inl ⟨by rfl, ?_⟩) hS ?_
            rotate_left
            · intro wv hS; have hrun := (hS.out.cell (p := ⟨q + 1, 0, none⟩) hdz).trans cd0; go_simp; try with_reducible rfl
            try simp only [Act.put, List.setIfInBounds_toArray, List.set_cons_zero, List.set_cons_succ]
            refine wpAnyH_take (i := 5) (oi := ⟨some 46, .load 54 (.tmp 3), 54, "tree.go:64", #[⟨2, .guard⟩], some (2, false)⟩) (v := .agg (([.slice (some ⟨b, off, none⟩) n c, .int .i64 rt, .int .i64 fr] : List Value)).toArray) rfl (by kernel_rfl) (by kernel_rfl) (by kernel_rfl) (fun _ _ _ h => h) (yieldsIf_load_mid (by rfl) _ _ (by rfl) (q) (0) (by rfl) (([.slice (some ⟨b, off, none⟩) n c, .int .i64 rt, .int .i64 fr] : List Value)) _ (fun wv hS => blk_rngl (blk_below TQ.out hS.out (by exact hqz))) Try.underlying54 (by rfl) (by kernel_rfl)) hS ?_
            try simp only [Act.put, List.setIfInBounds_toArray, List.set_cons_zero, List.set_cons_succ]
            refine wpAnyH_take (i := 6) (oi := ⟨some 47, .move (.tmp 1), 38, "tree.go:64", #[⟨2, .guard⟩], some (2, false)⟩) (v := ?_) rfl (by kernel_rfl) (by kernel_rfl) (by kernel_rfl) (fun _ _ _ h => h) (Or.inl ⟨by rfl, ?_⟩) hS ?_
            rotate_left
            · intro wv _; go_simp; try with_reducible rfl
            try simp only [Act.put, List.setIfInBounds_toArray, List.set_cons_zero, List.set_cons_succ]
            refine wpAnyH_ready (rs := [7]) (by kernel_rfl) (by simp) (AllReadyH.cons (o := ⟨some 48, .call { callee := .value (.func 54), args := #[.tmp 46, .tmp 47], argTypes := #[54, 38] }, 3, "tree.go:64", #[⟨5, .data⟩, ⟨6, .data⟩, ⟨2, .chain⟩, ⟨2, .guard⟩], some (2, false)⟩) rfl (fun K hK => ?_) AllReadyH.nil)
            go_simp
            refine (LK.out _ (Es.below NX.out hS.out) (Es.below IX.out hS.out)).mono ?_; rintro e wa ⟨rfl, hb⟩
            replace hS := Lib.hid (hS.out.trans (hb.mono hS.out.size))
            clear hb
            go_wp2_with fail
            refine Shut.out hK _ _ hS (fun _ => ?_)
            clear hK K
            try simp only [Act.put, List.setIfInBounds_toArray, List.set_cons_zero, List.set_cons_succ]
            refine wpAnyH_take (i := 8) (oi := ⟨some 49, .binOp .leq 3 (.tmp 45) (.tmp 48) 3, 4, "tree.go:64", #[⟨4, .data⟩, ⟨7, .data⟩, ⟨2, .guard⟩], some (2, false)⟩) (v := ?_) rfl (by kernel_rfl) (by kernel_rfl) (by kernel_rfl) (fun _ _ _ h => h) (Or.inl ⟨by rfl, ?_⟩) hS ?_
            rotate_left
            · intro wv _; go_simp; try with_reducible rfl
            try simp only [Act.put, List.setIfInBounds_toArray, List.set_cons_zero, List.set_cons_succ]
            refine wpAnyH_take (i := 9) (oi := ⟨some 50, .pick (.tmp 43) (.const (Value.bool true)) (.tmp 49), 4, "tree.go:64", #[⟨2, .data⟩, ⟨8, .data⟩], none⟩) (v := ?_) rfl (by kernel_rfl) (by kernel_rfl) (by kernel_rfl) (fun _ _ _ h => h) (Or.inl ⟨by rfl, ?_⟩) hS ?_
            rotate_left
            · intro wv _; go_simp; try with_reducible rfl
            try simp only [Act.put, List.setIfInBounds_toArray, List.set_cons_zero, List.set_cons_succ]
            refine wpAnyH_done (by kernel_rfl) ?_ _
            refine NoPanic.normal ?_
            replace KP := Lib.hid (KP.out.trans (Kp.below hS.out h0z))
            go_wp2
            go_ret2
            exact ⟨none, none, 0, 0, false, HE.out, rfl, rfl, World.ownsRow_nil _ _ _ _, KP.out⟩
          · have b1 : decide (r.k ≤ lk) = false := by simpa using hk
            have HE := Lib.hid (H4.out hl.out hr.out o1 HO.out (by rw [hlk]; omega))
            clear hk hlk
            go_wp2
            refine wp_region_noPanic ?_
            refine wp_region_held_drew (S := (fun wv => Hid (Below w7.heap.size w7 wv))) (by kernel_rfl) (Lib.hid (Below.refl _ w7).drew) (fun hS => ?_)
            refine wpAnyH_take (i := 0) (oi := ⟨some 41, .move (.tmp 9), 4, "tree.go:64", #[], none⟩) (v := ?_) rfl (by kernel_rfl) (by kernel_rfl) (by kernel_rfl) (fun _ _ _ h => h) (Or.inl ⟨by rfl, ?_⟩) hS ?_
            rotate_left
            · intro wv _; go_simp; try with_reducible rfl
            try simp only [Act.put, List.setIfInBounds_toArray, List.set_cons_zero, List.set_cons_succ]
            refine wpAnyH_take (i := 1) (oi := ⟨some 42, .unOp .not 4 (.tmp 41), 4, "tree.go:64", #[⟨0, .data⟩], none⟩) (v := ?_) rfl (by kernel_rfl) (by kernel_rfl) (by kernel_rfl) (fun _ _ _ h => h) (Or.inl ⟨by rfl, ?_⟩) hS ?_
            rotate_left
            · intro wv _; go_simp; try with_reducible rfl
            try simp only [Act.put, List.setIfInBounds_toArray, List.set_cons_zero, List.set_cons_succ]
            refine wpAnyH_take (i := 2) (oi := ⟨some 43, .move (.tmp 42), 4, "tree.go:64", #[⟨1, .data⟩], none⟩) (v := ?_) rfl (by kernel_rfl) (by kernel_rfl) (by kernel_rfl) (fun _ _ _ h => h) (Or.inl ⟨by rfl, ?_⟩) hS ?_
            rotate_left
            · intro wv _; go_simp; try with_reducible rfl
            try simp only [Act.put, List.setIfInBounds_toArray, List.set_cons_zero, List.set_cons_succ]
            refine wpAnyH_take (i := 3) (oi := ⟨some 44, .fieldAddr 52 (.tmp 8) 0, 0, "tree.go:64", #[⟨2, .guard⟩], some (2, false)⟩) (v := ?_) rfl (by kernel_rfl) (by kernel_rfl) (by kernel_rfl) (fun _ _ _ h => h) (Or.inl ⟨by rfl, ?_⟩) hS ?_
            rotate_left
            · intro wv _; go_simp; try with_reducible rfl
            try simp only [Act.put, List.setIfInBounds_toArray, List.set_cons_zero, List.set_cons_succ]
            refine wpAnyH_take (i := 4) (oi := ⟨some 45, .load 3 (.tmp 44), 3, "tree.go:64", #[⟨3, .data⟩, ⟨2, .guard⟩], some (2, false)⟩) (v := ?_) rfl (by kernel_rfl) (by kernel_rfl) (by kernel_rfl) (fun _ _ _ h => h) (Or.inl ⟨by rfl, ?_⟩) hS ?_
            rotate_left
            · intro wv hS; have hrun := (hS.out.cell (p := ⟨q + 1, 0, none⟩) hdz).trans cd0; go_simp; try with_reducible rfl
            try simp only [Act.put, List.setIfInBounds_toArray, List.set_cons_zero, List.set_cons_succ]
            refine wpAnyH_take (i := 5) (oi := ⟨some 46, .load 54 (.tmp 3), 54, "tree.go:64", #[⟨2, .guard⟩], some (2, false)⟩) (v := .agg (([.slice (some ⟨b, off, none⟩) n c, .int .i64 rt, .int .i64 fr] : List Value)).toArray) rfl (by kernel_rfl) (by kernel_rfl) (by kernel_rfl) (fun _ _ _ h => h) (yieldsIf_load_mid (by rfl) _ _ (by rfl) (q) (0) (by rfl) (([.slice (some ⟨b, off, none⟩) n c, .int .i64 rt, .int .i64 fr] : List Value)) _ (fun wv hS => blk_rngl (blk_below TQ.out hS.out (by exact hqz))) Try.underlying54 (by rfl) (by kernel_rfl)) hS ?_
            try simp only [Act.put, List.setIfInBounds_toArray, List.set_cons_zero, List.set_cons_succ]
            refine wpAnyH_take (i := 6) (oi := ⟨some 47, .move (.tmp 1), 38, "tree.go:64", #[⟨2, .guard⟩], some (2, false)⟩) (v := ?_) rfl (by kernel_rfl) (by kernel_rfl) (by kernel_rfl) (fun _ _ _ h => h) (Or.inl ⟨by rfl, ?_⟩) hS ?_
            rotate_left
            · intro wv _; go_simp; try with_reducible rfl
            try simp only [Act.put, List.setIfInBounds_toArray, List.set_cons_zero, List.set_cons_succ]
            refine wpAnyH_ready (rs := [7]) (by kernel_rfl) (by simp) (AllReadyH.cons (o := ⟨some 48, .call { callee := .value (.func 54), args := #[.tmp 46, .tmp 47], argTypes := #[54, 38] }, 3, "tree.go:64", #[⟨5, .data⟩, ⟨6, .data⟩, ⟨2, .chain⟩, ⟨2, .guard⟩], some (2, false)⟩) rfl (fun K hK => ?_) AllReadyH.nil)
            go_simp
            refine (LK.out _ (Es.below NX.out hS.out) (Es.below IX.out hS.out)).mono ?_; rintro e wa ⟨rfl, hb⟩
            replace hS := Lib.hid (hS.out.trans (hb.mono hS.out.size))
            clear hb
            go_wp2_with fail
            refine Shut.out hK _ _ hS (fun _ => ?_)
            clear hK K
            try simp only [Act.put, List.setIfInBounds_toArray, List.set_cons_zero, List.set_cons_succ]
            refine wpAnyH_take (i := 8) (oi := ⟨some 49, .binOp .leq 3 (.tmp 45) (.tmp 48) 3, 4, "tree.go:64", #[⟨4, .data⟩, ⟨7, .data⟩, ⟨2, .guard⟩], some (2, false)⟩) (v := ?_) rfl (by kernel_rfl) (by kernel_rfl) (by kernel_rfl) (fun _ _ _ h => h) (Or.inl ⟨by rfl, ?_⟩) hS ?_
            rotate_left
            · intro wv _; go_simp; try with_reducible rfl
            try simp only [Act.put, List.setIfInBounds_toArray, List.set_cons_zero, List.set_cons_succ]
            refine wpAnyH_take (i := 9) (oi := ⟨some 50, .pick (.tmp 43) (.const (Value.bool true)) (.tmp 49), 4, "tree.go:64", #[⟨2, .data⟩, ⟨8, .data⟩], none⟩) (v := ?_) rfl (by kernel_rfl) (by kernel_rfl) (by kernel_rfl) (fun _ _ _ h => h) (Or.inl ⟨by rfl, ?_⟩) hS ?_
            rotate_left
            · intro wv _; go_simp; try with_reducible rfl
            try simp only [Act.put, List.setIfInBounds_toArray, List.set_cons_zero, List.set_cons_succ]
            refine wpAnyH_done (by kernel_rfl) ?_ _
            refine NoPanic.normal ?_
            replace KP := Lib.hid (KP.out.trans (Kp.below hS.out h0z))
            replace OW := Lib.hid (own_below OW.out hS.out)
            replace TQ := Lib.hid (blk_below TQ.out hS.out hqz)
            replace Vd := Lib.hid (blk_below Vd.out hS.out hdz)
            replace HBW := Lib.hid (HBW.out.trans (hS.out.mono h0z))
            have h0a : w0.heap.size ≤ wa.heap.size := Nat.le_trans h0z hS.out.size
            have own1 := (show wa.drew.ownsRow w0.heap.size 3 1 (.slice C1 m1 d1) m1 (intC o1) from ⟨OW.out.1, OW.out.2⟩).alloc (.cells (intC [(i : Int)]).toArray 3)
            obtain ⟨A4, c4, w9, hap, hown, hgr⟩ := app_ints (wa.drew.alloc (.cells (intC [(i : Int)]).toArray 3)) w0.heap.size (.slice C1 m1 d1) m1 o1 own1 _ 1 1 [(i : Int)] (is_lit wa.drew [(i : Int)] rfl) (by omega) (by simp; omega)
            have HK9 := Lib.hid ((((Kp.refl w0.heap.size wa).drew).alloc (by exact h0a) (.cells (intC [(i : Int)]).toArray 3)).grown own1 hgr (by simp; omega))
            have HO9 := Lib.hid hown
            have HB9 := Lib.hid (HBW.out.trans HK9.out.bel)
            clear own1 hown hgr hS
            replace hap : (Builtin.append_ #[38, 38] 38 #[_, .slice (some ⟨wa.heap.size, 0, none⟩) 1 1]).run Try.prog (wa.drew.alloc (.cells #[.int .i64 (i : Int)] 3)) = _ := hap
            clear c00 cd0
            go_wp2
            refine wp_region_noPanic ?_
            refine wp_region_held_drew (S := (fun wv => Hid (Kp w0.heap.size wa wv))) (by kernel_rfl) (Lib.hid (Kp.refl _ wa).drew) (fun hS => ?_)
            refine wpAnyH_take (i := 0) (oi := ⟨some 51, .load 54 (.tmp 3), 54, "tree.go:67", #[], none⟩) (v := .agg (([.slice (some ⟨b, off, none⟩) n c, .int .i64 rt, .int .i64 fr] : List Value)).toArray) rfl (by kernel_rfl) (by kernel_rfl) (by kernel_rfl) (fun _ _ _ h => h) (yieldsIf_load_mid (by rfl) _ _ (by rfl) (q) (0) (by rfl) (([.slice (some ⟨b, off, none⟩) n c, .int .i64 rt, .int .i64 fr] : List Value)) _ (fun wv hS => blk_rngl (hS.out.blk _ _ _ _ TQ.out (by decide))) Try.underlying54 (by rfl) (by kernel_rfl)) hS ?_
            try simp only [Act.put, List.setIfInBounds_toArray, List.set_cons_zero, List.set_cons_succ]
            refine wpAnyH_take (i := 1) (oi := ⟨some 52, .move (.tmp 1), 38, "tree.go:67", #[], none⟩) (v := ?_) rfl (by kernel_rfl) (by kernel_rfl) (by kernel_rfl) (fun _ _ _ h => h) (Or.inl ⟨by rfl, ?_⟩) hS ?_
            rotate_left
            · intro wv _; go_simp; try with_reducible rfl
            try simp only [Act.put, List.setIfInBounds_toArray, List.set_cons_zero, List.set_cons_succ]
            refine wpAnyH_take (i := 2) (oi := ⟨some 53, .move (.tmp 2), 3, "tree.go:67", #[], none⟩) (v := ?_) rfl (by kernel_rfl) (by kernel_rfl) (by kernel_rfl) (fun _ _ _ h => h) (Or.inl ⟨by rfl, ?_⟩) hS ?_
            rotate_left
            · intro wv _; go_simp; try with_reducible rfl
            try simp only [Act.put, List.setIfInBounds_toArray, List.set_cons_zero, List.set_cons_succ]
            refine wpAnyH_take (i := 5) (oi := ⟨some 56, .fieldAddr 52 (.tmp 8) 3, 0, "tree.go:67", #[], none⟩) (v := ?_) rfl (by kernel_rfl) (by kernel_rfl) (by kernel_rfl) (fun _ _ _ h => h) (Or.inl ⟨by rfl, ?_⟩) hS ?_
            rotate_left
            · intro wv _; go_simp; try with_reducible rfl
            try simp only [Act.put, List.setIfInBounds_toArray, List.set_cons_zero, List.set_cons_succ]
            refine wpAnyH_take (i := 6) (oi := ⟨some 57, .load 3 (.tmp 56), 3, "tree.go:67", #[⟨5, .data⟩], none⟩) (v := ?_) rfl (by kernel_rfl) (by kernel_rfl) (by kernel_rfl) (fun _ _ _ h => h) (Or.inl ⟨by rfl, ?_⟩) hS ?_
            rotate_left
            · intro wv hS; have hrun := (blk_cell (hS.out.blk _ _ _ _ Vd.out (by decide)) 3).trans rfl; go_simp; try with_reducible rfl
            try simp only [Act.put, List.setIfInBounds_toArray, List.set_cons_zero, List.set_cons_succ]
            refine wpAnyH_ready (rs := [3]) (by kernel_rfl) (by simp) (AllReadyH.cons (o := ⟨some 54, .buildSlice 38 1 #[(0, .tmp 53)], 38, "tree.go:67", #[⟨2, .data⟩], none⟩) rfl (fun K hK => ?_) AllReadyH.nil)
            go_simp
            replace hS := Lib.hid (hS.out.alloc (by exact h0a) (.cells #[.int .i64 (i : Int)] 3))
            refine Shut.out hK _ _ hS (fun _ => ?_)
            clear hK K
            try simp only [Act.put, List.setIfInBounds_toArray, List.set_cons_zero, List.set_cons_succ]
            refine wpAnyH_ready (rs := [4]) (by kernel_rfl) (by simp) (AllReadyH.cons (o := ⟨some 55, .call { callee := .builtin .append, args := #[.tmp 52, .tmp 54], argTypes := #[38, 38] }, 38, "tree.go:67", #[⟨1, .data⟩, ⟨3, .data⟩], none⟩) rfl (fun K hK => ?_) AllReadyH.nil)
            refine op_app_run7 (by rfl) rfl rfl rfl hap ?_
            replace hS := HK9
            refine Shut.out hK _ _ hS (fun _ => ?_)
            clear hK K
            try simp only [Act.put, List.setIfInBounds_toArray, List.set_cons_zero, List.set_cons_succ]
            refine wpAnyH_ready (rs := [7]) (by kernel_rfl) (by simp) (AllReadyH.cons (o := ⟨some 58, .call { callee := .value (.func 49), args := #[.tmp 51, .tmp 55, .tmp 57], argTypes := #[54, 38, 3] }, 65, "tree.go:67", #[⟨0, .data⟩, ⟨4, .data⟩, ⟨6, .data⟩, ⟨4, .chain⟩], none⟩) rfl (fun K hK => ?_) AllReadyH.nil)
            go_simp
            refine (IH.out A4 (m1 + 1) c4 (o1 ++ [(i : Int)]) r.r w9 HB9.out HO9.out HE.out.1 (H5.out r.r hr.out)).mono ?_
            rintro e w10 ⟨r2, C2, m2, d2, b2, hbeh2, hbs2, rfl, hown2, hkp2⟩
            replace hS := Lib.hid (hS.out.trans hkp2)
            go_wp2_with fail
            refine Shut.out hK _ _ hS (fun _ => ?_)
            clear hK K
            try simp only [Act.put, List.setIfInBounds_toArray, List.set_cons_zero, List.set_cons_succ]
            refine wpAnyH_take (i := 8) (oi := ⟨some 59, .extract (.tmp 58) 0, 38, "tree.go:67", #[⟨7, .data⟩], none⟩) (v := ?_) rfl (by kernel_rfl) (by kernel_rfl) (by kernel_rfl) (fun _ _ _ h => h) (Or.inl ⟨by rfl, ?_⟩) hS ?_
            rotate_left
            · intro wv _; go_simp; try with_reducible rfl
            try simp only [Act.put, List.setIfInBounds_toArray, List.set_cons_zero, List.set_cons_succ]
            refine wpAnyH_take (i := 9) (oi := ⟨some 60, .extract (.tmp 58) 1, 4, "tree.go:67", #[⟨7, .data⟩], none⟩) (v := ?_) rfl (by kernel_rfl) (by kernel_rfl) (by kernel_rfl) (fun _ _ _ h => h) (Or.inl ⟨by rfl, ?_⟩) hS ?_
            rotate_left
            · intro wv _; go_simp; try with_reducible rfl
            try simp only [Act.put, List.setIfInBounds_toArray, List.set_cons_zero, List.set_cons_succ]
            refine wpAnyH_take (i := 10) (oi := ⟨some 6, .assign (.tmp 59), 38, "tree.go:67", #[⟨8, .data⟩, ⟨7, .chain⟩, ⟨0, .phase⟩, ⟨1, .phase⟩, ⟨2, .phase⟩, ⟨3, .phase⟩, ⟨4, .phase⟩, ⟨5, .phase⟩, ⟨6, .phase⟩, ⟨7, .phase⟩, ⟨8, .phase⟩, ⟨9, .phase⟩], none⟩) (v := ?_) rfl (by kernel_rfl) (by kernel_rfl) (by kernel_rfl) (fun _ _ _ h => h) (Or.inl ⟨by rfl, ?_⟩) hS ?_
            rotate_left
            · intro wv _; go_simp; try with_reducible rfl
            try simp only [Act.put, List.setIfInBounds_toArray, List.set_cons_zero, List.set_cons_succ]
            refine wpAnyH_take (i := 11) (oi := ⟨some 7, .assign (.tmp 60), 4, "tree.go:67", #[⟨9, .data⟩, ⟨10, .chain⟩, ⟨0, .phase⟩, ⟨1, .phase⟩, ⟨2, .phase⟩, ⟨3, .phase⟩, ⟨4, .phase⟩, ⟨5, .phase⟩, ⟨6, .phase⟩, ⟨7, .phase⟩, ⟨8, .phase⟩, ⟨9, .phase⟩, ⟨10, .phase⟩], none⟩) (v := ?_) rfl (by kernel_rfl) (by kernel_rfl) (by kernel_rfl) (fun _ _ _ h => h) (Or.inl ⟨by rfl, ?_⟩) hS ?_
            rotate_left
            · intro wv _; go_simp; try with_reducible rfl
            try simp only [Act.put, List.setIfInBounds_toArray, List.set_cons_zero, List.set_cons_succ]
            refine wpAnyH_done (by kernel_rfl) ?_ _
            refine NoPanic.normal ?_
            go_wp2
            go_ret2
            exact ⟨r2, C2, m2, d2, b2, HE.out.2 r2 hbeh2, hbs2, rfl, hown2, KP.out.trans hS.out⟩
end Go.Proofs.Ytfgfohomgomidaa
