/- The walk of TreapOrder: it answers true, over any world; no condition. -/
import Derived.Test.YtfgfohomgomidaaTreS
import Derived.Test.YtfgfohomgomidaaTreY
import Derived.Deep.Cut
import Derived.Deep.CutRange
namespace Go.Proofs.Ytfgfohomgomidaa
set_option linter.unusedVariables false
set_option linter.unusedSimpArgs false
open Go.RowKit
theorem there3 {w : World} {b : Nat} {x y z : Value} {T : TypeId} (h : w.heap[b]? = some (.cells #[x, y, z] T)) : w.there b 0 3 := by
  intro j hj
  rw [Nat.zero_add, blk_cell h]
  refine ⟨?_, blk_frozen h j⟩
  rcases (by omega : j = 0 ∨ j = 1 ∨ j = 2) with rfl | rfl | rfl <;> rfl
theorem one3 (A : Option Addr) (n c : Nat) (x y : Int) : (#[.slice A n c, .int .i64 x, .int .i64 y] : Array Value).all (·.oneCell') = true := by simp [Value.oneCell']
theorem op_store9 {P : Program} {w w2 : World} {o : Oper} {a : Act} {K : Act → World → Prop} {Q : Exit → Act → World → Prop} {c : Prop} [Decidable c] (hc : c) {ty : TypeId} {x y : Operand} (ho : o.op = .store ty x y)
    {b : Nat} {cells : Array Value} (hx : a.eval x = .pointer (some ⟨b, 0, none⟩)) (hy : a.eval y = .agg cells) (ht : w.there b 0 cells.size) (hi : (P.info? ty).map (·.size) = some cells.size) (h1 : cells.all (·.oneCell') = true)
    (he : w.setCells b 0 cells.toList = w2) (h : K (a.put o.dst undef) w2) : if c then Oper.wp P o a w K Q else K (a.put o.dst undef) w := by
  rw [if_pos hc]
  exact wp_store_mid ty x y ho b 0 cells hx hy ht hi h1 (by rw [he]; exact h)
/-- the j-th of the acts' keys. -/
def kk (ks : List Int) (j : Nat) : Int := ks.getD j 0 % 16
def S1 (ks : List Int) (i : Nat) : Int → Prop := fun k => ∃ j, j < i ∧ kk ks j = k
def S2 (ks : List Int) (n i : Nat) : Int → Prop := fun k => ∃ j, j < i ∧ kk ks (n - 1 - j) = k
theorem S1_first (ks : List Int) : S1 ks 0 = fun _ => False := funext fun k => propext ⟨fun ⟨j, h, _⟩ => by omega, False.elim⟩
theorem S2_first (ks : List Int) (n : Nat) : S2 ks n 0 = fun _ => False := funext fun k => propext ⟨fun ⟨j, h, _⟩ => by omega, False.elim⟩
theorem S1_step (ks : List Int) (i : Nat) : S1 ks (i + 1) = fun k => k = kk ks i ∨ S1 ks i k := funext fun k => propext ⟨fun ⟨j, h, e⟩ => by
    rcases Nat.lt_or_ge j i with h2 | h2
    · exact Or.inr ⟨j, h2, e⟩
    · obtain rfl : j = i := by omega
      exact Or.inl e.symm, fun h => by
    rcases h with rfl | ⟨j, h, e⟩
    · exact ⟨i, by omega, rfl⟩
    · exact ⟨j, by omega, e⟩⟩
theorem S2_step (ks : List Int) (n i : Nat) : S2 ks n (i + 1) = fun k => k = kk ks (n - 1 - i) ∨ S2 ks n i k := funext fun k => propext ⟨fun ⟨j, h, e⟩ => by
    rcases Nat.lt_or_ge j i with h2 | h2
    · exact Or.inr ⟨j, h2, e⟩
    · obtain rfl : j = i := by omega
      exact Or.inl e.symm, fun h => by
    rcases h with rfl | ⟨j, h, e⟩
    · exact ⟨i, by omega, rfl⟩
    · exact ⟨j, by omega, e⟩⟩
theorem S_all (ks : List Int) (n : Nat) : S2 ks n n = S1 ks n := funext fun k => propext ⟨fun ⟨j, h, e⟩ => ⟨n - 1 - j, by omega, e⟩, fun ⟨j, h, e⟩ => ⟨n - 1 - j, by omega, by rw [show n - 1 - (n - 1 - j) = j by omega]; exact e⟩⟩
theorem OInv.first (pr : Int → Int) : ∃ fl l, OInv pr (makeT 16).1 (fun _ => False) fl l := by
  obtain ⟨fl, l, h⟩ := TOk.of (p := (makeT 16).1) (by kernel_rfl)
  have hl : l = [] := by
    refine Classical.byContradiction fun hn => ?_
    obtain ⟨x, hx⟩ := List.exists_mem_of_ne_nil l hn
    have ht : Tr (makeT 16).1.1 (-1) l := h.tree
    obtain ⟨a, b, _, h0, _⟩ := ht.split hn
    omega
  subst hl
  exact ⟨fl, [], h, by kernel_rfl, by simp, by simp, by simp, by simp⟩
/-- the word at a place of sixteen. -/
def prs (P : List Int) (k : Int) : Int := P.getD k.toNat 0
theorem sixteen (p0 p1 p2 p3 p4 p5 p6 p7 p8 p9 p10 p11 p12 p13 p14 p15 : Int) : ∀ K : Nat, K < 16 → (#[.int .u32 p0, .int .u32 p1, .int .u32 p2, .int .u32 p3, .int .u32 p4, .int .u32 p5, .int .u32 p6, .int .u32 p7, .int .u32 p8, .int .u32 p9, .int .u32 p10, .int .u32 p11, .int .u32 p12, .int .u32 p13, .int .u32 p14, .int .u32 p15] : Array Value)[K]? = some (.int .u32 (prs ([p0, p1, p2, p3, p4, p5, p6, p7, p8, p9, p10, p11, p12, p13, p14, p15] : List Int) (K : Int)))
  | 0, _ => rfl
  | 1, _ => rfl
  | 2, _ => rfl
  | 3, _ => rfl
  | 4, _ => rfl
  | 5, _ => rfl
  | 6, _ => rfl
  | 7, _ => rfl
  | 8, _ => rfl
  | 9, _ => rfl
  | 10, _ => rfl
  | 11, _ => rfl
  | 12, _ => rfl
  | 13, _ => rfl
  | 14, _ => rfl
  | 15, _ => rfl
  | K + 16, h => absurd h (by omega)
set_option maxRecDepth 100000 in
set_option maxHeartbeats 16000000 in
theorem order9_walk (A : Option Addr) (n c : Nat) (ks : List Int) (B0 : Option Addr) (m c0 : Nat) (ds : List Int) (p0 p1 p2 p3 p4 p5 p6 p7 p8 p9 p10 p11 p12 p13 p14 p15 : Int) (w : World) (hx : Bs w A n c ks) (hy : Bs w B0 m c0 ds) :
    Calls Try.prog 6 #[.slice A n c, .slice B0 m c0, .agg #[.int .u32 p0, .int .u32 p1, .int .u32 p2, .int .u32 p3, .int .u32 p4, .int .u32 p5, .int .u32 p6, .int .u32 p7, .int .u32 p8, .int .u32 p9, .int .u32 p10, .int .u32 p11, .int .u32 p12, .int .u32 p13, .int .u32 p14, .int .u32 p15]] w fun e w' => e = .returned (.bool true) ∧ Below w.heap.size w w' := by
  have BX := Lib.hid hx; have BY := Lib.hid hy
  clear hx hy
  have HB := Lib.hid (And.intro (Below.refl w.heap.size w) (Nat.le_refl w.heap.size))
  have gq := HB.out.2
  obtain ⟨w1, hw1⟩ : ∃ W, (w.alloc (.cells #[.int .u32 p0, .int .u32 p1, .int .u32 p2, .int .u32 p3, .int .u32 p4, .int .u32 p5, .int .u32 p6, .int .u32 p7, .int .u32 p8, .int .u32 p9, .int .u32 p10, .int .u32 p11, .int .u32 p12, .int .u32 p13, .int .u32 p14, .int .u32 p15] 48)) = W := ⟨_, rfl⟩
  have hb : Below w.heap.size w w1 := hw1 ▸ ((Below.refl _ _).alloc (Nat.le_refl _) _)
  have hv0 : w1.heap[w.heap.size]? = some (.cells #[.int .u32 p0, .int .u32 p1, .int .u32 p2, .int .u32 p3, .int .u32 p4, .int .u32 p5, .int .u32 p6, .int .u32 p7, .int .u32 p8, .int .u32 p9, .int .u32 p10, .int .u32 p11, .int .u32 p12, .int .u32 p13, .int .u32 p14, .int .u32 p15] 48) := by
    have h0 := heap_alloc_new w (.cells #[.int .u32 p0, .int .u32 p1, .int .u32 p2, .int .u32 p3, .int .u32 p4, .int .u32 p5, .int .u32 p6, .int .u32 p7, .int .u32 p8, .int .u32 p9, .int .u32 p10, .int .u32 p11, .int .u32 p12, .int .u32 p13, .int .u32 p14, .int .u32 p15] 48)
    rw [show w.heap.size = w.heap.size by simp [Nat.add_assoc]] at h0
    rw [← hw1]
    exact h0
  replace HB := Lib.hid (And.intro (HB.out.1.trans (hb.mono HB.out.2)) (Nat.le_trans HB.out.2 hb.size))
  have Vp := Lib.hid hv0
  have gep := gq
  generalize hsp : w.heap.size = sp at *
  clear hb gq hv0
  subst hsp
  by_cases hn : (40 : Int) < (n : Int)
  · have b0 : decide ((40 : Int) < (n : Int)) = true := decide_eq_true hn
    clear hn
    go_enter Try.func6, Try.ntmps6
    go_wp2_with fail
    refine (alive9 _).mono ?_
    rintro e w2 ⟨rfl, hb⟩
    replace Vp := Lib.hid (blk_below Vp.out hb (blk_lt Vp.out))
    replace HB := Lib.hid (And.intro (HB.out.1.trans (hb.mono HB.out.2)) (Nat.le_trans HB.out.2 hb.size))
    clear hb
    go_wp2
    go_ret
    exact ⟨rfl, HB.out.1⟩
  · have b0 : decide ((40 : Int) < (n : Int)) = false := decide_eq_false hn
    by_cases hm : (40 : Int) < (m : Int)
    · have b1 : decide ((40 : Int) < (m : Int)) = true := decide_eq_true hm
      clear hm
      go_enter Try.func6, Try.ntmps6
      go_wp2_with fail
      refine (alive9 _).mono ?_
      rintro e w2 ⟨rfl, hb⟩
      replace Vp := Lib.hid (blk_below Vp.out hb (blk_lt Vp.out))
      replace HB := Lib.hid (And.intro (HB.out.1.trans (hb.mono HB.out.2)) (Nat.le_trans HB.out.2 hb.size))
      clear hb
      go_wp2
      go_ret
      exact ⟨rfl, HB.out.1⟩
    · have b1 : decide ((40 : Int) < (m : Int)) = false := decide_eq_false hm
      have hn1 : n ≤ 40 := by omega
      have hm1 : m ≤ 40 := by omega
      clear hm hn
      obtain ⟨pr, hpr⟩ : ∃ f, prs ([p0, p1, p2, p3, p4, p5, p6, p7, p8, p9, p10, p11, p12, p13, p14, p15] : List Int) = f := ⟨_, rfl⟩
      have HP := sixteen p0 p1 p2 p3 p4 p5 p6 p7 p8 p9 p10 p11 p12 p13 p14 p15
      rw [hpr] at HP
      replace HP := Lib.hid HP
      obtain ⟨fl0, l0, ho⟩ := OInv.first pr
      clear hpr
      obtain ⟨⟨fs, fr0, ff0⟩, hfs⟩ : ∃ F, (makeT 16).1 = F := ⟨_, rfl⟩
      rw [hfs] at ho
      have cM := Lib.hid (show ∀ W, Calls Try.prog 23 #[.int .i64 16] W (TAs w W fs fr0 ff0 0) from fun W => makeAs 16 (by decide) (by rw [← hfs]; rfl))
      have HO := Lib.hid ho
      clear ho hfs
      go_enter Try.func6, Try.ntmps6
      go_wp2_with fail
      refine (alive9 _).mono ?_
      rintro e w2 ⟨rfl, hb⟩
      replace Vp := Lib.hid (blk_below Vp.out hb (blk_lt Vp.out))
      replace HB := Lib.hid (And.intro (HB.out.1.trans (hb.mono HB.out.2)) (Nat.le_trans HB.out.2 hb.size))
      clear hb
      go_wp2_with fail
      refine (cM.out _).mono ?_
      rintro e w3 ⟨B1, m1, d1, rfl, hrs, hb⟩
      replace Vp := Lib.hid (blk_below Vp.out hb (blk_lt Vp.out))
      replace HB := Lib.hid (And.intro (HB.out.1.trans (hb.mono HB.out.2)) (Nat.le_trans HB.out.2 hb.size))
      have Ra := Lib.hid hrs
      clear hrs
      clear hb
      have ltp := blk_lt Vp.out
      have gq := HB.out.2
      obtain ⟨w4, hw4⟩ : ∃ W, (w3.alloc (.cells #[.slice B1 m1 d1, .int .i64 fr0, .int .i64 ff0] 24)) = W := ⟨_, rfl⟩
      have hb : Below w3.heap.size w3 w4 := hw4 ▸ ((Below.refl _ _).alloc (Nat.le_refl _) _)
      have hv0 : w4.heap[w3.heap.size]? = some (.cells #[.slice B1 m1 d1, .int .i64 fr0, .int .i64 ff0] 24) := by
        have h0 := heap_alloc_new w3 (.cells #[.slice B1 m1 d1, .int .i64 fr0, .int .i64 ff0] 24)
        rw [show w3.heap.size = w3.heap.size by simp [Nat.add_assoc]] at h0
        rw [← hw4]
        exact h0
      replace Vp := Lib.hid (blk_below Vp.out hb (blk_lt Vp.out))
      replace Ra := Lib.hid (Ro.below Ra.out hb)
      replace HB := Lib.hid (And.intro (HB.out.1.trans (hb.mono HB.out.2)) (Nat.le_trans HB.out.2 hb.size))
      have Va := Lib.hid hv0
      have nep_a := Nat.ne_of_lt ltp
      have gea := gq
      generalize hsa : w3.heap.size = sa at *
      clear hb gq hv0 ltp
      go_wp2_with fail
      refine (cM.out _).mono ?_
      rintro e w5 ⟨B2, m2, d2, rfl, hrs, hb⟩
      replace Vp := Lib.hid (blk_below Vp.out hb (blk_lt Vp.out))
      replace Va := Lib.hid (blk_below Va.out hb (blk_lt Va.out))
      replace Ra := Lib.hid (Ro.below Ra.out hb)
      replace HB := Lib.hid (And.intro (HB.out.1.trans (hb.mono HB.out.2)) (Nat.le_trans HB.out.2 hb.size))
      have Rb := Lib.hid hrs
      clear hrs
      clear hb
      have ltp := blk_lt Vp.out
      have lta := blk_lt Va.out
      have gq := HB.out.2
      obtain ⟨w6, hw6⟩ : ∃ W, (w5.alloc (.cells #[.slice B2 m2 d2, .int .i64 fr0, .int .i64 ff0] 24)) = W := ⟨_, rfl⟩
      have hb : Below w5.heap.size w5 w6 := hw6 ▸ ((Below.refl _ _).alloc (Nat.le_refl _) _)
      have hv0 : w6.heap[w5.heap.size]? = some (.cells #[.slice B2 m2 d2, .int .i64 fr0, .int .i64 ff0] 24) := by
        have h0 := heap_alloc_new w5 (.cells #[.slice B2 m2 d2, .int .i64 fr0, .int .i64 ff0] 24)
        rw [show w5.heap.size = w5.heap.size by simp [Nat.add_assoc]] at h0
        rw [← hw6]
        exact h0
      replace Vp := Lib.hid (blk_below Vp.out hb (blk_lt Vp.out))
      replace Va := Lib.hid (blk_below Va.out hb (blk_lt Va.out))
      replace Ra := Lib.hid (Ro.below Ra.out hb)
      replace Rb := Lib.hid (Ro.below Rb.out hb)
      replace HB := Lib.hid (And.intro (HB.out.1.trans (hb.mono HB.out.2)) (Nat.le_trans HB.out.2 hb.size))
      have Vb := Lib.hid hv0
      have nep_b := Nat.ne_of_lt ltp
      have nea_b := Nat.ne_of_lt lta
      have geb := gq
      generalize hsb : w5.heap.size = sb at *
      clear hb gq hv0 ltp lta
      clear cM
      have gea2 := gea; have geb2 := geb; have gep2 := gep; have nab := nea_b; have nap := nep_a; have nbp := nep_b
      have XA := Lib.hid (And.intro Va.out (And.intro Vb.out (And.intro Vp.out (And.intro Ra.out (And.intro Rb.out HB.out)))))
      go_wp2
      go_loopw [11, 12, 13, 14, 15, 16, 17, 18, 19] (fun iv _ _ _ _ _ _ _ _ wr => ∃ (i : Nat) (B1 : Option Addr) (m1 d1 : Nat) (n1 : List Nd) (r1 f1 : Int) (B2 : Option Addr) (m2 d2 : Nat) (n2 : List Nd) (r2 f2 : Int) (fl1 l1 fl2 l2 : List Int), iv = .int .i64 (i : Int) ∧ i ≤ n ∧ Hid (wr.heap[sa]? = some (.cells #[.slice B1 m1 d1, .int .i64 r1, .int .i64 f1] 24)) ∧ Hid (wr.heap[sb]? = some (.cells #[.slice B2 m2 d2, .int .i64 r2, .int .i64 f2] 24)) ∧ Hid (wr.heap[w.heap.size]? = some (.cells #[.int .u32 p0, .int .u32 p1, .int .u32 p2, .int .u32 p3, .int .u32 p4, .int .u32 p5, .int .u32 p6, .int .u32 p7, .int .u32 p8, .int .u32 p9, .int .u32 p10, .int .u32 p11, .int .u32 p12, .int .u32 p13, .int .u32 p14, .int .u32 p15] 48)) ∧ Hid (Rn w wr B1 m1 d1 n1) ∧ Hid (Rn w wr B2 m2 d2 n2) ∧ Hid (OInv pr (n1, r1, f1) (S1 ks i) fl1 l1) ∧ Hid (OInv pr (n2, r2, f2) (S2 ks n i) fl2 l2) ∧ Hid (Below w.heap.size w wr ∧ w.heap.size ≤ wr.heap.size)) (fun iv _ _ _ _ _ _ _ _ _ => n - (intOf iv).toNat)
      case atStart => exact ⟨0, _, _, _, _, _, _, _, _, _, _, _, _, _, _, _, _, rfl, by omega, Va.out, Vb.out, Vp.out, Ra.out, Rb.out, by rw [S1_first]; exact HO.out, by rw [S2_first]; exact HO.out, HB.out⟩
      case round =>
        clear Va Vb Vp Ra Rb HO HB gea geb gep XA
        obtain ⟨i, B1, m1, d1, n1, r1, f1, B2, m2, d2, n2, r2, f2, fl1, l1, fl2, l2, rfl, hi, Va, Vb, Vp, Ra, Rb, O1, O2, HB⟩ := hrel
        have gea := gea2; have geb := geb2; have gep := gep2
        have HM1 := Lib.hid (show m1 = 16 from by have h1 := Ra.out.es.len; rw [ndC_len] at h1; have h2 := O1.out.len; simp only at h2; omega)
        have HM2 := Lib.hid (show m2 = 16 from by have h1 := Rb.out.es.len; rw [ndC_len] at h1; have h2 := O2.out.len; simp only at h2; omega)
        by_cases hlt : i < n
        · have c1 : decide ((i : Int) < (n : Int)) = true := by simpa using hlt
          have i0 : (0 : Int) ≤ (i : Int) := by omega
          have i1 : (i : Int) < (n : Int) := by omega
          obtain ⟨bk, offk, yk, ek_, hbk, hck, y0k, y1k, _, hgk⟩ := (Bs.below BX.out HB.out.1).look i (by omega)
          obtain ⟨Kk, hKk⟩ : ∃ K : Nat, yk % 16 = K := ⟨(yk % 16).toNat, by omega⟩
          have hk16k : Kk < 16 := by omega
          have hkkk : kk ks (i) = (Kk : Int) := by unfold kk; rw [hgk, hKk]
          have htk : yk.tmod 16 = (Kk : Int) := by rw [Int.tmod_eq_emod_of_nonneg y0k]; exact hKk
          have hwuk : IntKind.u8.wrap (Kk : Int) = (Kk : Int) := by rw [IntKind.wrap_u8]; omega
          have hwik : IntKind.i64.wrap (Kk : Int) = (Kk : Int) := by rw [IntKind.wrap_i64]; omega
          have k0k : (0 : Int) ≤ (Kk : Int) := by omega
          have k1k : (Kk : Int) < 16 := by omega
          clear hgk
          subst ek_
          obtain ⟨⟨n3, r3, f3⟩, pl, er, fl3, l3, he, her, ho3⟩ := O1.out.ins (k := (Kk : Int)) k0k k1k
          obtain ⟨qk, hqk⟩ : ∃ x, pr (Kk : Int) = x := ⟨_, rfl⟩
          rw [hqk] at he
          have cpk : wr.cell? ⟨w.heap.size, Kk, none⟩ = some (.int .u32 qk) := (blk_cell Vp.out Kk).trans (hqk ▸ HP.out Kk hk16k)
          rw [← hkkk, ← S1_step] at ho3
          have O3 := Lib.hid ho3
          have HER := Lib.hid her
          have CT := Lib.hid (show ∀ W, Rn w W B1 m1 d1 n1 → Calls Try.prog 9 #[.agg #[.slice B1 m1 d1, .int .i64 r1, .int .i64 f1], .int .i64 (Kk : Int), .int .u32 qk] W (IAs w W n3 r3 f3 pl er) from fun W h => insAs (Kk : Int) qk h (by have := HM1.out; omega) he)
          clear he her ho3 hqk hkkk hlt
          have HCK := Lib.hid hck; have HCP := Lib.hid cpk
          have hbk2 := hbk
          have ltp2 := blk_lt Vp.out
          have gw0 := HB.out.2
          generalize hg0 : wr.heap.size = g0 at *
          have BZ := Lib.hid (show ∀ X, Below g0 wr X → Below wr.heap.size wr X from fun X h => by rw [hg0]; exact h)
          have HS : Below g0 wr wr := by have h := Below.refl wr.heap.size wr; rwa [hg0] at h
          go_upto_region 13 with fail
          go_cut [13, 14, 15] from 49 to 104 (fun s13 s14 s15 wx => ∃ (sX : Nat) (B3 : Option Addr) (m3 d3 : Nat), s13 = .pointer (some ⟨sX, 0, none⟩) ∧ s14 = .int .i64 pl ∧ s15 = .int .i64 er ∧ Hid (wx.heap[sX]? = some (.cells #[.slice B3 m3 d3, .int .i64 r3, .int .i64 f3] 24)) ∧ Hid (Rn w wx B3 m3 d3 n3) ∧ Hid (Below g0 wr wx) ∧ g0 ≤ sX)
          case first => as_aux_lemma =>
            refine wp_region_noPanic ?_
            refine wp_region_held_drew (S := (fun wv => Below g0 wr wv)) (by kernel_rfl) (HS.drew) (fun hS => ?_)
            refine wpAnyH_take (i := 0) (oi := ⟨some 62, .load 24 (.tmp 7), 24, "law.go:94", #[], none⟩) (v := .agg (([.slice B1 m1 d1, .int .i64 r1, .int .i64 f1] : List Value)).toArray) rfl (by kernel_rfl) (by kernel_rfl) (by kernel_rfl) (fun _ _ _ h => h) (yieldsIf_load_mid (by rfl) _ _ (by rfl) (sa) (0) (by rfl) (([.slice B1 m1 d1, .int .i64 r1, .int .i64 f1] : List Value)) _ (fun wv hS => blk_rngl (blk_below Va.out (BZ.out _ hS) (blk_lt Va.out))) Try.underlying24 (by rfl) (by kernel_rfl)) hS ?_
            try simp only [Act.put, List.setIfInBounds_toArray, List.set_cons_zero, List.set_cons_succ]
            refine wpAnyH_take (i := 1) (oi := ⟨some 63, .move (.tmp 12), 3, "law.go:94", #[], none⟩) (v := ?_) rfl (by kernel_rfl) (by kernel_rfl) (by kernel_rfl) (fun _ _ _ h => h) (Or.inl ⟨by rfl, ?_⟩) hS ?_
            rotate_left
            · intro wv _; go_simp; try with_reducible rfl
            try simp only [Act.put, List.setIfInBounds_toArray, List.set_cons_zero, List.set_cons_succ]
            refine wpAnyH_take (i := 2) (oi := ⟨some 64, .move (.tmp 12), 3, "law.go:94", #[], none⟩) (v := ?_) rfl (by kernel_rfl) (by kernel_rfl) (by kernel_rfl) (fun _ _ _ h => h) (Or.inl ⟨by rfl, ?_⟩) hS ?_
            rotate_left
            · intro wv _; go_simp; try with_reducible rfl
            try simp only [Act.put, List.setIfInBounds_toArray, List.set_cons_zero, List.set_cons_succ]
            refine wpAnyH_take (i := 3) (oi := ⟨some 65, .indexAddr 48 (.tmp 5) (.tmp 64), 0, "law.go:94", #[⟨2, .data⟩], none⟩) (v := ?_) rfl (by kernel_rfl) (by kernel_rfl) (by kernel_rfl) (fun _ _ _ h => h) (Or.inl ⟨by rfl, ?_⟩) hS ?_
            rotate_left
            · intro wv _; go_simp; try with_reducible rfl
            try simp only [Act.put, List.setIfInBounds_toArray, List.set_cons_zero, List.set_cons_succ]
            refine wpAnyH_take (i := 4) (oi := ⟨some 66, .load 25 (.tmp 65), 25, "law.go:94", #[⟨3, .data⟩], none⟩) (v := ?_) rfl (by kernel_rfl) (by kernel_rfl) (by kernel_rfl) (fun _ _ _ h => h) (Or.inl ⟨by rfl, ?_⟩) hS ?_
            rotate_left
            · intro wv hS; have hrun := ((BZ.out _ hS).cell (p := ⟨w.heap.size, Kk, none⟩) (by rw [hg0]; exact ltp2)).trans HCP.out; go_simp; try with_reducible rfl
            try simp only [Act.put, List.setIfInBounds_toArray, List.set_cons_zero, List.set_cons_succ]
            refine wpAnyH_ready (rs := [5, 10]) (by kernel_rfl) (by simp) (AllReadyH.cons (o := ⟨some 67, .call { callee := .value (.func 9), args := #[.tmp 62, .tmp 63, .tmp 66], argTypes := #[24, 3, 25] }, 29, "law.go:94", #[⟨0, .data⟩, ⟨1, .data⟩, ⟨4, .data⟩], none⟩) rfl (fun K hK => ?_) (AllReadyH.cons (o := ⟨some 13, .alloc 24, 0, "law.go:94", #[], none⟩) rfl (fun K hK => ?_) AllReadyH.nil))
            ·
             go_simp
             have HSw : Below g0 wr wr.drew := HS.drew
             refine (CT.out wr.drew (Ro.below Ra.out (BZ.out _ HSw))).mono ?_
             rintro e wg ⟨B3, m3, d3, rfl, hrr, hb⟩
             have zs : g0 ≤ wr.drew.heap.size := by have h1 := HSw.size; rw [hg0] at h1; exact h1
             have RX := hrr
             replace HS := HSw.trans (hb.mono zs)
             clear HSw hb hrr zs
             replace hS := HS
             go_wp2_with fail
             refine Shut.out hK _ _ hS (fun _ => ?_)
             clear hK K
             try simp only [Act.put, List.setIfInBounds_toArray, List.set_cons_zero, List.set_cons_succ]
             refine wpAnyH_take (i := 6) (oi := ⟨some 61, .move (.tmp 67), 29, "law.go:94", #[⟨5, .data⟩], none⟩) (v := ?_) rfl (by kernel_rfl) (by kernel_rfl) (by kernel_rfl) (fun _ _ _ h => h) (Or.inl ⟨by rfl, ?_⟩) hS ?_
             rotate_left
             · intro wv _; go_simp; try with_reducible rfl
             try simp only [Act.put, List.setIfInBounds_toArray, List.set_cons_zero, List.set_cons_succ]
             refine wpAnyH_take (i := 7) (oi := ⟨some 68, .extract (.tmp 61) 0, 24, "law.go:94", #[⟨6, .data⟩], none⟩) (v := ?_) rfl (by kernel_rfl) (by kernel_rfl) (by kernel_rfl) (fun _ _ _ h => h) (Or.inl ⟨by rfl, ?_⟩) hS ?_
             rotate_left
             · intro wv _; go_simp; try with_reducible rfl
             try simp only [Act.put, List.setIfInBounds_toArray, List.set_cons_zero, List.set_cons_succ]
             refine wpAnyH_take (i := 8) (oi := ⟨some 69, .extract (.tmp 61) 1, 3, "law.go:94", #[⟨6, .data⟩, ⟨11, .gcOnly .lateStores⟩], none⟩) (v := ?_) rfl (by kernel_rfl) (by kernel_rfl) (by kernel_rfl) (fun _ _ _ h => h) (Or.inl ⟨by rfl, ?_⟩) hS ?_
             rotate_left
             · intro wv _; go_simp; try with_reducible rfl
             try simp only [Act.put, List.setIfInBounds_toArray, List.set_cons_zero, List.set_cons_succ]
             refine wpAnyH_take (i := 9) (oi := ⟨some 70, .extract (.tmp 61) 2, 28, "law.go:94", #[⟨6, .data⟩, ⟨12, .gcOnly .lateStores⟩], none⟩) (v := ?_) rfl (by kernel_rfl) (by kernel_rfl) (by kernel_rfl) (fun _ _ _ h => h) (Or.inl ⟨by rfl, ?_⟩) hS ?_
             rotate_left
             · intro wv _; go_simp; try with_reducible rfl
             try simp only [Act.put, List.setIfInBounds_toArray, List.set_cons_zero, List.set_cons_succ]
             refine wpAnyH_ready (rs := [10]) (by kernel_rfl) (by simp) (AllReadyH.cons (o := ⟨some 13, .alloc 24, 0, "law.go:94", #[], none⟩) rfl (fun K hK => ?_) AllReadyH.nil)
             go_simp
             have zs : g0 ≤ wg.heap.size := by have h1 := HS.size; rw [hg0] at h1; exact h1
             have bd : Below wg.heap.size wg (wg.alloc (.cells #[.slice none 0 0, .int .i64 0, .int .i64 0] 24)) := (Below.refl _ _).alloc (Nat.le_refl _) _
             replace RX := Ro.below RX bd
             have VX : (wg.alloc (.cells #[.slice none 0 0, .int .i64 0, .int .i64 0] 24)).heap[wg.heap.size]? = some (.cells #[.slice none 0 0, .int .i64 0, .int .i64 0] 24) := heap_alloc_new _ _
             have geX : g0 ≤ wg.heap.size := zs
             replace HS := HS.trans (bd.mono zs)
             clear bd zs
             generalize wg.alloc (.cells #[.slice none 0 0, .int .i64 0, .int .i64 0] 24) = y1_ at *
             generalize hsX_ : wg.heap.size = sX at *
             replace hS := HS
             have cx0 : y1_.cell? ⟨sX, 0, none⟩ = some (.slice none 0 0) := (blk_cell VX 0).trans rfl
             have fx0 : y1_.frozen? ⟨sX, 0, none⟩ = false := blk_frozen VX 0
             have cx1 : y1_.cell? ⟨sX, 1, none⟩ = some (.int .i64 0) := (blk_cell VX 1).trans rfl
             have fx1 : y1_.frozen? ⟨sX, 1, none⟩ = false := blk_frozen VX 1
             have cx2 : y1_.cell? ⟨sX, 2, none⟩ = some (.int .i64 0) := (blk_cell VX 2).trans rfl
             have fx2 : y1_.frozen? ⟨sX, 2, none⟩ = false := blk_frozen VX 2
             go_wp2_with fail
             refine Shut.out hK _ _ hS (fun _ => ?_)
             clear hK K
             try simp only [Act.put, List.setIfInBounds_toArray, List.set_cons_zero, List.set_cons_succ]
             refine wpAnyH_ready (rs := [11]) (by kernel_rfl) (by simp) (AllReadyH.cons (o := ⟨none, .store 24 (.tmp 13) (.tmp 68), 0, "law.go:94", #[⟨10, .data⟩, ⟨7, .data⟩, ⟨5, .chain⟩, ⟨0, .phase⟩, ⟨1, .phase⟩, ⟨2, .phase⟩, ⟨3, .phase⟩, ⟨4, .phase⟩, ⟨5, .phase⟩, ⟨6, .phase⟩, ⟨7, .phase⟩, ⟨8, .textOnly .lateStores⟩, ⟨9, .textOnly .lateStores⟩, ⟨10, .phase⟩], none⟩) rfl (fun K hK => ?_) AllReadyH.nil)
             go_simp
             have VX2 := (blk_set (j := 2) (blk_set (j := 1) (blk_set (j := 0) VX (.slice B3 m3 d3)) (.int .i64 r3)) (.int .i64 f3))
             have RX2 := (Ro.set (o := 2) (u := .int .i64 f3) (Ro.set (o := 1) (u := .int .i64 r3) (Ro.set (o := 0) (u := .slice B3 m3 d3) RX VX (by decide) (Nat.le_trans gw0 geX)) (blk_set (j := 0) VX (.slice B3 m3 d3)) (by decide) (Nat.le_trans gw0 geX)) (blk_set (j := 1) (blk_set (j := 0) VX (.slice B3 m3 d3)) (.int .i64 r3)) (by decide) (Nat.le_trans gw0 geX))
             have HS2 := (Below.setCell (Below.setCell (Below.setCell HS (p := ⟨sX, 0, none⟩) (show g0 ≤ sX from geX) (.slice B3 m3 d3)) (p := ⟨sX, 1, none⟩) (show g0 ≤ sX from geX) (.int .i64 r3)) (p := ⟨sX, 2, none⟩) (show g0 ≤ sX from geX) (.int .i64 f3))
             clear VX RX HS hS cx0 cx1 cx2 fx0 fx1 fx2
             generalize (((y1_.setCell ⟨sX, 0, none⟩ (.slice B3 m3 d3)).setCell ⟨sX, 1, none⟩ (.int .i64 r3)).setCell ⟨sX, 2, none⟩ (.int .i64 f3)) = z_ at *
             have VX : z_.heap[sX]? = some (.cells #[.slice B3 m3 d3, .int .i64 r3, .int .i64 f3] 24) := VX2
             have RX := RX2; have HS := HS2; have hS := HS2
             clear VX2 RX2 HS2
             refine Shut.out hK _ _ hS (fun _ => ?_)
             clear hK K
             try simp only [Act.put, List.setIfInBounds_toArray, List.set_cons_zero, List.set_cons_succ]
             refine wpAnyH_take (i := 12) (oi := ⟨some 14, .assign (.tmp 69), 3, "law.go:94", #[⟨8, .data⟩, ⟨11, .chain⟩, ⟨0, .phase⟩, ⟨1, .phase⟩, ⟨2, .phase⟩, ⟨3, .phase⟩, ⟨4, .phase⟩, ⟨5, .phase⟩, ⟨6, .phase⟩, ⟨7, .phase⟩, ⟨8, .phase⟩, ⟨9, .textOnly .lateStores⟩, ⟨10, .phase⟩, ⟨11, .phase⟩], none⟩) (v := ?_) rfl (by kernel_rfl) (by kernel_rfl) (by kernel_rfl) (fun _ _ _ h => h) (Or.inl ⟨by rfl, ?_⟩) hS ?_
             rotate_left
             · intro wv _; go_simp; try with_reducible rfl
             try simp only [Act.put, List.setIfInBounds_toArray, List.set_cons_zero, List.set_cons_succ]
             refine wpAnyH_take (i := 13) (oi := ⟨some 15, .assign (.tmp 70), 28, "law.go:94", #[⟨9, .data⟩, ⟨12, .chain⟩, ⟨0, .phase⟩, ⟨1, .phase⟩, ⟨2, .phase⟩, ⟨3, .phase⟩, ⟨4, .phase⟩, ⟨5, .phase⟩, ⟨6, .phase⟩, ⟨7, .phase⟩, ⟨8, .phase⟩, ⟨9, .phase⟩, ⟨10, .phase⟩, ⟨11, .phase⟩, ⟨12, .phase⟩], none⟩) (v := ?_) rfl (by kernel_rfl) (by kernel_rfl) (by kernel_rfl) (fun _ _ _ h => h) (Or.inl ⟨by rfl, ?_⟩) hS ?_
             rotate_left
             · intro wv _; go_simp; try with_reducible rfl
             try simp only [Act.put, List.setIfInBounds_toArray, List.set_cons_zero, List.set_cons_succ]
             refine wpAnyH_done (by kernel_rfl) ?_ _
             refine NoPanic.normal ?_
             go_wp2_with fail
             go_meet
             exact ⟨sX, B3, m3, d3, rfl, rfl, rfl, Lib.hid VX, Lib.hid RX, Lib.hid HS, geX⟩
            ·
             go_simp
             have zs : g0 ≤ g0 := Nat.le_refl _
             have bd : Below g0 wr (wr.alloc (.cells #[.slice none 0 0, .int .i64 0, .int .i64 0] 24)) := by have h := (Below.refl wr.heap.size wr).alloc (Nat.le_refl _) (.cells #[.slice none 0 0, .int .i64 0, .int .i64 0] 24); rwa [hg0] at h
             have VX : (wr.alloc (.cells #[.slice none 0 0, .int .i64 0, .int .i64 0] 24)).heap[g0]? = some (.cells #[.slice none 0 0, .int .i64 0, .int .i64 0] 24) := by have h := heap_alloc_new wr (.cells #[.slice none 0 0, .int .i64 0, .int .i64 0] 24); rw [hg0] at h; exact h
             have geX : g0 ≤ g0 := zs
             replace HS := HS.trans (bd.mono zs)
             clear bd zs
             generalize wr.alloc (.cells #[.slice none 0 0, .int .i64 0, .int .i64 0] 24) = y1_ at *
             replace hS := HS.drew
             go_wp2_with fail
             refine Shut.out hK _ _ hS (fun _ => ?_)
             clear hK K
             try simp only [Act.put, List.setIfInBounds_toArray, List.set_cons_zero, List.set_cons_succ]
             refine wpAnyH_ready (rs := [5]) (by kernel_rfl) (by simp) (AllReadyH.cons (o := ⟨some 67, .call { callee := .value (.func 9), args := #[.tmp 62, .tmp 63, .tmp 66], argTypes := #[24, 3, 25] }, 29, "law.go:94", #[⟨0, .data⟩, ⟨1, .data⟩, ⟨4, .data⟩], none⟩) rfl (fun K hK => ?_) AllReadyH.nil)
             go_simp
             have HSw : Below g0 wr y1_.drew := HS.drew
             refine (CT.out y1_.drew (Ro.below Ra.out (BZ.out _ HSw))).mono ?_
             rintro e wg ⟨B3, m3, d3, rfl, hrr, hb⟩
             have zs : g0 ≤ y1_.drew.heap.size := by have h1 := HSw.size; rw [hg0] at h1; exact h1
             replace VX := blk_below (show y1_.drew.heap[_]? = _ from VX) hb (blk_lt VX)
             have RX := hrr
             replace HS := HSw.trans (hb.mono zs)
             clear HSw hb hrr zs
             replace hS := HS
             have cx0 : wg.cell? ⟨g0, 0, none⟩ = some (.slice none 0 0) := (blk_cell VX 0).trans rfl
             have fx0 : wg.frozen? ⟨g0, 0, none⟩ = false := blk_frozen VX 0
             have cx1 : wg.cell? ⟨g0, 1, none⟩ = some (.int .i64 0) := (blk_cell VX 1).trans rfl
             have fx1 : wg.frozen? ⟨g0, 1, none⟩ = false := blk_frozen VX 1
             have cx2 : wg.cell? ⟨g0, 2, none⟩ = some (.int .i64 0) := (blk_cell VX 2).trans rfl
             have fx2 : wg.frozen? ⟨g0, 2, none⟩ = false := blk_frozen VX 2
             go_wp2_with fail
             refine Shut.out hK _ _ hS (fun _ => ?_)
             clear hK K
             try simp only [Act.put, List.setIfInBounds_toArray, List.set_cons_zero, List.set_cons_succ]
             refine wpAnyH_take (i := 6) (oi := ⟨some 61, .move (.tmp 67), 29, "law.go:94", #[⟨5, .data⟩], none⟩) (v := ?_) rfl (by kernel_rfl) (by kernel_rfl) (by kernel_rfl) (fun _ _ _ h => h) (Or.inl ⟨by rfl, ?_⟩) hS ?_
             rotate_left
             · intro wv _; go_simp; try with_reducible rfl
             try simp only [Act.put, List.setIfInBounds_toArray, List.set_cons_zero, List.set_cons_succ]
             refine wpAnyH_take (i := 7) (oi := ⟨some 68, .extract (.tmp 61) 0, 24, "law.go:94", #[⟨6, .data⟩], none⟩) (v := ?_) rfl (by kernel_rfl) (by kernel_rfl) (by kernel_rfl) (fun _ _ _ h => h) (Or.inl ⟨by rfl, ?_⟩) hS ?_
             rotate_left
             · intro wv _; go_simp; try with_reducible rfl
             try simp only [Act.put, List.setIfInBounds_toArray, List.set_cons_zero, List.set_cons_succ]
             refine wpAnyH_take (i := 8) (oi := ⟨some 69, .extract (.tmp 61) 1, 3, "law.go:94", #[⟨6, .data⟩, ⟨11, .gcOnly .lateStores⟩], none⟩) (v := ?_) rfl (by kernel_rfl) (by kernel_rfl) (by kernel_rfl) (fun _ _ _ h => h) (Or.inl ⟨by rfl, ?_⟩) hS ?_
             rotate_left
             · intro wv _; go_simp; try with_reducible rfl
             try simp only [Act.put, List.setIfInBounds_toArray, List.set_cons_zero, List.set_cons_succ]
             refine wpAnyH_take (i := 9) (oi := ⟨some 70, .extract (.tmp 61) 2, 28, "law.go:94", #[⟨6, .data⟩, ⟨12, .gcOnly .lateStores⟩], none⟩) (v := ?_) rfl (by kernel_rfl) (by kernel_rfl) (by kernel_rfl) (fun _ _ _ h => h) (Or.inl ⟨by rfl, ?_⟩) hS ?_
             rotate_left
             · intro wv _; go_simp; try with_reducible rfl
             try simp only [Act.put, List.setIfInBounds_toArray, List.set_cons_zero, List.set_cons_succ]
             refine wpAnyH_ready (rs := [11]) (by kernel_rfl) (by simp) (AllReadyH.cons (o := ⟨none, .store 24 (.tmp 13) (.tmp 68), 0, "law.go:94", #[⟨10, .data⟩, ⟨7, .data⟩, ⟨5, .chain⟩, ⟨0, .phase⟩, ⟨1, .phase⟩, ⟨2, .phase⟩, ⟨3, .phase⟩, ⟨4, .phase⟩, ⟨5, .phase⟩, ⟨6, .phase⟩, ⟨7, .phase⟩, ⟨8, .textOnly .lateStores⟩, ⟨9, .textOnly .lateStores⟩, ⟨10, .phase⟩], none⟩) rfl (fun K hK => ?_) AllReadyH.nil)
             go_simp
             have VX2 := (blk_set (j := 2) (blk_set (j := 1) (blk_set (j := 0) VX (.slice B3 m3 d3)) (.int .i64 r3)) (.int .i64 f3))
             have RX2 := (Ro.set (o := 2) (u := .int .i64 f3) (Ro.set (o := 1) (u := .int .i64 r3) (Ro.set (o := 0) (u := .slice B3 m3 d3) RX VX (by decide) (Nat.le_trans gw0 geX)) (blk_set (j := 0) VX (.slice B3 m3 d3)) (by decide) (Nat.le_trans gw0 geX)) (blk_set (j := 1) (blk_set (j := 0) VX (.slice B3 m3 d3)) (.int .i64 r3)) (by decide) (Nat.le_trans gw0 geX))
             have HS2 := (Below.setCell (Below.setCell (Below.setCell HS (p := ⟨g0, 0, none⟩) (show g0 ≤ g0 from geX) (.slice B3 m3 d3)) (p := ⟨g0, 1, none⟩) (show g0 ≤ g0 from geX) (.int .i64 r3)) (p := ⟨g0, 2, none⟩) (show g0 ≤ g0 from geX) (.int .i64 f3))
             clear VX RX HS hS cx0 cx1 cx2 fx0 fx1 fx2
             generalize (((wg.setCell ⟨g0, 0, none⟩ (.slice B3 m3 d3)).setCell ⟨g0, 1, none⟩ (.int .i64 r3)).setCell ⟨g0, 2, none⟩ (.int .i64 f3)) = z_ at *
             have VX : z_.heap[g0]? = some (.cells #[.slice B3 m3 d3, .int .i64 r3, .int .i64 f3] 24) := VX2
             have RX := RX2; have HS := HS2; have hS := HS2
             clear VX2 RX2 HS2
             refine Shut.out hK _ _ hS (fun _ => ?_)
             clear hK K
             try simp only [Act.put, List.setIfInBounds_toArray, List.set_cons_zero, List.set_cons_succ]
             refine wpAnyH_take (i := 12) (oi := ⟨some 14, .assign (.tmp 69), 3, "law.go:94", #[⟨8, .data⟩, ⟨11, .chain⟩, ⟨0, .phase⟩, ⟨1, .phase⟩, ⟨2, .phase⟩, ⟨3, .phase⟩, ⟨4, .phase⟩, ⟨5, .phase⟩, ⟨6, .phase⟩, ⟨7, .phase⟩, ⟨8, .phase⟩, ⟨9, .textOnly .lateStores⟩, ⟨10, .phase⟩, ⟨11, .phase⟩], none⟩) (v := ?_) rfl (by kernel_rfl) (by kernel_rfl) (by kernel_rfl) (fun _ _ _ h => h) (Or.inl ⟨by rfl, ?_⟩) hS ?_
             rotate_left
             · intro wv _; go_simp; try with_reducible rfl
             try simp only [Act.put, List.setIfInBounds_toArray, List.set_cons_zero, List.set_cons_succ]
             refine wpAnyH_take (i := 13) (oi := ⟨some 15, .assign (.tmp 70), 28, "law.go:94", #[⟨9, .data⟩, ⟨12, .chain⟩, ⟨0, .phase⟩, ⟨1, .phase⟩, ⟨2, .phase⟩, ⟨3, .phase⟩, ⟨4, .phase⟩, ⟨5, .phase⟩, ⟨6, .phase⟩, ⟨7, .phase⟩, ⟨8, .phase⟩, ⟨9, .phase⟩, ⟨10, .phase⟩, ⟨11, .phase⟩, ⟨12, .phase⟩], none⟩) (v := ?_) rfl (by kernel_rfl) (by kernel_rfl) (by kernel_rfl) (fun _ _ _ h => h) (Or.inl ⟨by rfl, ?_⟩) hS ?_
             rotate_left
             · intro wv _; go_simp; try with_reducible rfl
             try simp only [Act.put, List.setIfInBounds_toArray, List.set_cons_zero, List.set_cons_succ]
             refine wpAnyH_done (by kernel_rfl) ?_ _
             refine NoPanic.normal ?_
             go_wp2_with fail
             go_meet
             exact ⟨g0, B3, m3, d3, rfl, rfl, rfl, Lib.hid VX, Lib.hid RX, Lib.hid HS, geX⟩
          case rest =>
          obtain ⟨sx, B3, m3, d3, rfl, rfl, rfl, Vx, Rx, hS, gex0⟩ := hcut
          obtain ⟨wd13, hwd⟩ : ∃ x, x = wc := ⟨_, rfl⟩
          subst hwd
          have hb := BZ.out _ hS.out
          have ltp_ := blk_lt Vp.out
          rw [hg0] at ltp_
          have nep_x : w.heap.size ≠ sx := by omega
          have lta_ := blk_lt Va.out
          rw [hg0] at lta_
          have nea_x : sa ≠ sx := by omega
          have ltb_ := blk_lt Vb.out
          rw [hg0] at ltb_
          have neb_x : sb ≠ sx := by omega
          have gex : w.heap.size ≤ sx := Nat.le_trans gw0 gex0
          replace HB := Lib.hid (show Below w.heap.size w wr ∧ w.heap.size ≤ wr.heap.size from ⟨HB.out.1, by rw [hg0]; exact HB.out.2⟩)
          clear hck cpk HCK HCP hbk hbk2 ltp2
          replace Vp := Lib.hid (blk_below Vp.out hb (blk_lt Vp.out))
          replace Va := Lib.hid (blk_below Va.out hb (blk_lt Va.out))
          replace Vb := Lib.hid (blk_below Vb.out hb (blk_lt Vb.out))
          replace Ra := Lib.hid (Ro.below Ra.out hb)
          replace Rb := Lib.hid (Ro.below Rb.out hb)
          replace HB := Lib.hid (And.intro (HB.out.1.trans (hb.mono HB.out.2)) (Nat.le_trans HB.out.2 hb.size))
          clear hb BZ HS hS gw0 CT ltp_ lta_ ltb_ gex0 hg0
          rcases HER.out with rfl | rfl
          · clear HER
            obtain ⟨j, hj⟩ : ∃ j : Nat, (n : Int) - 1 - (i : Int) = (j : Int) := ⟨n - 1 - i, by omega⟩
            have hj2 : j = n - 1 - i := by omega
            have hw9 : IntKind.i64.wrap ((n : Int) - 1) = (n : Int) - 1 := by rw [IntKind.wrap_i64]; omega
            have hw8 : IntKind.i64.wrap ((n : Int) - 1 - (i : Int)) = (j : Int) := by rw [IntKind.wrap_i64]; omega
            have j0 : (0 : Int) ≤ (j : Int) := by omega
            have j1 : (j : Int) < (n : Int) := by omega
            obtain ⟨bq, offq, yq, eq_, hbq, hcq, y0q, y1q, _, hgq⟩ := (Bs.below BX.out HB.out.1).look j (by omega)
            obtain ⟨Kq, hKq⟩ : ∃ K : Nat, yq % 16 = K := ⟨(yq % 16).toNat, by omega⟩
            have hk16q : Kq < 16 := by omega
            have hkkq : kk ks (j) = (Kq : Int) := by unfold kk; rw [hgq, hKq]
            have htq : yq.tmod 16 = (Kq : Int) := by rw [Int.tmod_eq_emod_of_nonneg y0q]; exact hKq
            have hwuq : IntKind.u8.wrap (Kq : Int) = (Kq : Int) := by rw [IntKind.wrap_u8]; omega
            have hwiq : IntKind.i64.wrap (Kq : Int) = (Kq : Int) := by rw [IntKind.wrap_i64]; omega
            have k0q : (0 : Int) ≤ (Kq : Int) := by omega
            have k1q : (Kq : Int) < 16 := by omega
            clear hgq
            injection eq_ with eq1
            injection eq1 with eq2 eq3
            subst eq2; subst eq3
            obtain ⟨⟨n4, r4, f4⟩, pl4, er4, fl4, l4, he, her, ho4⟩ := O2.out.ins (k := (Kq : Int)) k0q k1q
            obtain ⟨qq, hqq⟩ : ∃ x, pr (Kq : Int) = x := ⟨_, rfl⟩
            rw [hqq] at he
            have cpq : wd13.cell? ⟨w.heap.size, Kq, none⟩ = some (.int .u32 qq) := (blk_cell Vp.out Kq).trans (hqq ▸ HP.out Kq hk16q)
            rw [← hkkq, hj2, ← S2_step] at ho4
            have O4 := Lib.hid ho4
            have HER := Lib.hid her
            have CT := Lib.hid (show ∀ W, Rn w W B2 m2 d2 n2 → Calls Try.prog 9 #[.agg #[.slice B2 m2 d2, .int .i64 r2, .int .i64 f2], .int .i64 (Kq : Int), .int .u32 qq] W (IAs w W n4 r4 f4 pl4 er4) from fun W h => insAs (Kq : Int) qq h (by have := HM2.out; omega) he)
            clear he her ho4 hqq hkkq hj hj2
            have HCK := Lib.hid hcq; have HCP := Lib.hid cpq
            have hbk2 := hbq
            have ltp2 := blk_lt Vp.out
            have gw0 := HB.out.2
            generalize hg0 : wd13.heap.size = g0 at *
            have BZ := Lib.hid (show ∀ X, Below g0 wd13 X → Below wd13.heap.size wd13 X from fun X h => by rw [hg0]; exact h)
            have HS : Below g0 wd13 wd13 := by have h := Below.refl wd13.heap.size wd13; rwa [hg0] at h
            go_upto_region 17 with fail
            go_cut [17, 18, 19] from 49 to 104 (fun s17 s18 s19 wx => ∃ (sX : Nat) (B4 : Option Addr) (m4 d4 : Nat), s17 = .pointer (some ⟨sX, 0, none⟩) ∧ s18 = .int .i64 pl4 ∧ s19 = .int .i64 er4 ∧ Hid (wx.heap[sX]? = some (.cells #[.slice B4 m4 d4, .int .i64 r4, .int .i64 f4] 24)) ∧ Hid (Rn w wx B4 m4 d4 n4) ∧ Hid (Below g0 wd13 wx) ∧ g0 ≤ sX)
            case first => as_aux_lemma =>
              refine wp_region_noPanic ?_
              refine wp_region_held_drew (S := (fun wv => Below g0 wd13 wv)) (by kernel_rfl) (HS.drew) (fun hS => ?_)
              refine wpAnyH_take (i := 0) (oi := ⟨some 88, .load 24 (.tmp 9), 24, "law.go:100", #[], none⟩) (v := .agg (([.slice B2 m2 d2, .int .i64 r2, .int .i64 f2] : List Value)).toArray) rfl (by kernel_rfl) (by kernel_rfl) (by kernel_rfl) (fun _ _ _ h => h) (yieldsIf_load_mid (by rfl) _ _ (by rfl) (sb) (0) (by rfl) (([.slice B2 m2 d2, .int .i64 r2, .int .i64 f2] : List Value)) _ (fun wv hS => blk_rngl (blk_below Vb.out (BZ.out _ hS) (blk_lt Vb.out))) Try.underlying24 (by rfl) (by kernel_rfl)) hS ?_
              try simp only [Act.put, List.setIfInBounds_toArray, List.set_cons_zero, List.set_cons_succ]
              refine wpAnyH_take (i := 1) (oi := ⟨some 89, .move (.tmp 16), 3, "law.go:100", #[], none⟩) (v := ?_) rfl (by kernel_rfl) (by kernel_rfl) (by kernel_rfl) (fun _ _ _ h => h) (Or.inl ⟨by rfl, ?_⟩) hS ?_
              rotate_left
              · intro wv _; go_simp; try with_reducible rfl
              try simp only [Act.put, List.setIfInBounds_toArray, List.set_cons_zero, List.set_cons_succ]
              refine wpAnyH_take (i := 2) (oi := ⟨some 90, .move (.tmp 16), 3, "law.go:100", #[], none⟩) (v := ?_) rfl (by kernel_rfl) (by kernel_rfl) (by kernel_rfl) (fun _ _ _ h => h) (Or.inl ⟨by rfl, ?_⟩) hS ?_
              rotate_left
              · intro wv _; go_simp; try with_reducible rfl
              try simp only [Act.put, List.setIfInBounds_toArray, List.set_cons_zero, List.set_cons_succ]
              refine wpAnyH_take (i := 3) (oi := ⟨some 91, .indexAddr 48 (.tmp 5) (.tmp 90), 0, "law.go:100", #[⟨2, .data⟩], none⟩) (v := ?_) rfl (by kernel_rfl) (by kernel_rfl) (by kernel_rfl) (fun _ _ _ h => h) (Or.inl ⟨by rfl, ?_⟩) hS ?_
              rotate_left
              · intro wv _; go_simp; try with_reducible rfl
              try simp only [Act.put, List.setIfInBounds_toArray, List.set_cons_zero, List.set_cons_succ]
              refine wpAnyH_take (i := 4) (oi := ⟨some 92, .load 25 (.tmp 91), 25, "law.go:100", #[⟨3, .data⟩], none⟩) (v := ?_) rfl (by kernel_rfl) (by kernel_rfl) (by kernel_rfl) (fun _ _ _ h => h) (Or.inl ⟨by rfl, ?_⟩) hS ?_
              rotate_left
              · intro wv hS; have hrun := ((BZ.out _ hS).cell (p := ⟨w.heap.size, Kq, none⟩) (by rw [hg0]; exact ltp2)).trans HCP.out; go_simp; try with_reducible rfl
              try simp only [Act.put, List.setIfInBounds_toArray, List.set_cons_zero, List.set_cons_succ]
              refine wpAnyH_ready (rs := [5, 10]) (by kernel_rfl) (by simp) (AllReadyH.cons (o := ⟨some 93, .call { callee := .value (.func 9), args := #[.tmp 88, .tmp 89, .tmp 92], argTypes := #[24, 3, 25] }, 29, "law.go:100", #[⟨0, .data⟩, ⟨1, .data⟩, ⟨4, .data⟩], none⟩) rfl (fun K hK => ?_) (AllReadyH.cons (o := ⟨some 17, .alloc 24, 0, "law.go:100", #[], none⟩) rfl (fun K hK => ?_) AllReadyH.nil))
              ·
               go_simp
               have HSw : Below g0 wd13 wd13.drew := HS.drew
               refine (CT.out wd13.drew (Ro.below Rb.out (BZ.out _ HSw))).mono ?_
               rintro e wg ⟨B4, m4, d4, rfl, hrr, hb⟩
               have zs : g0 ≤ wd13.drew.heap.size := by have h1 := HSw.size; rw [hg0] at h1; exact h1
               have RX := hrr
               replace HS := HSw.trans (hb.mono zs)
               clear HSw hb hrr zs
               replace hS := HS
               go_wp2_with fail
               refine Shut.out hK _ _ hS (fun _ => ?_)
               clear hK K
               try simp only [Act.put, List.setIfInBounds_toArray, List.set_cons_zero, List.set_cons_succ]
               refine wpAnyH_take (i := 6) (oi := ⟨some 87, .move (.tmp 93), 29, "law.go:100", #[⟨5, .data⟩], none⟩) (v := ?_) rfl (by kernel_rfl) (by kernel_rfl) (by kernel_rfl) (fun _ _ _ h => h) (Or.inl ⟨by rfl, ?_⟩) hS ?_
               rotate_left
               · intro wv _; go_simp; try with_reducible rfl
               try simp only [Act.put, List.setIfInBounds_toArray, List.set_cons_zero, List.set_cons_succ]
               refine wpAnyH_take (i := 7) (oi := ⟨some 94, .extract (.tmp 87) 0, 24, "law.go:100", #[⟨6, .data⟩], none⟩) (v := ?_) rfl (by kernel_rfl) (by kernel_rfl) (by kernel_rfl) (fun _ _ _ h => h) (Or.inl ⟨by rfl, ?_⟩) hS ?_
               rotate_left
               · intro wv _; go_simp; try with_reducible rfl
               try simp only [Act.put, List.setIfInBounds_toArray, List.set_cons_zero, List.set_cons_succ]
               refine wpAnyH_take (i := 8) (oi := ⟨some 95, .extract (.tmp 87) 1, 3, "law.go:100", #[⟨6, .data⟩, ⟨11, .gcOnly .lateStores⟩], none⟩) (v := ?_) rfl (by kernel_rfl) (by kernel_rfl) (by kernel_rfl) (fun _ _ _ h => h) (Or.inl ⟨by rfl, ?_⟩) hS ?_
               rotate_left
               · intro wv _; go_simp; try with_reducible rfl
               try simp only [Act.put, List.setIfInBounds_toArray, List.set_cons_zero, List.set_cons_succ]
               refine wpAnyH_take (i := 9) (oi := ⟨some 96, .extract (.tmp 87) 2, 28, "law.go:100", #[⟨6, .data⟩, ⟨12, .gcOnly .lateStores⟩], none⟩) (v := ?_) rfl (by kernel_rfl) (by kernel_rfl) (by kernel_rfl) (fun _ _ _ h => h) (Or.inl ⟨by rfl, ?_⟩) hS ?_
               rotate_left
               · intro wv _; go_simp; try with_reducible rfl
               try simp only [Act.put, List.setIfInBounds_toArray, List.set_cons_zero, List.set_cons_succ]
               refine wpAnyH_ready (rs := [10]) (by kernel_rfl) (by simp) (AllReadyH.cons (o := ⟨some 17, .alloc 24, 0, "law.go:100", #[], none⟩) rfl (fun K hK => ?_) AllReadyH.nil)
               go_simp
               have zs : g0 ≤ wg.heap.size := by have h1 := HS.size; rw [hg0] at h1; exact h1
               have bd : Below wg.heap.size wg (wg.alloc (.cells #[.slice none 0 0, .int .i64 0, .int .i64 0] 24)) := (Below.refl _ _).alloc (Nat.le_refl _) _
               replace RX := Ro.below RX bd
               have VX : (wg.alloc (.cells #[.slice none 0 0, .int .i64 0, .int .i64 0] 24)).heap[wg.heap.size]? = some (.cells #[.slice none 0 0, .int .i64 0, .int .i64 0] 24) := heap_alloc_new _ _
               have geX : g0 ≤ wg.heap.size := zs
               replace HS := HS.trans (bd.mono zs)
               clear bd zs
               generalize wg.alloc (.cells #[.slice none 0 0, .int .i64 0, .int .i64 0] 24) = y1_ at *
               generalize hsX_ : wg.heap.size = sX at *
               replace hS := HS
               have cx0 : y1_.cell? ⟨sX, 0, none⟩ = some (.slice none 0 0) := (blk_cell VX 0).trans rfl
               have fx0 : y1_.frozen? ⟨sX, 0, none⟩ = false := blk_frozen VX 0
               have cx1 : y1_.cell? ⟨sX, 1, none⟩ = some (.int .i64 0) := (blk_cell VX 1).trans rfl
               have fx1 : y1_.frozen? ⟨sX, 1, none⟩ = false := blk_frozen VX 1
               have cx2 : y1_.cell? ⟨sX, 2, none⟩ = some (.int .i64 0) := (blk_cell VX 2).trans rfl
               have fx2 : y1_.frozen? ⟨sX, 2, none⟩ = false := blk_frozen VX 2
               go_wp2_with fail
               refine Shut.out hK _ _ hS (fun _ => ?_)
               clear hK K
               try simp only [Act.put, List.setIfInBounds_toArray, List.set_cons_zero, List.set_cons_succ]
               refine wpAnyH_ready (rs := [11]) (by kernel_rfl) (by simp) (AllReadyH.cons (o := ⟨none, .store 24 (.tmp 17) (.tmp 94), 0, "law.go:100", #[⟨10, .data⟩, ⟨7, .data⟩, ⟨5, .chain⟩, ⟨0, .phase⟩, ⟨1, .phase⟩, ⟨2, .phase⟩, ⟨3, .phase⟩, ⟨4, .phase⟩, ⟨5, .phase⟩, ⟨6, .phase⟩, ⟨7, .phase⟩, ⟨8, .textOnly .lateStores⟩, ⟨9, .textOnly .lateStores⟩, ⟨10, .phase⟩], none⟩) rfl (fun K hK => ?_) AllReadyH.nil)
               go_simp
               have VX2 := (blk_set (j := 2) (blk_set (j := 1) (blk_set (j := 0) VX (.slice B4 m4 d4)) (.int .i64 r4)) (.int .i64 f4))
               have RX2 := (Ro.set (o := 2) (u := .int .i64 f4) (Ro.set (o := 1) (u := .int .i64 r4) (Ro.set (o := 0) (u := .slice B4 m4 d4) RX VX (by decide) (Nat.le_trans gw0 geX)) (blk_set (j := 0) VX (.slice B4 m4 d4)) (by decide) (Nat.le_trans gw0 geX)) (blk_set (j := 1) (blk_set (j := 0) VX (.slice B4 m4 d4)) (.int .i64 r4)) (by decide) (Nat.le_trans gw0 geX))
               have HS2 := (Below.setCell (Below.setCell (Below.setCell HS (p := ⟨sX, 0, none⟩) (show g0 ≤ sX from geX) (.slice B4 m4 d4)) (p := ⟨sX, 1, none⟩) (show g0 ≤ sX from geX) (.int .i64 r4)) (p := ⟨sX, 2, none⟩) (show g0 ≤ sX from geX) (.int .i64 f4))
               clear VX RX HS hS cx0 cx1 cx2 fx0 fx1 fx2
               generalize (((y1_.setCell ⟨sX, 0, none⟩ (.slice B4 m4 d4)).setCell ⟨sX, 1, none⟩ (.int .i64 r4)).setCell ⟨sX, 2, none⟩ (.int .i64 f4)) = z_ at *
               have VX : z_.heap[sX]? = some (.cells #[.slice B4 m4 d4, .int .i64 r4, .int .i64 f4] 24) := VX2
               have RX := RX2; have HS := HS2; have hS := HS2
               clear VX2 RX2 HS2
               refine Shut.out hK _ _ hS (fun _ => ?_)
               clear hK K
               try simp only [Act.put, List.setIfInBounds_toArray, List.set_cons_zero, List.set_cons_succ]
               refine wpAnyH_take (i := 12) (oi := ⟨some 18, .assign (.tmp 95), 3, "law.go:100", #[⟨8, .data⟩, ⟨11, .chain⟩, ⟨0, .phase⟩, ⟨1, .phase⟩, ⟨2, .phase⟩, ⟨3, .phase⟩, ⟨4, .phase⟩, ⟨5, .phase⟩, ⟨6, .phase⟩, ⟨7, .phase⟩, ⟨8, .phase⟩, ⟨9, .textOnly .lateStores⟩, ⟨10, .phase⟩, ⟨11, .phase⟩], none⟩) (v := ?_) rfl (by kernel_rfl) (by kernel_rfl) (by kernel_rfl) (fun _ _ _ h => h) (Or.inl ⟨by rfl, ?_⟩) hS ?_
               rotate_left
               · intro wv _; go_simp; try with_reducible rfl
               try simp only [Act.put, List.setIfInBounds_toArray, List.set_cons_zero, List.set_cons_succ]
               refine wpAnyH_take (i := 13) (oi := ⟨some 19, .assign (.tmp 96), 28, "law.go:100", #[⟨9, .data⟩, ⟨12, .chain⟩, ⟨0, .phase⟩, ⟨1, .phase⟩, ⟨2, .phase⟩, ⟨3, .phase⟩, ⟨4, .phase⟩, ⟨5, .phase⟩, ⟨6, .phase⟩, ⟨7, .phase⟩, ⟨8, .phase⟩, ⟨9, .phase⟩, ⟨10, .phase⟩, ⟨11, .phase⟩, ⟨12, .phase⟩], none⟩) (v := ?_) rfl (by kernel_rfl) (by kernel_rfl) (by kernel_rfl) (fun _ _ _ h => h) (Or.inl ⟨by rfl, ?_⟩) hS ?_
               rotate_left
               · intro wv _; go_simp; try with_reducible rfl
               try simp only [Act.put, List.setIfInBounds_toArray, List.set_cons_zero, List.set_cons_succ]
               refine wpAnyH_done (by kernel_rfl) ?_ _
               refine NoPanic.normal ?_
               go_wp2_with fail
               go_meet
               exact ⟨sX, B4, m4, d4, rfl, rfl, rfl, Lib.hid VX, Lib.hid RX, Lib.hid HS, geX⟩
              ·
               go_simp
               have zs : g0 ≤ g0 := Nat.le_refl _
               have bd : Below g0 wd13 (wd13.alloc (.cells #[.slice none 0 0, .int .i64 0, .int .i64 0] 24)) := by have h := (Below.refl wd13.heap.size wd13).alloc (Nat.le_refl _) (.cells #[.slice none 0 0, .int .i64 0, .int .i64 0] 24); rwa [hg0] at h
               have VX : (wd13.alloc (.cells #[.slice none 0 0, .int .i64 0, .int .i64 0] 24)).heap[g0]? = some (.cells #[.slice none 0 0, .int .i64 0, .int .i64 0] 24) := by have h := heap_alloc_new wd13 (.cells #[.slice none 0 0, .int .i64 0, .int .i64 0] 24); rw [hg0] at h; exact h
               have geX : g0 ≤ g0 := zs
               replace HS := HS.trans (bd.mono zs)
               clear bd zs
               generalize wd13.alloc (.cells #[.slice none 0 0, .int .i64 0, .int .i64 0] 24) = y1_ at *
               replace hS := HS.drew
               go_wp2_with fail
               refine Shut.out hK _ _ hS (fun _ => ?_)
               clear hK K
               try simp only [Act.put, List.setIfInBounds_toArray, List.set_cons_zero, List.set_cons_succ]
               refine wpAnyH_ready (rs := [5]) (by kernel_rfl) (by simp) (AllReadyH.cons (o := ⟨some 93, .call { callee := .value (.func 9), args := #[.tmp 88, .tmp 89, .tmp 92], argTypes := #[24, 3, 25] }, 29, "law.go:100", #[⟨0, .data⟩, ⟨1, .data⟩, ⟨4, .data⟩], none⟩) rfl (fun K hK => ?_) AllReadyH.nil)
               go_simp
               have HSw : Below g0 wd13 y1_.drew := HS.drew
               refine (CT.out y1_.drew (Ro.below Rb.out (BZ.out _ HSw))).mono ?_
               rintro e wg ⟨B4, m4, d4, rfl, hrr, hb⟩
               have zs : g0 ≤ y1_.drew.heap.size := by have h1 := HSw.size; rw [hg0] at h1; exact h1
               replace VX := blk_below (show y1_.drew.heap[_]? = _ from VX) hb (blk_lt VX)
               have RX := hrr
               replace HS := HSw.trans (hb.mono zs)
               clear HSw hb hrr zs
               replace hS := HS
               have cx0 : wg.cell? ⟨g0, 0, none⟩ = some (.slice none 0 0) := (blk_cell VX 0).trans rfl
               have fx0 : wg.frozen? ⟨g0, 0, none⟩ = false := blk_frozen VX 0
               have cx1 : wg.cell? ⟨g0, 1, none⟩ = some (.int .i64 0) := (blk_cell VX 1).trans rfl
               have fx1 : wg.frozen? ⟨g0, 1, none⟩ = false := blk_frozen VX 1
               have cx2 : wg.cell? ⟨g0, 2, none⟩ = some (.int .i64 0) := (blk_cell VX 2).trans rfl
               have fx2 : wg.frozen? ⟨g0, 2, none⟩ = false := blk_frozen VX 2
               go_wp2_with fail
               refine Shut.out hK _ _ hS (fun _ => ?_)
               clear hK K
               try simp only [Act.put, List.setIfInBounds_toArray, List.set_cons_zero, List.set_cons_succ]
               refine wpAnyH_take (i := 6) (oi := ⟨some 87, .move (.tmp 93), 29, "law.go:100", #[⟨5, .data⟩], none⟩) (v := ?_) rfl (by kernel_rfl) (by kernel_rfl) (by kernel_rfl) (fun _ _ _ h => h) (Or.inl ⟨by rfl, ?_⟩) hS ?_
               rotate_left
               · intro wv _; go_simp; try with_reducible rfl
               try simp only [Act.put, List.setIfInBounds_toArray, List.set_cons_zero, List.set_cons_succ]
               refine wpAnyH_take (i := 7) (oi := ⟨some 94, .extract (.tmp 87) 0, 24, "law.go:100", #[⟨6, .data⟩], none⟩) (v := ?_) rfl (by kernel_rfl) (by kernel_rfl) (by kernel_rfl) (fun _ _ _ h => h) (Or.inl ⟨by rfl, ?_⟩) hS ?_
               rotate_left
               · intro wv _; go_simp; try with_reducible rfl
               try simp only [Act.put, List.setIfInBounds_toArray, List.set_cons_zero, List.set_cons_succ]
               refine wpAnyH_take (i := 8) (oi := ⟨some 95, .extract (.tmp 87) 1, 3, "law.go:100", #[⟨6, .data⟩, ⟨11, .gcOnly .lateStores⟩], none⟩) (v := ?_) rfl (by kernel_rfl) (by kernel_rfl) (by kernel_rfl) (fun _ _ _ h => h) (Or.inl ⟨by rfl, ?_⟩) hS ?_
               rotate_left
               · intro wv _; go_simp; try with_reducible rfl
               try simp only [Act.put, List.setIfInBounds_toArray, List.set_cons_zero, List.set_cons_succ]
               refine wpAnyH_take (i := 9) (oi := ⟨some 96, .extract (.tmp 87) 2, 28, "law.go:100", #[⟨6, .data⟩, ⟨12, .gcOnly .lateStores⟩], none⟩) (v := ?_) rfl (by kernel_rfl) (by kernel_rfl) (by kernel_rfl) (fun _ _ _ h => h) (Or.inl ⟨by rfl, ?_⟩) hS ?_
               rotate_left
               · intro wv _; go_simp; try with_reducible rfl
               try simp only [Act.put, List.setIfInBounds_toArray, List.set_cons_zero, List.set_cons_succ]
               refine wpAnyH_ready (rs := [11]) (by kernel_rfl) (by simp) (AllReadyH.cons (o := ⟨none, .store 24 (.tmp 17) (.tmp 94), 0, "law.go:100", #[⟨10, .data⟩, ⟨7, .data⟩, ⟨5, .chain⟩, ⟨0, .phase⟩, ⟨1, .phase⟩, ⟨2, .phase⟩, ⟨3, .phase⟩, ⟨4, .phase⟩, ⟨5, .phase⟩, ⟨6, .phase⟩, ⟨7, .phase⟩, ⟨8, .textOnly .lateStores⟩, ⟨9, .textOnly .lateStores⟩, ⟨10, .phase⟩], none⟩) rfl (fun K hK => ?_) AllReadyH.nil)
               go_simp
               have VX2 := (blk_set (j := 2) (blk_set (j := 1) (blk_set (j := 0) VX (.slice B4 m4 d4)) (.int .i64 r4)) (.int .i64 f4))
               have RX2 := (Ro.set (o := 2) (u := .int .i64 f4) (Ro.set (o := 1) (u := .int .i64 r4) (Ro.set (o := 0) (u := .slice B4 m4 d4) RX VX (by decide) (Nat.le_trans gw0 geX)) (blk_set (j := 0) VX (.slice B4 m4 d4)) (by decide) (Nat.le_trans gw0 geX)) (blk_set (j := 1) (blk_set (j := 0) VX (.slice B4 m4 d4)) (.int .i64 r4)) (by decide) (Nat.le_trans gw0 geX))
               have HS2 := (Below.setCell (Below.setCell (Below.setCell HS (p := ⟨g0, 0, none⟩) (show g0 ≤ g0 from geX) (.slice B4 m4 d4)) (p := ⟨g0, 1, none⟩) (show g0 ≤ g0 from geX) (.int .i64 r4)) (p := ⟨g0, 2, none⟩) (show g0 ≤ g0 from geX) (.int .i64 f4))
               clear VX RX HS hS cx0 cx1 cx2 fx0 fx1 fx2
               generalize (((wg.setCell ⟨g0, 0, none⟩ (.slice B4 m4 d4)).setCell ⟨g0, 1, none⟩ (.int .i64 r4)).setCell ⟨g0, 2, none⟩ (.int .i64 f4)) = z_ at *
               have VX : z_.heap[g0]? = some (.cells #[.slice B4 m4 d4, .int .i64 r4, .int .i64 f4] 24) := VX2
               have RX := RX2; have HS := HS2; have hS := HS2
               clear VX2 RX2 HS2
               refine Shut.out hK _ _ hS (fun _ => ?_)
               clear hK K
               try simp only [Act.put, List.setIfInBounds_toArray, List.set_cons_zero, List.set_cons_succ]
               refine wpAnyH_take (i := 12) (oi := ⟨some 18, .assign (.tmp 95), 3, "law.go:100", #[⟨8, .data⟩, ⟨11, .chain⟩, ⟨0, .phase⟩, ⟨1, .phase⟩, ⟨2, .phase⟩, ⟨3, .phase⟩, ⟨4, .phase⟩, ⟨5, .phase⟩, ⟨6, .phase⟩, ⟨7, .phase⟩, ⟨8, .phase⟩, ⟨9, .textOnly .lateStores⟩, ⟨10, .phase⟩, ⟨11, .phase⟩], none⟩) (v := ?_) rfl (by kernel_rfl) (by kernel_rfl) (by kernel_rfl) (fun _ _ _ h => h) (Or.inl ⟨by rfl, ?_⟩) hS ?_
               rotate_left
               · intro wv _; go_simp; try with_reducible rfl
               try simp only [Act.put, List.setIfInBounds_toArray, List.set_cons_zero, List.set_cons_succ]
               refine wpAnyH_take (i := 13) (oi := ⟨some 19, .assign (.tmp 96), 28, "law.go:100", #[⟨9, .data⟩, ⟨12, .chain⟩, ⟨0, .phase⟩, ⟨1, .phase⟩, ⟨2, .phase⟩, ⟨3, .phase⟩, ⟨4, .phase⟩, ⟨5, .phase⟩, ⟨6, .phase⟩, ⟨7, .phase⟩, ⟨8, .phase⟩, ⟨9, .phase⟩, ⟨10, .phase⟩, ⟨11, .phase⟩, ⟨12, .phase⟩], none⟩) (v := ?_) rfl (by kernel_rfl) (by kernel_rfl) (by kernel_rfl) (fun _ _ _ h => h) (Or.inl ⟨by rfl, ?_⟩) hS ?_
               rotate_left
               · intro wv _; go_simp; try with_reducible rfl
               try simp only [Act.put, List.setIfInBounds_toArray, List.set_cons_zero, List.set_cons_succ]
               refine wpAnyH_done (by kernel_rfl) ?_ _
               refine NoPanic.normal ?_
               go_wp2_with fail
               go_meet
               exact ⟨g0, B4, m4, d4, rfl, rfl, rfl, Lib.hid VX, Lib.hid RX, Lib.hid HS, geX⟩
            case rest =>
            obtain ⟨sy, B4, m4, d4, rfl, rfl, rfl, Vy, Ry, hS, gey0⟩ := hcut
            obtain ⟨wd17, hwd⟩ : ∃ x, x = wc := ⟨_, rfl⟩
            subst hwd
            have hb := BZ.out _ hS.out
            have ltp_ := blk_lt Vp.out
            rw [hg0] at ltp_
            have nep_y : w.heap.size ≠ sy := by omega
            have lta_ := blk_lt Va.out
            rw [hg0] at lta_
            have nea_y : sa ≠ sy := by omega
            have ltb_ := blk_lt Vb.out
            rw [hg0] at ltb_
            have neb_y : sb ≠ sy := by omega
            have ltx_ := blk_lt Vx.out
            rw [hg0] at ltx_
            have nex_y : sx ≠ sy := by omega
            have gey : w.heap.size ≤ sy := Nat.le_trans gw0 gey0
            replace HB := Lib.hid (show Below w.heap.size w wd13 ∧ w.heap.size ≤ wd13.heap.size from ⟨HB.out.1, by rw [hg0]; exact HB.out.2⟩)
            clear hcq cpq HCK HCP hbq hbk2 ltp2
            replace Vp := Lib.hid (blk_below Vp.out hb (blk_lt Vp.out))
            replace Va := Lib.hid (blk_below Va.out hb (blk_lt Va.out))
            replace Vb := Lib.hid (blk_below Vb.out hb (blk_lt Vb.out))
            replace Vx := Lib.hid (blk_below Vx.out hb (blk_lt Vx.out))
            replace Ra := Lib.hid (Ro.below Ra.out hb)
            replace Rb := Lib.hid (Ro.below Rb.out hb)
            replace Rx := Lib.hid (Ro.below Rx.out hb)
            replace HB := Lib.hid (And.intro (HB.out.1.trans (hb.mono HB.out.2)) (Nat.le_trans HB.out.2 hb.size))
            clear hb BZ HS hS gw0 CT ltp_ lta_ ltb_ ltx_ gey0 hg0
            rcases HER.out with rfl | rfl
            · as_aux_lemma =>
               have gxa := nea_x; have gxb := neb_x; have gya := nea_y; have gyb := neb_y; have gab := nea_b; have gpa := nep_a; have gpb := nep_b
               have gxa' := gxa.symm; have gxb' := gxb.symm; have gya' := gya.symm; have gyb' := gyb.symm; have gab' := gab.symm
               have Va0 : wd17.drew.heap[sa]? = some (.cells #[.slice B1 m1 d1, .int .i64 r1, .int .i64 f1] 24) := Va.out
               have Vb0 : wd17.drew.heap[sb]? = some (.cells #[.slice B2 m2 d2, .int .i64 r2, .int .i64 f2] 24) := Vb.out
               have Vp0 : wd17.drew.heap[w.heap.size]? = some (.cells #[.int .u32 p0, .int .u32 p1, .int .u32 p2, .int .u32 p3, .int .u32 p4, .int .u32 p5, .int .u32 p6, .int .u32 p7, .int .u32 p8, .int .u32 p9, .int .u32 p10, .int .u32 p11, .int .u32 p12, .int .u32 p13, .int .u32 p14, .int .u32 p15] 48) := Vp.out
               have Vx0 : wd17.drew.heap[sx]? = some (.cells #[.slice B3 m3 d3, .int .i64 r3, .int .i64 f3] 24) := Vx.out
               have Vy0 : wd17.drew.heap[sy]? = some (.cells #[.slice B4 m4 d4, .int .i64 r4, .int .i64 f4] 24) := Vy.out
               have Rx0 := Rx.out.drew; have Ry0 := Ry.out.drew
               have HB0 := HB.out.1.drew
               have HZ0 : w.heap.size ≤ wd17.drew.heap.size := HB.out.2
               have TH1 := Lib.hid (there3 Va0)
               obtain ⟨z1_, hz1⟩ : ∃ Z, (wd17.drew).setCells sa 0 [.slice B3 m3 d3, .int .i64 r3, .int .i64 f3] = Z := ⟨_, rfl⟩
               have hc1 : (((wd17.drew.setCell ⟨sa, 0, none⟩ (.slice B3 m3 d3)).setCell ⟨sa, 1, none⟩ (.int .i64 r3)).setCell ⟨sa, 2, none⟩ (.int .i64 f3)) = z1_ := hz1
               have Va1 : z1_.heap[sa]? = some (.cells #[.slice B3 m3 d3, .int .i64 r3, .int .i64 f3] 24) := hc1 ▸ (blk_set (j := 2) (blk_set (j := 1) (blk_set (j := 0) Va0 (.slice B3 m3 d3)) (.int .i64 r3)) (.int .i64 f3))
               have Vb1 : z1_.heap[sb]? = some (.cells #[.slice B2 m2 d2, .int .i64 r2, .int .i64 f2] 24) := hc1 ▸ ((Below.heap_setCell _ ⟨sa, 2, none⟩ (.int .i64 f3) sb gab').trans ((Below.heap_setCell _ ⟨sa, 1, none⟩ (.int .i64 r3) sb gab').trans ((Below.heap_setCell _ ⟨sa, 0, none⟩ (.slice B3 m3 d3) sb gab').trans Vb0)))
               have Vp1 : z1_.heap[w.heap.size]? = some (.cells #[.int .u32 p0, .int .u32 p1, .int .u32 p2, .int .u32 p3, .int .u32 p4, .int .u32 p5, .int .u32 p6, .int .u32 p7, .int .u32 p8, .int .u32 p9, .int .u32 p10, .int .u32 p11, .int .u32 p12, .int .u32 p13, .int .u32 p14, .int .u32 p15] 48) := hc1 ▸ ((Below.heap_setCell _ ⟨sa, 2, none⟩ (.int .i64 f3) w.heap.size gpa).trans ((Below.heap_setCell _ ⟨sa, 1, none⟩ (.int .i64 r3) w.heap.size gpa).trans ((Below.heap_setCell _ ⟨sa, 0, none⟩ (.slice B3 m3 d3) w.heap.size gpa).trans Vp0)))
               have Vx1 : z1_.heap[sx]? = some (.cells #[.slice B3 m3 d3, .int .i64 r3, .int .i64 f3] 24) := hc1 ▸ ((Below.heap_setCell _ ⟨sa, 2, none⟩ (.int .i64 f3) sx gxa').trans ((Below.heap_setCell _ ⟨sa, 1, none⟩ (.int .i64 r3) sx gxa').trans ((Below.heap_setCell _ ⟨sa, 0, none⟩ (.slice B3 m3 d3) sx gxa').trans Vx0)))
               have Vy1 : z1_.heap[sy]? = some (.cells #[.slice B4 m4 d4, .int .i64 r4, .int .i64 f4] 24) := hc1 ▸ ((Below.heap_setCell _ ⟨sa, 2, none⟩ (.int .i64 f3) sy gya').trans ((Below.heap_setCell _ ⟨sa, 1, none⟩ (.int .i64 r3) sy gya').trans ((Below.heap_setCell _ ⟨sa, 0, none⟩ (.slice B3 m3 d3) sy gya').trans Vy0)))
               have Rx1 := hc1 ▸ (Ro.set (o := 2) (u := .int .i64 f3) (Ro.set (o := 1) (u := .int .i64 r3) (Ro.set (o := 0) (u := .slice B3 m3 d3) Rx0 Va0 (by decide) gea) (blk_set (j := 0) Va0 (.slice B3 m3 d3)) (by decide) gea) (blk_set (j := 1) (blk_set (j := 0) Va0 (.slice B3 m3 d3)) (.int .i64 r3)) (by decide) gea)
               have Ry1 := hc1 ▸ (Ro.set (o := 2) (u := .int .i64 f3) (Ro.set (o := 1) (u := .int .i64 r3) (Ro.set (o := 0) (u := .slice B3 m3 d3) Ry0 Va0 (by decide) gea) (blk_set (j := 0) Va0 (.slice B3 m3 d3)) (by decide) gea) (blk_set (j := 1) (blk_set (j := 0) Va0 (.slice B3 m3 d3)) (.int .i64 r3)) (by decide) gea)
               have HB1 := hc1 ▸ (Below.setCell (Below.setCell (Below.setCell HB0 (p := ⟨sa, 0, none⟩) (show w.heap.size ≤ sa from gea) (.slice B3 m3 d3)) (p := ⟨sa, 1, none⟩) (show w.heap.size ≤ sa from gea) (.int .i64 r3)) (p := ⟨sa, 2, none⟩) (show w.heap.size ≤ sa from gea) (.int .i64 f3))
               have HZ1 : w.heap.size ≤ z1_.heap.size := by rw [← hc1]; simp only [World.setCell, Array.size_modify]; exact HZ0
               have hS1 := Lib.hid (And.intro Vx1 Vy1)
               have TH2 := Lib.hid (there3 Vb1)
               obtain ⟨z2_, hz2⟩ : ∃ Z, (z1_).setCells sb 0 [.slice B4 m4 d4, .int .i64 r4, .int .i64 f4] = Z := ⟨_, rfl⟩
               have hc2 : (((z1_.setCell ⟨sb, 0, none⟩ (.slice B4 m4 d4)).setCell ⟨sb, 1, none⟩ (.int .i64 r4)).setCell ⟨sb, 2, none⟩ (.int .i64 f4)) = z2_ := hz2
               have Va2 : z2_.heap[sa]? = some (.cells #[.slice B3 m3 d3, .int .i64 r3, .int .i64 f3] 24) := hc2 ▸ ((Below.heap_setCell _ ⟨sb, 2, none⟩ (.int .i64 f4) sa gab).trans ((Below.heap_setCell _ ⟨sb, 1, none⟩ (.int .i64 r4) sa gab).trans ((Below.heap_setCell _ ⟨sb, 0, none⟩ (.slice B4 m4 d4) sa gab).trans Va1)))
               have Vb2 : z2_.heap[sb]? = some (.cells #[.slice B4 m4 d4, .int .i64 r4, .int .i64 f4] 24) := hc2 ▸ (blk_set (j := 2) (blk_set (j := 1) (blk_set (j := 0) Vb1 (.slice B4 m4 d4)) (.int .i64 r4)) (.int .i64 f4))
               have Vp2 : z2_.heap[w.heap.size]? = some (.cells #[.int .u32 p0, .int .u32 p1, .int .u32 p2, .int .u32 p3, .int .u32 p4, .int .u32 p5, .int .u32 p6, .int .u32 p7, .int .u32 p8, .int .u32 p9, .int .u32 p10, .int .u32 p11, .int .u32 p12, .int .u32 p13, .int .u32 p14, .int .u32 p15] 48) := hc2 ▸ ((Below.heap_setCell _ ⟨sb, 2, none⟩ (.int .i64 f4) w.heap.size gpb).trans ((Below.heap_setCell _ ⟨sb, 1, none⟩ (.int .i64 r4) w.heap.size gpb).trans ((Below.heap_setCell _ ⟨sb, 0, none⟩ (.slice B4 m4 d4) w.heap.size gpb).trans Vp1)))
               have Vx2 : z2_.heap[sx]? = some (.cells #[.slice B3 m3 d3, .int .i64 r3, .int .i64 f3] 24) := hc2 ▸ ((Below.heap_setCell _ ⟨sb, 2, none⟩ (.int .i64 f4) sx gxb').trans ((Below.heap_setCell _ ⟨sb, 1, none⟩ (.int .i64 r4) sx gxb').trans ((Below.heap_setCell _ ⟨sb, 0, none⟩ (.slice B4 m4 d4) sx gxb').trans Vx1)))
               have Vy2 : z2_.heap[sy]? = some (.cells #[.slice B4 m4 d4, .int .i64 r4, .int .i64 f4] 24) := hc2 ▸ ((Below.heap_setCell _ ⟨sb, 2, none⟩ (.int .i64 f4) sy gyb').trans ((Below.heap_setCell _ ⟨sb, 1, none⟩ (.int .i64 r4) sy gyb').trans ((Below.heap_setCell _ ⟨sb, 0, none⟩ (.slice B4 m4 d4) sy gyb').trans Vy1)))
               have Rx2 := hc2 ▸ (Ro.set (o := 2) (u := .int .i64 f4) (Ro.set (o := 1) (u := .int .i64 r4) (Ro.set (o := 0) (u := .slice B4 m4 d4) Rx1 Vb1 (by decide) geb) (blk_set (j := 0) Vb1 (.slice B4 m4 d4)) (by decide) geb) (blk_set (j := 1) (blk_set (j := 0) Vb1 (.slice B4 m4 d4)) (.int .i64 r4)) (by decide) geb)
               have Ry2 := hc2 ▸ (Ro.set (o := 2) (u := .int .i64 f4) (Ro.set (o := 1) (u := .int .i64 r4) (Ro.set (o := 0) (u := .slice B4 m4 d4) Ry1 Vb1 (by decide) geb) (blk_set (j := 0) Vb1 (.slice B4 m4 d4)) (by decide) geb) (blk_set (j := 1) (blk_set (j := 0) Vb1 (.slice B4 m4 d4)) (.int .i64 r4)) (by decide) geb)
               have HB2 := hc2 ▸ (Below.setCell (Below.setCell (Below.setCell HB1 (p := ⟨sb, 0, none⟩) (show w.heap.size ≤ sb from geb) (.slice B4 m4 d4)) (p := ⟨sb, 1, none⟩) (show w.heap.size ≤ sb from geb) (.int .i64 r4)) (p := ⟨sb, 2, none⟩) (show w.heap.size ≤ sb from geb) (.int .i64 f4))
               have HZ2 : w.heap.size ≤ z2_.heap.size := by rw [← hc2]; simp only [World.setCell, Array.size_modify]; exact HZ1
               have hS2 := Lib.hid (And.intro Vx2 Vy2)
               have Va3 := Lib.hid Va2
               have Vb3 := Lib.hid Vb2
               have Vp3 := Lib.hid Vp2
               have Rx3 := Lib.hid Rx2
               have Ry3 := Lib.hid Ry2
               have HB3 := Lib.hid (And.intro HB2 HZ2)
               replace hz1 := Lib.hid hz1; replace hz2 := Lib.hid hz2
               clear hc1 hc2 Va Vb Rx Ry HB Va0 Vb0 Vp0 Vx0 Vy0 Rx0 Ry0 HB0 HZ0 Va1 Vb1 Vp1 Vx1 Vy1 Rx1 Ry1 HB1 HZ1 Va2 Vb2 Vp2 Vx2 Vy2 Rx2 Ry2 HB2 HZ2
               go_upto_region 20 with fail
               refine wp_region_noPanic ?_
               refine wp_region_held_drew (S := (fun wv => Hid (wv.heap[sx]? = some (.cells #[.slice B3 m3 d3, .int .i64 r3, .int .i64 f3] 24) ∧ wv.heap[sy]? = some (.cells #[.slice B4 m4 d4, .int .i64 r4, .int .i64 f4] 24)))) (by kernel_rfl) (Lib.hid ⟨Vx.out, Vy.out⟩) (fun hS => ?_)
               refine wpAnyH_take (i := 0) (oi := ⟨some 103, .load 24 (.tmp 13), 24, "law.go:104", #[], none⟩) (v := .agg (([.slice B3 m3 d3, .int .i64 r3, .int .i64 f3] : List Value)).toArray) rfl (by kernel_rfl) (by kernel_rfl) (by kernel_rfl) (fun _ _ _ h => h) (yieldsIf_load_mid (by rfl) _ _ (by rfl) (sx) (0) (by rfl) (([.slice B3 m3 d3, .int .i64 r3, .int .i64 f3] : List Value)) _ (fun wv hS => blk_rngl hS.out.1) Try.underlying24 (by rfl) (by kernel_rfl)) hS ?_
               try simp only [Act.put, List.setIfInBounds_toArray, List.set_cons_zero, List.set_cons_succ]
               refine wpAnyH_take (i := 1) (oi := ⟨some 104, .load 24 (.tmp 17), 24, "law.go:104", #[⟨2, .gcOnly .lateStores⟩], none⟩) (v := .agg (([.slice B4 m4 d4, .int .i64 r4, .int .i64 f4] : List Value)).toArray) rfl (by kernel_rfl) (by kernel_rfl) (by kernel_rfl) (fun _ _ _ h => h) (yieldsIf_load_mid (by rfl) _ _ (by rfl) (sy) (0) (by rfl) (([.slice B4 m4 d4, .int .i64 r4, .int .i64 f4] : List Value)) _ (fun wv hS => blk_rngl hS.out.2) Try.underlying24 (by rfl) (by kernel_rfl)) hS ?_
               try simp only [Act.put, List.setIfInBounds_toArray, List.set_cons_zero, List.set_cons_succ]
               refine wpAnyH_ready (rs := [2]) (by kernel_rfl) (by simp) (AllReadyH.cons (o := ⟨none, .store 24 (.tmp 7) (.tmp 103), 0, "law.go:104", #[⟨0, .data⟩, ⟨0, .phase⟩, ⟨1, .textOnly .lateStores⟩], none⟩) rfl (fun K hK => ?_) AllReadyH.nil)
               refine op_store9 (by rfl) rfl rfl rfl TH1.out (by kernel_rfl) (one3 _ _ _ _ _) hz1.out ?_
               replace hS := hS1
               refine Shut.out hK _ _ hS (fun _ => ?_)
               clear hK K
               try simp only [Act.put, List.setIfInBounds_toArray, List.set_cons_zero, List.set_cons_succ]
               refine wpAnyH_ready (rs := [3]) (by kernel_rfl) (by simp) (AllReadyH.cons (o := ⟨none, .store 24 (.tmp 9) (.tmp 104), 0, "law.go:104", #[⟨1, .data⟩, ⟨2, .chain⟩, ⟨0, .phase⟩, ⟨1, .phase⟩, ⟨2, .phase⟩], none⟩) rfl (fun K hK => ?_) AllReadyH.nil)
               refine op_store9 (by rfl) rfl rfl rfl TH2.out (by kernel_rfl) (one3 _ _ _ _ _) hz2.out ?_
               replace hS := hS2
               refine Shut.out hK _ _ hS (fun _ => ?_)
               clear hK K
               try simp only [Act.put, List.setIfInBounds_toArray, List.set_cons_zero, List.set_cons_succ]
               refine wpAnyH_done (by kernel_rfl) ?_ _
               refine NoPanic.normal ?_
               go_wp2
               go_roundw
               case rel => exact ⟨i + 1, _, _, _, _, _, _, _, _, _, _, _, _, _, _, _, _, by go_num, by omega, Va3, Vb3, Vp3, Rx3, Ry3, O3, O4, HB3⟩
               case measure => simp [intOf]; omega
            · as_aux_lemma =>
               have gxa := nea_x; have gxb := neb_x; have gya := nea_y; have gyb := neb_y; have gab := nea_b; have gpa := nep_a; have gpb := nep_b
               have gxa' := gxa.symm; have gxb' := gxb.symm; have gya' := gya.symm; have gyb' := gyb.symm; have gab' := gab.symm
               have Va0 : wd17.drew.heap[sa]? = some (.cells #[.slice B1 m1 d1, .int .i64 r1, .int .i64 f1] 24) := Va.out
               have Vb0 : wd17.drew.heap[sb]? = some (.cells #[.slice B2 m2 d2, .int .i64 r2, .int .i64 f2] 24) := Vb.out
               have Vp0 : wd17.drew.heap[w.heap.size]? = some (.cells #[.int .u32 p0, .int .u32 p1, .int .u32 p2, .int .u32 p3, .int .u32 p4, .int .u32 p5, .int .u32 p6, .int .u32 p7, .int .u32 p8, .int .u32 p9, .int .u32 p10, .int .u32 p11, .int .u32 p12, .int .u32 p13, .int .u32 p14, .int .u32 p15] 48) := Vp.out
               have Vx0 : wd17.drew.heap[sx]? = some (.cells #[.slice B3 m3 d3, .int .i64 r3, .int .i64 f3] 24) := Vx.out
               have Vy0 : wd17.drew.heap[sy]? = some (.cells #[.slice B4 m4 d4, .int .i64 r4, .int .i64 f4] 24) := Vy.out
               have Rx0 := Rx.out.drew; have Ry0 := Ry.out.drew
               have HB0 := HB.out.1.drew
               have HZ0 : w.heap.size ≤ wd17.drew.heap.size := HB.out.2
               have TH1 := Lib.hid (there3 Va0)
               obtain ⟨z1_, hz1⟩ : ∃ Z, (wd17.drew).setCells sa 0 [.slice B3 m3 d3, .int .i64 r3, .int .i64 f3] = Z := ⟨_, rfl⟩
               have hc1 : (((wd17.drew.setCell ⟨sa, 0, none⟩ (.slice B3 m3 d3)).setCell ⟨sa, 1, none⟩ (.int .i64 r3)).setCell ⟨sa, 2, none⟩ (.int .i64 f3)) = z1_ := hz1
               have Va1 : z1_.heap[sa]? = some (.cells #[.slice B3 m3 d3, .int .i64 r3, .int .i64 f3] 24) := hc1 ▸ (blk_set (j := 2) (blk_set (j := 1) (blk_set (j := 0) Va0 (.slice B3 m3 d3)) (.int .i64 r3)) (.int .i64 f3))
               have Vb1 : z1_.heap[sb]? = some (.cells #[.slice B2 m2 d2, .int .i64 r2, .int .i64 f2] 24) := hc1 ▸ ((Below.heap_setCell _ ⟨sa, 2, none⟩ (.int .i64 f3) sb gab').trans ((Below.heap_setCell _ ⟨sa, 1, none⟩ (.int .i64 r3) sb gab').trans ((Below.heap_setCell _ ⟨sa, 0, none⟩ (.slice B3 m3 d3) sb gab').trans Vb0)))
               have Vp1 : z1_.heap[w.heap.size]? = some (.cells #[.int .u32 p0, .int .u32 p1, .int .u32 p2, .int .u32 p3, .int .u32 p4, .int .u32 p5, .int .u32 p6, .int .u32 p7, .int .u32 p8, .int .u32 p9, .int .u32 p10, .int .u32 p11, .int .u32 p12, .int .u32 p13, .int .u32 p14, .int .u32 p15] 48) := hc1 ▸ ((Below.heap_setCell _ ⟨sa, 2, none⟩ (.int .i64 f3) w.heap.size gpa).trans ((Below.heap_setCell _ ⟨sa, 1, none⟩ (.int .i64 r3) w.heap.size gpa).trans ((Below.heap_setCell _ ⟨sa, 0, none⟩ (.slice B3 m3 d3) w.heap.size gpa).trans Vp0)))
               have Vx1 : z1_.heap[sx]? = some (.cells #[.slice B3 m3 d3, .int .i64 r3, .int .i64 f3] 24) := hc1 ▸ ((Below.heap_setCell _ ⟨sa, 2, none⟩ (.int .i64 f3) sx gxa').trans ((Below.heap_setCell _ ⟨sa, 1, none⟩ (.int .i64 r3) sx gxa').trans ((Below.heap_setCell _ ⟨sa, 0, none⟩ (.slice B3 m3 d3) sx gxa').trans Vx0)))
               have Vy1 : z1_.heap[sy]? = some (.cells #[.slice B4 m4 d4, .int .i64 r4, .int .i64 f4] 24) := hc1 ▸ ((Below.heap_setCell _ ⟨sa, 2, none⟩ (.int .i64 f3) sy gya').trans ((Below.heap_setCell _ ⟨sa, 1, none⟩ (.int .i64 r3) sy gya').trans ((Below.heap_setCell _ ⟨sa, 0, none⟩ (.slice B3 m3 d3) sy gya').trans Vy0)))
               have Rx1 := hc1 ▸ (Ro.set (o := 2) (u := .int .i64 f3) (Ro.set (o := 1) (u := .int .i64 r3) (Ro.set (o := 0) (u := .slice B3 m3 d3) Rx0 Va0 (by decide) gea) (blk_set (j := 0) Va0 (.slice B3 m3 d3)) (by decide) gea) (blk_set (j := 1) (blk_set (j := 0) Va0 (.slice B3 m3 d3)) (.int .i64 r3)) (by decide) gea)
               have Ry1 := hc1 ▸ (Ro.set (o := 2) (u := .int .i64 f3) (Ro.set (o := 1) (u := .int .i64 r3) (Ro.set (o := 0) (u := .slice B3 m3 d3) Ry0 Va0 (by decide) gea) (blk_set (j := 0) Va0 (.slice B3 m3 d3)) (by decide) gea) (blk_set (j := 1) (blk_set (j := 0) Va0 (.slice B3 m3 d3)) (.int .i64 r3)) (by decide) gea)
               have HB1 := hc1 ▸ (Below.setCell (Below.setCell (Below.setCell HB0 (p := ⟨sa, 0, none⟩) (show w.heap.size ≤ sa from gea) (.slice B3 m3 d3)) (p := ⟨sa, 1, none⟩) (show w.heap.size ≤ sa from gea) (.int .i64 r3)) (p := ⟨sa, 2, none⟩) (show w.heap.size ≤ sa from gea) (.int .i64 f3))
               have HZ1 : w.heap.size ≤ z1_.heap.size := by rw [← hc1]; simp only [World.setCell, Array.size_modify]; exact HZ0
               have hS1 := Lib.hid (And.intro Vx1 Vy1)
               have TH2 := Lib.hid (there3 Vb1)
               obtain ⟨z2_, hz2⟩ : ∃ Z, (z1_).setCells sb 0 [.slice B4 m4 d4, .int .i64 r4, .int .i64 f4] = Z := ⟨_, rfl⟩
               have hc2 : (((z1_.setCell ⟨sb, 0, none⟩ (.slice B4 m4 d4)).setCell ⟨sb, 1, none⟩ (.int .i64 r4)).setCell ⟨sb, 2, none⟩ (.int .i64 f4)) = z2_ := hz2
               have Va2 : z2_.heap[sa]? = some (.cells #[.slice B3 m3 d3, .int .i64 r3, .int .i64 f3] 24) := hc2 ▸ ((Below.heap_setCell _ ⟨sb, 2, none⟩ (.int .i64 f4) sa gab).trans ((Below.heap_setCell _ ⟨sb, 1, none⟩ (.int .i64 r4) sa gab).trans ((Below.heap_setCell _ ⟨sb, 0, none⟩ (.slice B4 m4 d4) sa gab).trans Va1)))
               have Vb2 : z2_.heap[sb]? = some (.cells #[.slice B4 m4 d4, .int .i64 r4, .int .i64 f4] 24) := hc2 ▸ (blk_set (j := 2) (blk_set (j := 1) (blk_set (j := 0) Vb1 (.slice B4 m4 d4)) (.int .i64 r4)) (.int .i64 f4))
               have Vp2 : z2_.heap[w.heap.size]? = some (.cells #[.int .u32 p0, .int .u32 p1, .int .u32 p2, .int .u32 p3, .int .u32 p4, .int .u32 p5, .int .u32 p6, .int .u32 p7, .int .u32 p8, .int .u32 p9, .int .u32 p10, .int .u32 p11, .int .u32 p12, .int .u32 p13, .int .u32 p14, .int .u32 p15] 48) := hc2 ▸ ((Below.heap_setCell _ ⟨sb, 2, none⟩ (.int .i64 f4) w.heap.size gpb).trans ((Below.heap_setCell _ ⟨sb, 1, none⟩ (.int .i64 r4) w.heap.size gpb).trans ((Below.heap_setCell _ ⟨sb, 0, none⟩ (.slice B4 m4 d4) w.heap.size gpb).trans Vp1)))
               have Vx2 : z2_.heap[sx]? = some (.cells #[.slice B3 m3 d3, .int .i64 r3, .int .i64 f3] 24) := hc2 ▸ ((Below.heap_setCell _ ⟨sb, 2, none⟩ (.int .i64 f4) sx gxb').trans ((Below.heap_setCell _ ⟨sb, 1, none⟩ (.int .i64 r4) sx gxb').trans ((Below.heap_setCell _ ⟨sb, 0, none⟩ (.slice B4 m4 d4) sx gxb').trans Vx1)))
               have Vy2 : z2_.heap[sy]? = some (.cells #[.slice B4 m4 d4, .int .i64 r4, .int .i64 f4] 24) := hc2 ▸ ((Below.heap_setCell _ ⟨sb, 2, none⟩ (.int .i64 f4) sy gyb').trans ((Below.heap_setCell _ ⟨sb, 1, none⟩ (.int .i64 r4) sy gyb').trans ((Below.heap_setCell _ ⟨sb, 0, none⟩ (.slice B4 m4 d4) sy gyb').trans Vy1)))
               have Rx2 := hc2 ▸ (Ro.set (o := 2) (u := .int .i64 f4) (Ro.set (o := 1) (u := .int .i64 r4) (Ro.set (o := 0) (u := .slice B4 m4 d4) Rx1 Vb1 (by decide) geb) (blk_set (j := 0) Vb1 (.slice B4 m4 d4)) (by decide) geb) (blk_set (j := 1) (blk_set (j := 0) Vb1 (.slice B4 m4 d4)) (.int .i64 r4)) (by decide) geb)
               have Ry2 := hc2 ▸ (Ro.set (o := 2) (u := .int .i64 f4) (Ro.set (o := 1) (u := .int .i64 r4) (Ro.set (o := 0) (u := .slice B4 m4 d4) Ry1 Vb1 (by decide) geb) (blk_set (j := 0) Vb1 (.slice B4 m4 d4)) (by decide) geb) (blk_set (j := 1) (blk_set (j := 0) Vb1 (.slice B4 m4 d4)) (.int .i64 r4)) (by decide) geb)
               have HB2 := hc2 ▸ (Below.setCell (Below.setCell (Below.setCell HB1 (p := ⟨sb, 0, none⟩) (show w.heap.size ≤ sb from geb) (.slice B4 m4 d4)) (p := ⟨sb, 1, none⟩) (show w.heap.size ≤ sb from geb) (.int .i64 r4)) (p := ⟨sb, 2, none⟩) (show w.heap.size ≤ sb from geb) (.int .i64 f4))
               have HZ2 : w.heap.size ≤ z2_.heap.size := by rw [← hc2]; simp only [World.setCell, Array.size_modify]; exact HZ1
               have hS2 := Lib.hid (And.intro Vx2 Vy2)
               have Va3 := Lib.hid Va2
               have Vb3 := Lib.hid Vb2
               have Vp3 := Lib.hid Vp2
               have Rx3 := Lib.hid Rx2
               have Ry3 := Lib.hid Ry2
               have HB3 := Lib.hid (And.intro HB2 HZ2)
               replace hz1 := Lib.hid hz1; replace hz2 := Lib.hid hz2
               clear hc1 hc2 Va Vb Rx Ry HB Va0 Vb0 Vp0 Vx0 Vy0 Rx0 Ry0 HB0 HZ0 Va1 Vb1 Vp1 Vx1 Vy1 Rx1 Ry1 HB1 HZ1 Va2 Vb2 Vp2 Vx2 Vy2 Rx2 Ry2 HB2 HZ2
               go_upto_region 20 with fail
               refine wp_region_noPanic ?_
               refine wp_region_held_drew (S := (fun wv => Hid (wv.heap[sx]? = some (.cells #[.slice B3 m3 d3, .int .i64 r3, .int .i64 f3] 24) ∧ wv.heap[sy]? = some (.cells #[.slice B4 m4 d4, .int .i64 r4, .int .i64 f4] 24)))) (by kernel_rfl) (Lib.hid ⟨Vx.out, Vy.out⟩) (fun hS => ?_)
               refine wpAnyH_take (i := 0) (oi := ⟨some 103, .load 24 (.tmp 13), 24, "law.go:104", #[], none⟩) (v := .agg (([.slice B3 m3 d3, .int .i64 r3, .int .i64 f3] : List Value)).toArray) rfl (by kernel_rfl) (by kernel_rfl) (by kernel_rfl) (fun _ _ _ h => h) (yieldsIf_load_mid (by rfl) _ _ (by rfl) (sx) (0) (by rfl) (([.slice B3 m3 d3, .int .i64 r3, .int .i64 f3] : List Value)) _ (fun wv hS => blk_rngl hS.out.1) Try.underlying24 (by rfl) (by kernel_rfl)) hS ?_
               try simp only [Act.put, List.setIfInBounds_toArray, List.set_cons_zero, List.set_cons_succ]
               refine wpAnyH_take (i := 1) (oi := ⟨some 104, .load 24 (.tmp 17), 24, "law.go:104", #[⟨2, .gcOnly .lateStores⟩], none⟩) (v := .agg (([.slice B4 m4 d4, .int .i64 r4, .int .i64 f4] : List Value)).toArray) rfl (by kernel_rfl) (by kernel_rfl) (by kernel_rfl) (fun _ _ _ h => h) (yieldsIf_load_mid (by rfl) _ _ (by rfl) (sy) (0) (by rfl) (([.slice B4 m4 d4, .int .i64 r4, .int .i64 f4] : List Value)) _ (fun wv hS => blk_rngl hS.out.2) Try.underlying24 (by rfl) (by kernel_rfl)) hS ?_
               try simp only [Act.put, List.setIfInBounds_toArray, List.set_cons_zero, List.set_cons_succ]
               refine wpAnyH_ready (rs := [2]) (by kernel_rfl) (by simp) (AllReadyH.cons (o := ⟨none, .store 24 (.tmp 7) (.tmp 103), 0, "law.go:104", #[⟨0, .data⟩, ⟨0, .phase⟩, ⟨1, .textOnly .lateStores⟩], none⟩) rfl (fun K hK => ?_) AllReadyH.nil)
               refine op_store9 (by rfl) rfl rfl rfl TH1.out (by kernel_rfl) (one3 _ _ _ _ _) hz1.out ?_
               replace hS := hS1
               refine Shut.out hK _ _ hS (fun _ => ?_)
               clear hK K
               try simp only [Act.put, List.setIfInBounds_toArray, List.set_cons_zero, List.set_cons_succ]
               refine wpAnyH_ready (rs := [3]) (by kernel_rfl) (by simp) (AllReadyH.cons (o := ⟨none, .store 24 (.tmp 9) (.tmp 104), 0, "law.go:104", #[⟨1, .data⟩, ⟨2, .chain⟩, ⟨0, .phase⟩, ⟨1, .phase⟩, ⟨2, .phase⟩], none⟩) rfl (fun K hK => ?_) AllReadyH.nil)
               refine op_store9 (by rfl) rfl rfl rfl TH2.out (by kernel_rfl) (one3 _ _ _ _ _) hz2.out ?_
               replace hS := hS2
               refine Shut.out hK _ _ hS (fun _ => ?_)
               clear hK K
               try simp only [Act.put, List.setIfInBounds_toArray, List.set_cons_zero, List.set_cons_succ]
               refine wpAnyH_done (by kernel_rfl) ?_ _
               refine NoPanic.normal ?_
               go_wp2
               go_roundw
               case rel => exact ⟨i + 1, _, _, _, _, _, _, _, _, _, _, _, _, _, _, _, _, by go_num, by omega, Va3, Vb3, Vp3, Rx3, Ry3, O3, O4, HB3⟩
               case measure => simp [intOf]; omega
          · clear HER
            obtain ⟨j, hj⟩ : ∃ j : Nat, (n : Int) - 1 - (i : Int) = (j : Int) := ⟨n - 1 - i, by omega⟩
            have hj2 : j = n - 1 - i := by omega
            have hw9 : IntKind.i64.wrap ((n : Int) - 1) = (n : Int) - 1 := by rw [IntKind.wrap_i64]; omega
            have hw8 : IntKind.i64.wrap ((n : Int) - 1 - (i : Int)) = (j : Int) := by rw [IntKind.wrap_i64]; omega
            have j0 : (0 : Int) ≤ (j : Int) := by omega
            have j1 : (j : Int) < (n : Int) := by omega
            obtain ⟨bq, offq, yq, eq_, hbq, hcq, y0q, y1q, _, hgq⟩ := (Bs.below BX.out HB.out.1).look j (by omega)
            obtain ⟨Kq, hKq⟩ : ∃ K : Nat, yq % 16 = K := ⟨(yq % 16).toNat, by omega⟩
            have hk16q : Kq < 16 := by omega
            have hkkq : kk ks (j) = (Kq : Int) := by unfold kk; rw [hgq, hKq]
            have htq : yq.tmod 16 = (Kq : Int) := by rw [Int.tmod_eq_emod_of_nonneg y0q]; exact hKq
            have hwuq : IntKind.u8.wrap (Kq : Int) = (Kq : Int) := by rw [IntKind.wrap_u8]; omega
            have hwiq : IntKind.i64.wrap (Kq : Int) = (Kq : Int) := by rw [IntKind.wrap_i64]; omega
            have k0q : (0 : Int) ≤ (Kq : Int) := by omega
            have k1q : (Kq : Int) < 16 := by omega
            clear hgq
            injection eq_ with eq1
            injection eq1 with eq2 eq3
            subst eq2; subst eq3
            obtain ⟨⟨n4, r4, f4⟩, pl4, er4, fl4, l4, he, her, ho4⟩ := O2.out.ins (k := (Kq : Int)) k0q k1q
            obtain ⟨qq, hqq⟩ : ∃ x, pr (Kq : Int) = x := ⟨_, rfl⟩
            rw [hqq] at he
            have cpq : wd13.cell? ⟨w.heap.size, Kq, none⟩ = some (.int .u32 qq) := (blk_cell Vp.out Kq).trans (hqq ▸ HP.out Kq hk16q)
            rw [← hkkq, hj2, ← S2_step] at ho4
            have O4 := Lib.hid ho4
            have HER := Lib.hid her
            have CT := Lib.hid (show ∀ W, Rn w W B2 m2 d2 n2 → Calls Try.prog 9 #[.agg #[.slice B2 m2 d2, .int .i64 r2, .int .i64 f2], .int .i64 (Kq : Int), .int .u32 qq] W (IAs w W n4 r4 f4 pl4 er4) from fun W h => insAs (Kq : Int) qq h (by have := HM2.out; omega) he)
            clear he her ho4 hqq hkkq hj hj2
            have HCK := Lib.hid hcq; have HCP := Lib.hid cpq
            have hbk2 := hbq
            have ltp2 := blk_lt Vp.out
            have gw0 := HB.out.2
            generalize hg0 : wd13.heap.size = g0 at *
            have BZ := Lib.hid (show ∀ X, Below g0 wd13 X → Below wd13.heap.size wd13 X from fun X h => by rw [hg0]; exact h)
            have HS : Below g0 wd13 wd13 := by have h := Below.refl wd13.heap.size wd13; rwa [hg0] at h
            go_upto_region 17 with fail
            go_cut [17, 18, 19] from 49 to 104 (fun s17 s18 s19 wx => ∃ (sX : Nat) (B4 : Option Addr) (m4 d4 : Nat), s17 = .pointer (some ⟨sX, 0, none⟩) ∧ s18 = .int .i64 pl4 ∧ s19 = .int .i64 er4 ∧ Hid (wx.heap[sX]? = some (.cells #[.slice B4 m4 d4, .int .i64 r4, .int .i64 f4] 24)) ∧ Hid (Rn w wx B4 m4 d4 n4) ∧ Hid (Below g0 wd13 wx) ∧ g0 ≤ sX)
            case first => as_aux_lemma =>
              refine wp_region_noPanic ?_
              refine wp_region_held_drew (S := (fun wv => Below g0 wd13 wv)) (by kernel_rfl) (HS.drew) (fun hS => ?_)
              refine wpAnyH_take (i := 0) (oi := ⟨some 88, .load 24 (.tmp 9), 24, "law.go:100", #[], none⟩) (v := .agg (([.slice B2 m2 d2, .int .i64 r2, .int .i64 f2] : List Value)).toArray) rfl (by kernel_rfl) (by kernel_rfl) (by kernel_rfl) (fun _ _ _ h => h) (yieldsIf_load_mid (by rfl) _ _ (by rfl) (sb) (0) (by rfl) (([.slice B2 m2 d2, .int .i64 r2, .int .i64 f2] : List Value)) _ (fun wv hS => blk_rngl (blk_below Vb.out (BZ.out _ hS) (blk_lt Vb.out))) Try.underlying24 (by rfl) (by kernel_rfl)) hS ?_
              try simp only [Act.put, List.setIfInBounds_toArray, List.set_cons_zero, List.set_cons_succ]
              refine wpAnyH_take (i := 1) (oi := ⟨some 89, .move (.tmp 16), 3, "law.go:100", #[], none⟩) (v := ?_) rfl (by kernel_rfl) (by kernel_rfl) (by kernel_rfl) (fun _ _ _ h => h) (Or.inl ⟨by rfl, ?_⟩) hS ?_
              rotate_left
              · intro wv _; go_simp; try with_reducible rfl
              try simp only [Act.put, List.setIfInBounds_toArray, List.set_cons_zero, List.set_cons_succ]
              refine wpAnyH_take (i := 2) (oi := ⟨some 90, .move (.tmp 16), 3, "law.go:100", #[], none⟩) (v := ?_) rfl (by kernel_rfl) (by kernel_rfl) (by kernel_rfl) (fun _ _ _ h => h) (Or.inl ⟨by rfl, ?_⟩) hS ?_
              rotate_left
              · intro wv _; go_simp; try with_reducible rfl
              try simp only [Act.put, List.setIfInBounds_toArray, List.set_cons_zero, List.set_cons_succ]
              refine wpAnyH_take (i := 3) (oi := ⟨some 91, .indexAddr 48 (.tmp 5) (.tmp 90), 0, "law.go:100", #[⟨2, .data⟩], none⟩) (v := ?_) rfl (by kernel_rfl) (by kernel_rfl) (by kernel_rfl) (fun _ _ _ h => h) (Or.inl ⟨by rfl, ?_⟩) hS ?_
              rotate_left
              · intro wv _; go_simp; try with_reducible rfl
              try simp only [Act.put, List.setIfInBounds_toArray, List.set_cons_zero, List.set_cons_succ]
              refine wpAnyH_take (i := 4) (oi := ⟨some 92, .load 25 (.tmp 91), 25, "law.go:100", #[⟨3, .data⟩], none⟩) (v := ?_) rfl (by kernel_rfl) (by kernel_rfl) (by kernel_rfl) (fun _ _ _ h => h) (Or.inl ⟨by rfl, ?_⟩) hS ?_
              rotate_left
              · intro wv hS; have hrun := ((BZ.out _ hS).cell (p := ⟨w.heap.size, Kq, none⟩) (by rw [hg0]; exact ltp2)).trans HCP.out; go_simp; try with_reducible rfl
              try simp only [Act.put, List.setIfInBounds_toArray, List.set_cons_zero, List.set_cons_succ]
              refine wpAnyH_ready (rs := [5, 10]) (by kernel_rfl) (by simp) (AllReadyH.cons (o := ⟨some 93, .call { callee := .value (.func 9), args := #[.tmp 88, .tmp 89, .tmp 92], argTypes := #[24, 3, 25] }, 29, "law.go:100", #[⟨0, .data⟩, ⟨1, .data⟩, ⟨4, .data⟩], none⟩) rfl (fun K hK => ?_) (AllReadyH.cons (o := ⟨some 17, .alloc 24, 0, "law.go:100", #[], none⟩) rfl (fun K hK => ?_) AllReadyH.nil))
              ·
               go_simp
               have HSw : Below g0 wd13 wd13.drew := HS.drew
               refine (CT.out wd13.drew (Ro.below Rb.out (BZ.out _ HSw))).mono ?_
               rintro e wg ⟨B4, m4, d4, rfl, hrr, hb⟩
               have zs : g0 ≤ wd13.drew.heap.size := by have h1 := HSw.size; rw [hg0] at h1; exact h1
               have RX := hrr
               replace HS := HSw.trans (hb.mono zs)
               clear HSw hb hrr zs
               replace hS := HS
               go_wp2_with fail
               refine Shut.out hK _ _ hS (fun _ => ?_)
               clear hK K
               try simp only [Act.put, List.setIfInBounds_toArray, List.set_cons_zero, List.set_cons_succ]
               refine wpAnyH_take (i := 6) (oi := ⟨some 87, .move (.tmp 93), 29, "law.go:100", #[⟨5, .data⟩], none⟩) (v := ?_) rfl (by kernel_rfl) (by kernel_rfl) (by kernel_rfl) (fun _ _ _ h => h) (Or.inl ⟨by rfl, ?_⟩) hS ?_
               rotate_left
               · intro wv _; go_simp; try with_reducible rfl
               try simp only [Act.put, List.setIfInBounds_toArray, List.set_cons_zero, List.set_cons_succ]
               refine wpAnyH_take (i := 7) (oi := ⟨some 94, .extract (.tmp 87) 0, 24, "law.go:100", #[⟨6, .data⟩], none⟩) (v := ?_) rfl (by kernel_rfl) (by kernel_rfl) (by kernel_rfl) (fun _ _ _ h => h) (Or.inl ⟨by rfl, ?_⟩) hS ?_
               rotate_left
               · intro wv _; go_simp; try with_reducible rfl
               try simp only [Act.put, List.setIfInBounds_toArray, List.set_cons_zero, List.set_cons_succ]
               refine wpAnyH_take (i := 8) (oi := ⟨some 95, .extract (.tmp 87) 1, 3, "law.go:100", #[⟨6, .data⟩, ⟨11, .gcOnly .lateStores⟩], none⟩) (v := ?_) rfl (by kernel_rfl) (by kernel_rfl) (by kernel_rfl) (fun _ _ _ h => h) (Or.inl ⟨by rfl, ?_⟩) hS ?_
               rotate_left
               · intro wv _; go_simp; try with_reducible rfl
               try simp only [Act.put, List.setIfInBounds_toArray, List.set_cons_zero, List.set_cons_succ]
               refine wpAnyH_take (i := 9) (oi := ⟨some 96, .extract (.tmp 87) 2, 28, "law.go:100", #[⟨6, .data⟩, ⟨12, .gcOnly .lateStores⟩], none⟩) (v := ?_) rfl (by kernel_rfl) (by kernel_rfl) (by kernel_rfl) (fun _ _ _ h => h) (Or.inl ⟨by rfl, ?_⟩) hS ?_
               rotate_left
               · intro wv _; go_simp; try with_reducible rfl
               try simp only [Act.put, List.setIfInBounds_toArray, List.set_cons_zero, List.set_cons_succ]
               refine wpAnyH_ready (rs := [10]) (by kernel_rfl) (by simp) (AllReadyH.cons (o := ⟨some 17, .alloc 24, 0, "law.go:100", #[], none⟩) rfl (fun K hK => ?_) AllReadyH.nil)
               go_simp
               have zs : g0 ≤ wg.heap.size := by have h1 := HS.size; rw [hg0] at h1; exact h1
               have bd : Below wg.heap.size wg (wg.alloc (.cells #[.slice none 0 0, .int .i64 0, .int .i64 0] 24)) := (Below.refl _ _).alloc (Nat.le_refl _) _
               replace RX := Ro.below RX bd
               have VX : (wg.alloc (.cells #[.slice none 0 0, .int .i64 0, .int .i64 0] 24)).heap[wg.heap.size]? = some (.cells #[.slice none 0 0, .int .i64 0, .int .i64 0] 24) := heap_alloc_new _ _
               have geX : g0 ≤ wg.heap.size := zs
               replace HS := HS.trans (bd.mono zs)
               clear bd zs
               generalize wg.alloc (.cells #[.slice none 0 0, .int .i64 0, .int .i64 0] 24) = y1_ at *
               generalize hsX_ : wg.heap.size = sX at *
               replace hS := HS
               have cx0 : y1_.cell? ⟨sX, 0, none⟩ = some (.slice none 0 0) := (blk_cell VX 0).trans rfl
               have fx0 : y1_.frozen? ⟨sX, 0, none⟩ = false := blk_frozen VX 0
               have cx1 : y1_.cell? ⟨sX, 1, none⟩ = some (.int .i64 0) := (blk_cell VX 1).trans rfl
               have fx1 : y1_.frozen? ⟨sX, 1, none⟩ = false := blk_frozen VX 1
               have cx2 : y1_.cell? ⟨sX, 2, none⟩ = some (.int .i64 0) := (blk_cell VX 2).trans rfl
               have fx2 : y1_.frozen? ⟨sX, 2, none⟩ = false := blk_frozen VX 2
               go_wp2_with fail
               refine Shut.out hK _ _ hS (fun _ => ?_)
               clear hK K
               try simp only [Act.put, List.setIfInBounds_toArray, List.set_cons_zero, List.set_cons_succ]
               refine wpAnyH_ready (rs := [11]) (by kernel_rfl) (by simp) (AllReadyH.cons (o := ⟨none, .store 24 (.tmp 17) (.tmp 94), 0, "law.go:100", #[⟨10, .data⟩, ⟨7, .data⟩, ⟨5, .chain⟩, ⟨0, .phase⟩, ⟨1, .phase⟩, ⟨2, .phase⟩, ⟨3, .phase⟩, ⟨4, .phase⟩, ⟨5, .phase⟩, ⟨6, .phase⟩, ⟨7, .phase⟩, ⟨8, .textOnly .lateStores⟩, ⟨9, .textOnly .lateStores⟩, ⟨10, .phase⟩], none⟩) rfl (fun K hK => ?_) AllReadyH.nil)
               go_simp
               have VX2 := (blk_set (j := 2) (blk_set (j := 1) (blk_set (j := 0) VX (.slice B4 m4 d4)) (.int .i64 r4)) (.int .i64 f4))
               have RX2 := (Ro.set (o := 2) (u := .int .i64 f4) (Ro.set (o := 1) (u := .int .i64 r4) (Ro.set (o := 0) (u := .slice B4 m4 d4) RX VX (by decide) (Nat.le_trans gw0 geX)) (blk_set (j := 0) VX (.slice B4 m4 d4)) (by decide) (Nat.le_trans gw0 geX)) (blk_set (j := 1) (blk_set (j := 0) VX (.slice B4 m4 d4)) (.int .i64 r4)) (by decide) (Nat.le_trans gw0 geX))
               have HS2 := (Below.setCell (Below.setCell (Below.setCell HS (p := ⟨sX, 0, none⟩) (show g0 ≤ sX from geX) (.slice B4 m4 d4)) (p := ⟨sX, 1, none⟩) (show g0 ≤ sX from geX) (.int .i64 r4)) (p := ⟨sX, 2, none⟩) (show g0 ≤ sX from geX) (.int .i64 f4))
               clear VX RX HS hS cx0 cx1 cx2 fx0 fx1 fx2
               generalize (((y1_.setCell ⟨sX, 0, none⟩ (.slice B4 m4 d4)).setCell ⟨sX, 1, none⟩ (.int .i64 r4)).setCell ⟨sX, 2, none⟩ (.int .i64 f4)) = z_ at *
               have VX : z_.heap[sX]? = some (.cells #[.slice B4 m4 d4, .int .i64 r4, .int .i64 f4] 24) := VX2
               have RX := RX2; have HS := HS2; have hS := HS2
               clear VX2 RX2 HS2
               refine Shut.out hK _ _ hS (fun _ => ?_)
               clear hK K
               try simp only [Act.put, List.setIfInBounds_toArray, List.set_cons_zero, List.set_cons_succ]
               refine wpAnyH_take (i := 12) (oi := ⟨some 18, .assign (.tmp 95), 3, "law.go:100", #[⟨8, .data⟩, ⟨11, .chain⟩, ⟨0, .phase⟩, ⟨1, .phase⟩, ⟨2, .phase⟩, ⟨3, .phase⟩, ⟨4, .phase⟩, ⟨5, .phase⟩, ⟨6, .phase⟩, ⟨7, .phase⟩, ⟨8, .phase⟩, ⟨9, .textOnly .lateStores⟩, ⟨10, .phase⟩, ⟨11, .phase⟩], none⟩) (v := ?_) rfl (by kernel_rfl) (by kernel_rfl) (by kernel_rfl) (fun _ _ _ h => h) (Or.inl ⟨by rfl, ?_⟩) hS ?_
               rotate_left
               · intro wv _; go_simp; try with_reducible rfl
               try simp only [Act.put, List.setIfInBounds_toArray, List.set_cons_zero, List.set_cons_succ]
               refine wpAnyH_take (i := 13) (oi := ⟨some 19, .assign (.tmp 96), 28, "law.go:100", #[⟨9, .data⟩, ⟨12, .chain⟩, ⟨0, .phase⟩, ⟨1, .phase⟩, ⟨2, .phase⟩, ⟨3, .phase⟩, ⟨4, .phase⟩, ⟨5, .phase⟩, ⟨6, .phase⟩, ⟨7, .phase⟩, ⟨8, .phase⟩, ⟨9, .phase⟩, ⟨10, .phase⟩, ⟨11, .phase⟩, ⟨12, .phase⟩], none⟩) (v := ?_) rfl (by kernel_rfl) (by kernel_rfl) (by kernel_rfl) (fun _ _ _ h => h) (Or.inl ⟨by rfl, ?_⟩) hS ?_
               rotate_left
               · intro wv _; go_simp; try with_reducible rfl
               try simp only [Act.put, List.setIfInBounds_toArray, List.set_cons_zero, List.set_cons_succ]
               refine wpAnyH_done (by kernel_rfl) ?_ _
               refine NoPanic.normal ?_
               go_wp2_with fail
               go_meet
               exact ⟨sX, B4, m4, d4, rfl, rfl, rfl, Lib.hid VX, Lib.hid RX, Lib.hid HS, geX⟩
              ·
               go_simp
               have zs : g0 ≤ g0 := Nat.le_refl _
               have bd : Below g0 wd13 (wd13.alloc (.cells #[.slice none 0 0, .int .i64 0, .int .i64 0] 24)) := by have h := (Below.refl wd13.heap.size wd13).alloc (Nat.le_refl _) (.cells #[.slice none 0 0, .int .i64 0, .int .i64 0] 24); rwa [hg0] at h
               have VX : (wd13.alloc (.cells #[.slice none 0 0, .int .i64 0, .int .i64 0] 24)).heap[g0]? = some (.cells #[.slice none 0 0, .int .i64 0, .int .i64 0] 24) := by have h := heap_alloc_new wd13 (.cells #[.slice none 0 0, .int .i64 0, .int .i64 0] 24); rw [hg0] at h; exact h
               have geX : g0 ≤ g0 := zs
               replace HS := HS.trans (bd.mono zs)
               clear bd zs
               generalize wd13.alloc (.cells #[.slice none 0 0, .int .i64 0, .int .i64 0] 24) = y1_ at *
               replace hS := HS.drew
               go_wp2_with fail
               refine Shut.out hK _ _ hS (fun _ => ?_)
               clear hK K
               try simp only [Act.put, List.setIfInBounds_toArray, List.set_cons_zero, List.set_cons_succ]
               refine wpAnyH_ready (rs := [5]) (by kernel_rfl) (by simp) (AllReadyH.cons (o := ⟨some 93, .call { callee := .value (.func 9), args := #[.tmp 88, .tmp 89, .tmp 92], argTypes := #[24, 3, 25] }, 29, "law.go:100", #[⟨0, .data⟩, ⟨1, .data⟩, ⟨4, .data⟩], none⟩) rfl (fun K hK => ?_) AllReadyH.nil)
               go_simp
               have HSw : Below g0 wd13 y1_.drew := HS.drew
               refine (CT.out y1_.drew (Ro.below Rb.out (BZ.out _ HSw))).mono ?_
               rintro e wg ⟨B4, m4, d4, rfl, hrr, hb⟩
               have zs : g0 ≤ y1_.drew.heap.size := by have h1 := HSw.size; rw [hg0] at h1; exact h1
               replace VX := blk_below (show y1_.drew.heap[_]? = _ from VX) hb (blk_lt VX)
               have RX := hrr
               replace HS := HSw.trans (hb.mono zs)
               clear HSw hb hrr zs
               replace hS := HS
               have cx0 : wg.cell? ⟨g0, 0, none⟩ = some (.slice none 0 0) := (blk_cell VX 0).trans rfl
               have fx0 : wg.frozen? ⟨g0, 0, none⟩ = false := blk_frozen VX 0
               have cx1 : wg.cell? ⟨g0, 1, none⟩ = some (.int .i64 0) := (blk_cell VX 1).trans rfl
               have fx1 : wg.frozen? ⟨g0, 1, none⟩ = false := blk_frozen VX 1
               have cx2 : wg.cell? ⟨g0, 2, none⟩ = some (.int .i64 0) := (blk_cell VX 2).trans rfl
               have fx2 : wg.frozen? ⟨g0, 2, none⟩ = false := blk_frozen VX 2
               go_wp2_with fail
               refine Shut.out hK _ _ hS (fun _ => ?_)
               clear hK K
               try simp only [Act.put, List.setIfInBounds_toArray, List.set_cons_zero, List.set_cons_succ]
               refine wpAnyH_take (i := 6) (oi := ⟨some 87, .move (.tmp 93), 29, "law.go:100", #[⟨5, .data⟩], none⟩) (v := ?_) rfl (by kernel_rfl) (by kernel_rfl) (by kernel_rfl) (fun _ _ _ h => h) (Or.inl ⟨by rfl, ?_⟩) hS ?_
               rotate_left
               · intro wv _; go_simp; try with_reducible rfl
               try simp only [Act.put, List.setIfInBounds_toArray, List.set_cons_zero, List.set_cons_succ]
               refine wpAnyH_take (i := 7) (oi := ⟨some 94, .extract (.tmp 87) 0, 24, "law.go:100", #[⟨6, .data⟩], none⟩) (v := ?_) rfl (by kernel_rfl) (by kernel_rfl) (by kernel_rfl) (fun _ _ _ h => h) (Or.inl ⟨by rfl, ?_⟩) hS ?_
               rotate_left
               · intro wv _; go_simp; try with_reducible rfl
               try simp only [Act.put, List.setIfInBounds_toArray, List.set_cons_zero, List.set_cons_succ]
               refine wpAnyH_take (i := 8) (oi := ⟨some 95, .extract (.tmp 87) 1, 3, "law.go:100", #[⟨6, .data⟩, ⟨11, .gcOnly .lateStores⟩], none⟩) (v := ?_) rfl (by kernel_rfl) (by kernel_rfl) (by kernel_rfl) (fun _ _ _ h => h) (Or.inl ⟨by rfl, ?_⟩) hS ?_
               rotate_left
               · intro wv _; go_simp; try with_reducible rfl
               try simp only [Act.put, List.setIfInBounds_toArray, List.set_cons_zero, List.set_cons_succ]
               refine wpAnyH_take (i := 9) (oi := ⟨some 96, .extract (.tmp 87) 2, 28, "law.go:100", #[⟨6, .data⟩, ⟨12, .gcOnly .lateStores⟩], none⟩) (v := ?_) rfl (by kernel_rfl) (by kernel_rfl) (by kernel_rfl) (fun _ _ _ h => h) (Or.inl ⟨by rfl, ?_⟩) hS ?_
               rotate_left
               · intro wv _; go_simp; try with_reducible rfl
               try simp only [Act.put, List.setIfInBounds_toArray, List.set_cons_zero, List.set_cons_succ]
               refine wpAnyH_ready (rs := [11]) (by kernel_rfl) (by simp) (AllReadyH.cons (o := ⟨none, .store 24 (.tmp 17) (.tmp 94), 0, "law.go:100", #[⟨10, .data⟩, ⟨7, .data⟩, ⟨5, .chain⟩, ⟨0, .phase⟩, ⟨1, .phase⟩, ⟨2, .phase⟩, ⟨3, .phase⟩, ⟨4, .phase⟩, ⟨5, .phase⟩, ⟨6, .phase⟩, ⟨7, .phase⟩, ⟨8, .textOnly .lateStores⟩, ⟨9, .textOnly .lateStores⟩, ⟨10, .phase⟩], none⟩) rfl (fun K hK => ?_) AllReadyH.nil)
               go_simp
               have VX2 := (blk_set (j := 2) (blk_set (j := 1) (blk_set (j := 0) VX (.slice B4 m4 d4)) (.int .i64 r4)) (.int .i64 f4))
               have RX2 := (Ro.set (o := 2) (u := .int .i64 f4) (Ro.set (o := 1) (u := .int .i64 r4) (Ro.set (o := 0) (u := .slice B4 m4 d4) RX VX (by decide) (Nat.le_trans gw0 geX)) (blk_set (j := 0) VX (.slice B4 m4 d4)) (by decide) (Nat.le_trans gw0 geX)) (blk_set (j := 1) (blk_set (j := 0) VX (.slice B4 m4 d4)) (.int .i64 r4)) (by decide) (Nat.le_trans gw0 geX))
               have HS2 := (Below.setCell (Below.setCell (Below.setCell HS (p := ⟨g0, 0, none⟩) (show g0 ≤ g0 from geX) (.slice B4 m4 d4)) (p := ⟨g0, 1, none⟩) (show g0 ≤ g0 from geX) (.int .i64 r4)) (p := ⟨g0, 2, none⟩) (show g0 ≤ g0 from geX) (.int .i64 f4))
               clear VX RX HS hS cx0 cx1 cx2 fx0 fx1 fx2
               generalize (((wg.setCell ⟨g0, 0, none⟩ (.slice B4 m4 d4)).setCell ⟨g0, 1, none⟩ (.int .i64 r4)).setCell ⟨g0, 2, none⟩ (.int .i64 f4)) = z_ at *
               have VX : z_.heap[g0]? = some (.cells #[.slice B4 m4 d4, .int .i64 r4, .int .i64 f4] 24) := VX2
               have RX := RX2; have HS := HS2; have hS := HS2
               clear VX2 RX2 HS2
               refine Shut.out hK _ _ hS (fun _ => ?_)
               clear hK K
               try simp only [Act.put, List.setIfInBounds_toArray, List.set_cons_zero, List.set_cons_succ]
               refine wpAnyH_take (i := 12) (oi := ⟨some 18, .assign (.tmp 95), 3, "law.go:100", #[⟨8, .data⟩, ⟨11, .chain⟩, ⟨0, .phase⟩, ⟨1, .phase⟩, ⟨2, .phase⟩, ⟨3, .phase⟩, ⟨4, .phase⟩, ⟨5, .phase⟩, ⟨6, .phase⟩, ⟨7, .phase⟩, ⟨8, .phase⟩, ⟨9, .textOnly .lateStores⟩, ⟨10, .phase⟩, ⟨11, .phase⟩], none⟩) (v := ?_) rfl (by kernel_rfl) (by kernel_rfl) (by kernel_rfl) (fun _ _ _ h => h) (Or.inl ⟨by rfl, ?_⟩) hS ?_
               rotate_left
               · intro wv _; go_simp; try with_reducible rfl
               try simp only [Act.put, List.setIfInBounds_toArray, List.set_cons_zero, List.set_cons_succ]
               refine wpAnyH_take (i := 13) (oi := ⟨some 19, .assign (.tmp 96), 28, "law.go:100", #[⟨9, .data⟩, ⟨12, .chain⟩, ⟨0, .phase⟩, ⟨1, .phase⟩, ⟨2, .phase⟩, ⟨3, .phase⟩, ⟨4, .phase⟩, ⟨5, .phase⟩, ⟨6, .phase⟩, ⟨7, .phase⟩, ⟨8, .phase⟩, ⟨9, .phase⟩, ⟨10, .phase⟩, ⟨11, .phase⟩, ⟨12, .phase⟩], none⟩) (v := ?_) rfl (by kernel_rfl) (by kernel_rfl) (by kernel_rfl) (fun _ _ _ h => h) (Or.inl ⟨by rfl, ?_⟩) hS ?_
               rotate_left
               · intro wv _; go_simp; try with_reducible rfl
               try simp only [Act.put, List.setIfInBounds_toArray, List.set_cons_zero, List.set_cons_succ]
               refine wpAnyH_done (by kernel_rfl) ?_ _
               refine NoPanic.normal ?_
               go_wp2_with fail
               go_meet
               exact ⟨g0, B4, m4, d4, rfl, rfl, rfl, Lib.hid VX, Lib.hid RX, Lib.hid HS, geX⟩
            case rest =>
            obtain ⟨sy, B4, m4, d4, rfl, rfl, rfl, Vy, Ry, hS, gey0⟩ := hcut
            obtain ⟨wd17, hwd⟩ : ∃ x, x = wc := ⟨_, rfl⟩
            subst hwd
            have hb := BZ.out _ hS.out
            have ltp_ := blk_lt Vp.out
            rw [hg0] at ltp_
            have nep_y : w.heap.size ≠ sy := by omega
            have lta_ := blk_lt Va.out
            rw [hg0] at lta_
            have nea_y : sa ≠ sy := by omega
            have ltb_ := blk_lt Vb.out
            rw [hg0] at ltb_
            have neb_y : sb ≠ sy := by omega
            have ltx_ := blk_lt Vx.out
            rw [hg0] at ltx_
            have nex_y : sx ≠ sy := by omega
            have gey : w.heap.size ≤ sy := Nat.le_trans gw0 gey0
            replace HB := Lib.hid (show Below w.heap.size w wd13 ∧ w.heap.size ≤ wd13.heap.size from ⟨HB.out.1, by rw [hg0]; exact HB.out.2⟩)
            clear hcq cpq HCK HCP hbq hbk2 ltp2
            replace Vp := Lib.hid (blk_below Vp.out hb (blk_lt Vp.out))
            replace Va := Lib.hid (blk_below Va.out hb (blk_lt Va.out))
            replace Vb := Lib.hid (blk_below Vb.out hb (blk_lt Vb.out))
            replace Vx := Lib.hid (blk_below Vx.out hb (blk_lt Vx.out))
            replace Ra := Lib.hid (Ro.below Ra.out hb)
            replace Rb := Lib.hid (Ro.below Rb.out hb)
            replace Rx := Lib.hid (Ro.below Rx.out hb)
            replace HB := Lib.hid (And.intro (HB.out.1.trans (hb.mono HB.out.2)) (Nat.le_trans HB.out.2 hb.size))
            clear hb BZ HS hS gw0 CT ltp_ lta_ ltb_ ltx_ gey0 hg0
            rcases HER.out with rfl | rfl
            · as_aux_lemma =>
               have gxa := nea_x; have gxb := neb_x; have gya := nea_y; have gyb := neb_y; have gab := nea_b; have gpa := nep_a; have gpb := nep_b
               have gxa' := gxa.symm; have gxb' := gxb.symm; have gya' := gya.symm; have gyb' := gyb.symm; have gab' := gab.symm
               have Va0 : wd17.drew.heap[sa]? = some (.cells #[.slice B1 m1 d1, .int .i64 r1, .int .i64 f1] 24) := Va.out
               have Vb0 : wd17.drew.heap[sb]? = some (.cells #[.slice B2 m2 d2, .int .i64 r2, .int .i64 f2] 24) := Vb.out
               have Vp0 : wd17.drew.heap[w.heap.size]? = some (.cells #[.int .u32 p0, .int .u32 p1, .int .u32 p2, .int .u32 p3, .int .u32 p4, .int .u32 p5, .int .u32 p6, .int .u32 p7, .int .u32 p8, .int .u32 p9, .int .u32 p10, .int .u32 p11, .int .u32 p12, .int .u32 p13, .int .u32 p14, .int .u32 p15] 48) := Vp.out
               have Vx0 : wd17.drew.heap[sx]? = some (.cells #[.slice B3 m3 d3, .int .i64 r3, .int .i64 f3] 24) := Vx.out
               have Vy0 : wd17.drew.heap[sy]? = some (.cells #[.slice B4 m4 d4, .int .i64 r4, .int .i64 f4] 24) := Vy.out
               have Rx0 := Rx.out.drew; have Ry0 := Ry.out.drew
               have HB0 := HB.out.1.drew
               have HZ0 : w.heap.size ≤ wd17.drew.heap.size := HB.out.2
               have TH1 := Lib.hid (there3 Va0)
               obtain ⟨z1_, hz1⟩ : ∃ Z, (wd17.drew).setCells sa 0 [.slice B3 m3 d3, .int .i64 r3, .int .i64 f3] = Z := ⟨_, rfl⟩
               have hc1 : (((wd17.drew.setCell ⟨sa, 0, none⟩ (.slice B3 m3 d3)).setCell ⟨sa, 1, none⟩ (.int .i64 r3)).setCell ⟨sa, 2, none⟩ (.int .i64 f3)) = z1_ := hz1
               have Va1 : z1_.heap[sa]? = some (.cells #[.slice B3 m3 d3, .int .i64 r3, .int .i64 f3] 24) := hc1 ▸ (blk_set (j := 2) (blk_set (j := 1) (blk_set (j := 0) Va0 (.slice B3 m3 d3)) (.int .i64 r3)) (.int .i64 f3))
               have Vb1 : z1_.heap[sb]? = some (.cells #[.slice B2 m2 d2, .int .i64 r2, .int .i64 f2] 24) := hc1 ▸ ((Below.heap_setCell _ ⟨sa, 2, none⟩ (.int .i64 f3) sb gab').trans ((Below.heap_setCell _ ⟨sa, 1, none⟩ (.int .i64 r3) sb gab').trans ((Below.heap_setCell _ ⟨sa, 0, none⟩ (.slice B3 m3 d3) sb gab').trans Vb0)))
               have Vp1 : z1_.heap[w.heap.size]? = some (.cells #[.int .u32 p0, .int .u32 p1, .int .u32 p2, .int .u32 p3, .int .u32 p4, .int .u32 p5, .int .u32 p6, .int .u32 p7, .int .u32 p8, .int .u32 p9, .int .u32 p10, .int .u32 p11, .int .u32 p12, .int .u32 p13, .int .u32 p14, .int .u32 p15] 48) := hc1 ▸ ((Below.heap_setCell _ ⟨sa, 2, none⟩ (.int .i64 f3) w.heap.size gpa).trans ((Below.heap_setCell _ ⟨sa, 1, none⟩ (.int .i64 r3) w.heap.size gpa).trans ((Below.heap_setCell _ ⟨sa, 0, none⟩ (.slice B3 m3 d3) w.heap.size gpa).trans Vp0)))
               have Vx1 : z1_.heap[sx]? = some (.cells #[.slice B3 m3 d3, .int .i64 r3, .int .i64 f3] 24) := hc1 ▸ ((Below.heap_setCell _ ⟨sa, 2, none⟩ (.int .i64 f3) sx gxa').trans ((Below.heap_setCell _ ⟨sa, 1, none⟩ (.int .i64 r3) sx gxa').trans ((Below.heap_setCell _ ⟨sa, 0, none⟩ (.slice B3 m3 d3) sx gxa').trans Vx0)))
               have Vy1 : z1_.heap[sy]? = some (.cells #[.slice B4 m4 d4, .int .i64 r4, .int .i64 f4] 24) := hc1 ▸ ((Below.heap_setCell _ ⟨sa, 2, none⟩ (.int .i64 f3) sy gya').trans ((Below.heap_setCell _ ⟨sa, 1, none⟩ (.int .i64 r3) sy gya').trans ((Below.heap_setCell _ ⟨sa, 0, none⟩ (.slice B3 m3 d3) sy gya').trans Vy0)))
               have Rx1 := hc1 ▸ (Ro.set (o := 2) (u := .int .i64 f3) (Ro.set (o := 1) (u := .int .i64 r3) (Ro.set (o := 0) (u := .slice B3 m3 d3) Rx0 Va0 (by decide) gea) (blk_set (j := 0) Va0 (.slice B3 m3 d3)) (by decide) gea) (blk_set (j := 1) (blk_set (j := 0) Va0 (.slice B3 m3 d3)) (.int .i64 r3)) (by decide) gea)
               have Ry1 := hc1 ▸ (Ro.set (o := 2) (u := .int .i64 f3) (Ro.set (o := 1) (u := .int .i64 r3) (Ro.set (o := 0) (u := .slice B3 m3 d3) Ry0 Va0 (by decide) gea) (blk_set (j := 0) Va0 (.slice B3 m3 d3)) (by decide) gea) (blk_set (j := 1) (blk_set (j := 0) Va0 (.slice B3 m3 d3)) (.int .i64 r3)) (by decide) gea)
               have HB1 := hc1 ▸ (Below.setCell (Below.setCell (Below.setCell HB0 (p := ⟨sa, 0, none⟩) (show w.heap.size ≤ sa from gea) (.slice B3 m3 d3)) (p := ⟨sa, 1, none⟩) (show w.heap.size ≤ sa from gea) (.int .i64 r3)) (p := ⟨sa, 2, none⟩) (show w.heap.size ≤ sa from gea) (.int .i64 f3))
               have HZ1 : w.heap.size ≤ z1_.heap.size := by rw [← hc1]; simp only [World.setCell, Array.size_modify]; exact HZ0
               have hS1 := Lib.hid (And.intro Vx1 Vy1)
               have TH2 := Lib.hid (there3 Vb1)
               obtain ⟨z2_, hz2⟩ : ∃ Z, (z1_).setCells sb 0 [.slice B4 m4 d4, .int .i64 r4, .int .i64 f4] = Z := ⟨_, rfl⟩
               have hc2 : (((z1_.setCell ⟨sb, 0, none⟩ (.slice B4 m4 d4)).setCell ⟨sb, 1, none⟩ (.int .i64 r4)).setCell ⟨sb, 2, none⟩ (.int .i64 f4)) = z2_ := hz2
               have Va2 : z2_.heap[sa]? = some (.cells #[.slice B3 m3 d3, .int .i64 r3, .int .i64 f3] 24) := hc2 ▸ ((Below.heap_setCell _ ⟨sb, 2, none⟩ (.int .i64 f4) sa gab).trans ((Below.heap_setCell _ ⟨sb, 1, none⟩ (.int .i64 r4) sa gab).trans ((Below.heap_setCell _ ⟨sb, 0, none⟩ (.slice B4 m4 d4) sa gab).trans Va1)))
               have Vb2 : z2_.heap[sb]? = some (.cells #[.slice B4 m4 d4, .int .i64 r4, .int .i64 f4] 24) := hc2 ▸ (blk_set (j := 2) (blk_set (j := 1) (blk_set (j := 0) Vb1 (.slice B4 m4 d4)) (.int .i64 r4)) (.int .i64 f4))
               have Vp2 : z2_.heap[w.heap.size]? = some (.cells #[.int .u32 p0, .int .u32 p1, .int .u32 p2, .int .u32 p3, .int .u32 p4, .int .u32 p5, .int .u32 p6, .int .u32 p7, .int .u32 p8, .int .u32 p9, .int .u32 p10, .int .u32 p11, .int .u32 p12, .int .u32 p13, .int .u32 p14, .int .u32 p15] 48) := hc2 ▸ ((Below.heap_setCell _ ⟨sb, 2, none⟩ (.int .i64 f4) w.heap.size gpb).trans ((Below.heap_setCell _ ⟨sb, 1, none⟩ (.int .i64 r4) w.heap.size gpb).trans ((Below.heap_setCell _ ⟨sb, 0, none⟩ (.slice B4 m4 d4) w.heap.size gpb).trans Vp1)))
               have Vx2 : z2_.heap[sx]? = some (.cells #[.slice B3 m3 d3, .int .i64 r3, .int .i64 f3] 24) := hc2 ▸ ((Below.heap_setCell _ ⟨sb, 2, none⟩ (.int .i64 f4) sx gxb').trans ((Below.heap_setCell _ ⟨sb, 1, none⟩ (.int .i64 r4) sx gxb').trans ((Below.heap_setCell _ ⟨sb, 0, none⟩ (.slice B4 m4 d4) sx gxb').trans Vx1)))
               have Vy2 : z2_.heap[sy]? = some (.cells #[.slice B4 m4 d4, .int .i64 r4, .int .i64 f4] 24) := hc2 ▸ ((Below.heap_setCell _ ⟨sb, 2, none⟩ (.int .i64 f4) sy gyb').trans ((Below.heap_setCell _ ⟨sb, 1, none⟩ (.int .i64 r4) sy gyb').trans ((Below.heap_setCell _ ⟨sb, 0, none⟩ (.slice B4 m4 d4) sy gyb').trans Vy1)))
               have Rx2 := hc2 ▸ (Ro.set (o := 2) (u := .int .i64 f4) (Ro.set (o := 1) (u := .int .i64 r4) (Ro.set (o := 0) (u := .slice B4 m4 d4) Rx1 Vb1 (by decide) geb) (blk_set (j := 0) Vb1 (.slice B4 m4 d4)) (by decide) geb) (blk_set (j := 1) (blk_set (j := 0) Vb1 (.slice B4 m4 d4)) (.int .i64 r4)) (by decide) geb)
               have Ry2 := hc2 ▸ (Ro.set (o := 2) (u := .int .i64 f4) (Ro.set (o := 1) (u := .int .i64 r4) (Ro.set (o := 0) (u := .slice B4 m4 d4) Ry1 Vb1 (by decide) geb) (blk_set (j := 0) Vb1 (.slice B4 m4 d4)) (by decide) geb) (blk_set (j := 1) (blk_set (j := 0) Vb1 (.slice B4 m4 d4)) (.int .i64 r4)) (by decide) geb)
               have HB2 := hc2 ▸ (Below.setCell (Below.setCell (Below.setCell HB1 (p := ⟨sb, 0, none⟩) (show w.heap.size ≤ sb from geb) (.slice B4 m4 d4)) (p := ⟨sb, 1, none⟩) (show w.heap.size ≤ sb from geb) (.int .i64 r4)) (p := ⟨sb, 2, none⟩) (show w.heap.size ≤ sb from geb) (.int .i64 f4))
               have HZ2 : w.heap.size ≤ z2_.heap.size := by rw [← hc2]; simp only [World.setCell, Array.size_modify]; exact HZ1
               have hS2 := Lib.hid (And.intro Vx2 Vy2)
               have Va3 := Lib.hid Va2
               have Vb3 := Lib.hid Vb2
               have Vp3 := Lib.hid Vp2
               have Rx3 := Lib.hid Rx2
               have Ry3 := Lib.hid Ry2
               have HB3 := Lib.hid (And.intro HB2 HZ2)
               replace hz1 := Lib.hid hz1; replace hz2 := Lib.hid hz2
               clear hc1 hc2 Va Vb Rx Ry HB Va0 Vb0 Vp0 Vx0 Vy0 Rx0 Ry0 HB0 HZ0 Va1 Vb1 Vp1 Vx1 Vy1 Rx1 Ry1 HB1 HZ1 Va2 Vb2 Vp2 Vx2 Vy2 Rx2 Ry2 HB2 HZ2
               go_upto_region 20 with fail
               refine wp_region_noPanic ?_
               refine wp_region_held_drew (S := (fun wv => Hid (wv.heap[sx]? = some (.cells #[.slice B3 m3 d3, .int .i64 r3, .int .i64 f3] 24) ∧ wv.heap[sy]? = some (.cells #[.slice B4 m4 d4, .int .i64 r4, .int .i64 f4] 24)))) (by kernel_rfl) (Lib.hid ⟨Vx.out, Vy.out⟩) (fun hS => ?_)
               refine wpAnyH_take (i := 0) (oi := ⟨some 103, .load 24 (.tmp 13), 24, "law.go:104", #[], none⟩) (v := .agg (([.slice B3 m3 d3, .int .i64 r3, .int .i64 f3] : List Value)).toArray) rfl (by kernel_rfl) (by kernel_rfl) (by kernel_rfl) (fun _ _ _ h => h) (yieldsIf_load_mid (by rfl) _ _ (by rfl) (sx) (0) (by rfl) (([.slice B3 m3 d3, .int .i64 r3, .int .i64 f3] : List Value)) _ (fun wv hS => blk_rngl hS.out.1) Try.underlying24 (by rfl) (by kernel_rfl)) hS ?_
               try simp only [Act.put, List.setIfInBounds_toArray, List.set_cons_zero, List.set_cons_succ]
               refine wpAnyH_take (i := 1) (oi := ⟨some 104, .load 24 (.tmp 17), 24, "law.go:104", #[⟨2, .gcOnly .lateStores⟩], none⟩) (v := .agg (([.slice B4 m4 d4, .int .i64 r4, .int .i64 f4] : List Value)).toArray) rfl (by kernel_rfl) (by kernel_rfl) (by kernel_rfl) (fun _ _ _ h => h) (yieldsIf_load_mid (by rfl) _ _ (by rfl) (sy) (0) (by rfl) (([.slice B4 m4 d4, .int .i64 r4, .int .i64 f4] : List Value)) _ (fun wv hS => blk_rngl hS.out.2) Try.underlying24 (by rfl) (by kernel_rfl)) hS ?_
               try simp only [Act.put, List.setIfInBounds_toArray, List.set_cons_zero, List.set_cons_succ]
               refine wpAnyH_ready (rs := [2]) (by kernel_rfl) (by simp) (AllReadyH.cons (o := ⟨none, .store 24 (.tmp 7) (.tmp 103), 0, "law.go:104", #[⟨0, .data⟩, ⟨0, .phase⟩, ⟨1, .textOnly .lateStores⟩], none⟩) rfl (fun K hK => ?_) AllReadyH.nil)
               refine op_store9 (by rfl) rfl rfl rfl TH1.out (by kernel_rfl) (one3 _ _ _ _ _) hz1.out ?_
               replace hS := hS1
               refine Shut.out hK _ _ hS (fun _ => ?_)
               clear hK K
               try simp only [Act.put, List.setIfInBounds_toArray, List.set_cons_zero, List.set_cons_succ]
               refine wpAnyH_ready (rs := [3]) (by kernel_rfl) (by simp) (AllReadyH.cons (o := ⟨none, .store 24 (.tmp 9) (.tmp 104), 0, "law.go:104", #[⟨1, .data⟩, ⟨2, .chain⟩, ⟨0, .phase⟩, ⟨1, .phase⟩, ⟨2, .phase⟩], none⟩) rfl (fun K hK => ?_) AllReadyH.nil)
               refine op_store9 (by rfl) rfl rfl rfl TH2.out (by kernel_rfl) (one3 _ _ _ _ _) hz2.out ?_
               replace hS := hS2
               refine Shut.out hK _ _ hS (fun _ => ?_)
               clear hK K
               try simp only [Act.put, List.setIfInBounds_toArray, List.set_cons_zero, List.set_cons_succ]
               refine wpAnyH_done (by kernel_rfl) ?_ _
               refine NoPanic.normal ?_
               go_wp2
               go_roundw
               case rel => exact ⟨i + 1, _, _, _, _, _, _, _, _, _, _, _, _, _, _, _, _, by go_num, by omega, Va3, Vb3, Vp3, Rx3, Ry3, O3, O4, HB3⟩
               case measure => simp [intOf]; omega
            · as_aux_lemma =>
               have gxa := nea_x; have gxb := neb_x; have gya := nea_y; have gyb := neb_y; have gab := nea_b; have gpa := nep_a; have gpb := nep_b
               have gxa' := gxa.symm; have gxb' := gxb.symm; have gya' := gya.symm; have gyb' := gyb.symm; have gab' := gab.symm
               have Va0 : wd17.drew.heap[sa]? = some (.cells #[.slice B1 m1 d1, .int .i64 r1, .int .i64 f1] 24) := Va.out
               have Vb0 : wd17.drew.heap[sb]? = some (.cells #[.slice B2 m2 d2, .int .i64 r2, .int .i64 f2] 24) := Vb.out
               have Vp0 : wd17.drew.heap[w.heap.size]? = some (.cells #[.int .u32 p0, .int .u32 p1, .int .u32 p2, .int .u32 p3, .int .u32 p4, .int .u32 p5, .int .u32 p6, .int .u32 p7, .int .u32 p8, .int .u32 p9, .int .u32 p10, .int .u32 p11, .int .u32 p12, .int .u32 p13, .int .u32 p14, .int .u32 p15] 48) := Vp.out
               have Vx0 : wd17.drew.heap[sx]? = some (.cells #[.slice B3 m3 d3, .int .i64 r3, .int .i64 f3] 24) := Vx.out
               have Vy0 : wd17.drew.heap[sy]? = some (.cells #[.slice B4 m4 d4, .int .i64 r4, .int .i64 f4] 24) := Vy.out
               have Rx0 := Rx.out.drew; have Ry0 := Ry.out.drew
               have HB0 := HB.out.1.drew
               have HZ0 : w.heap.size ≤ wd17.drew.heap.size := HB.out.2
               have TH1 := Lib.hid (there3 Va0)
               obtain ⟨z1_, hz1⟩ : ∃ Z, (wd17.drew).setCells sa 0 [.slice B3 m3 d3, .int .i64 r3, .int .i64 f3] = Z := ⟨_, rfl⟩
               have hc1 : (((wd17.drew.setCell ⟨sa, 0, none⟩ (.slice B3 m3 d3)).setCell ⟨sa, 1, none⟩ (.int .i64 r3)).setCell ⟨sa, 2, none⟩ (.int .i64 f3)) = z1_ := hz1
               have Va1 : z1_.heap[sa]? = some (.cells #[.slice B3 m3 d3, .int .i64 r3, .int .i64 f3] 24) := hc1 ▸ (blk_set (j := 2) (blk_set (j := 1) (blk_set (j := 0) Va0 (.slice B3 m3 d3)) (.int .i64 r3)) (.int .i64 f3))
               have Vb1 : z1_.heap[sb]? = some (.cells #[.slice B2 m2 d2, .int .i64 r2, .int .i64 f2] 24) := hc1 ▸ ((Below.heap_setCell _ ⟨sa, 2, none⟩ (.int .i64 f3) sb gab').trans ((Below.heap_setCell _ ⟨sa, 1, none⟩ (.int .i64 r3) sb gab').trans ((Below.heap_setCell _ ⟨sa, 0, none⟩ (.slice B3 m3 d3) sb gab').trans Vb0)))
               have Vp1 : z1_.heap[w.heap.size]? = some (.cells #[.int .u32 p0, .int .u32 p1, .int .u32 p2, .int .u32 p3, .int .u32 p4, .int .u32 p5, .int .u32 p6, .int .u32 p7, .int .u32 p8, .int .u32 p9, .int .u32 p10, .int .u32 p11, .int .u32 p12, .int .u32 p13, .int .u32 p14, .int .u32 p15] 48) := hc1 ▸ ((Below.heap_setCell _ ⟨sa, 2, none⟩ (.int .i64 f3) w.heap.size gpa).trans ((Below.heap_setCell _ ⟨sa, 1, none⟩ (.int .i64 r3) w.heap.size gpa).trans ((Below.heap_setCell _ ⟨sa, 0, none⟩ (.slice B3 m3 d3) w.heap.size gpa).trans Vp0)))
               have Vx1 : z1_.heap[sx]? = some (.cells #[.slice B3 m3 d3, .int .i64 r3, .int .i64 f3] 24) := hc1 ▸ ((Below.heap_setCell _ ⟨sa, 2, none⟩ (.int .i64 f3) sx gxa').trans ((Below.heap_setCell _ ⟨sa, 1, none⟩ (.int .i64 r3) sx gxa').trans ((Below.heap_setCell _ ⟨sa, 0, none⟩ (.slice B3 m3 d3) sx gxa').trans Vx0)))
               have Vy1 : z1_.heap[sy]? = some (.cells #[.slice B4 m4 d4, .int .i64 r4, .int .i64 f4] 24) := hc1 ▸ ((Below.heap_setCell _ ⟨sa, 2, none⟩ (.int .i64 f3) sy gya').trans ((Below.heap_setCell _ ⟨sa, 1, none⟩ (.int .i64 r3) sy gya').trans ((Below.heap_setCell _ ⟨sa, 0, none⟩ (.slice B3 m3 d3) sy gya').trans Vy0)))
               have Rx1 := hc1 ▸ (Ro.set (o := 2) (u := .int .i64 f3) (Ro.set (o := 1) (u := .int .i64 r3) (Ro.set (o := 0) (u := .slice B3 m3 d3) Rx0 Va0 (by decide) gea) (blk_set (j := 0) Va0 (.slice B3 m3 d3)) (by decide) gea) (blk_set (j := 1) (blk_set (j := 0) Va0 (.slice B3 m3 d3)) (.int .i64 r3)) (by decide) gea)
               have Ry1 := hc1 ▸ (Ro.set (o := 2) (u := .int .i64 f3) (Ro.set (o := 1) (u := .int .i64 r3) (Ro.set (o := 0) (u := .slice B3 m3 d3) Ry0 Va0 (by decide) gea) (blk_set (j := 0) Va0 (.slice B3 m3 d3)) (by decide) gea) (blk_set (j := 1) (blk_set (j := 0) Va0 (.slice B3 m3 d3)) (.int .i64 r3)) (by decide) gea)
               have HB1 := hc1 ▸ (Below.setCell (Below.setCell (Below.setCell HB0 (p := ⟨sa, 0, none⟩) (show w.heap.size ≤ sa from gea) (.slice B3 m3 d3)) (p := ⟨sa, 1, none⟩) (show w.heap.size ≤ sa from gea) (.int .i64 r3)) (p := ⟨sa, 2, none⟩) (show w.heap.size ≤ sa from gea) (.int .i64 f3))
               have HZ1 : w.heap.size ≤ z1_.heap.size := by rw [← hc1]; simp only [World.setCell, Array.size_modify]; exact HZ0
               have hS1 := Lib.hid (And.intro Vx1 Vy1)
               have TH2 := Lib.hid (there3 Vb1)
               obtain ⟨z2_, hz2⟩ : ∃ Z, (z1_).setCells sb 0 [.slice B4 m4 d4, .int .i64 r4, .int .i64 f4] = Z := ⟨_, rfl⟩
               have hc2 : (((z1_.setCell ⟨sb, 0, none⟩ (.slice B4 m4 d4)).setCell ⟨sb, 1, none⟩ (.int .i64 r4)).setCell ⟨sb, 2, none⟩ (.int .i64 f4)) = z2_ := hz2
               have Va2 : z2_.heap[sa]? = some (.cells #[.slice B3 m3 d3, .int .i64 r3, .int .i64 f3] 24) := hc2 ▸ ((Below.heap_setCell _ ⟨sb, 2, none⟩ (.int .i64 f4) sa gab).trans ((Below.heap_setCell _ ⟨sb, 1, none⟩ (.int .i64 r4) sa gab).trans ((Below.heap_setCell _ ⟨sb, 0, none⟩ (.slice B4 m4 d4) sa gab).trans Va1)))
               have Vb2 : z2_.heap[sb]? = some (.cells #[.slice B4 m4 d4, .int .i64 r4, .int .i64 f4] 24) := hc2 ▸ (blk_set (j := 2) (blk_set (j := 1) (blk_set (j := 0) Vb1 (.slice B4 m4 d4)) (.int .i64 r4)) (.int .i64 f4))
               have Vp2 : z2_.heap[w.heap.size]? = some (.cells #[.int .u32 p0, .int .u32 p1, .int .u32 p2, .int .u32 p3, .int .u32 p4, .int .u32 p5, .int .u32 p6, .int .u32 p7, .int .u32 p8, .int .u32 p9, .int .u32 p10, .int .u32 p11, .int .u32 p12, .int .u32 p13, .int .u32 p14, .int .u32 p15] 48) := hc2 ▸ ((Below.heap_setCell _ ⟨sb, 2, none⟩ (.int .i64 f4) w.heap.size gpb).trans ((Below.heap_setCell _ ⟨sb, 1, none⟩ (.int .i64 r4) w.heap.size gpb).trans ((Below.heap_setCell _ ⟨sb, 0, none⟩ (.slice B4 m4 d4) w.heap.size gpb).trans Vp1)))
               have Vx2 : z2_.heap[sx]? = some (.cells #[.slice B3 m3 d3, .int .i64 r3, .int .i64 f3] 24) := hc2 ▸ ((Below.heap_setCell _ ⟨sb, 2, none⟩ (.int .i64 f4) sx gxb').trans ((Below.heap_setCell _ ⟨sb, 1, none⟩ (.int .i64 r4) sx gxb').trans ((Below.heap_setCell _ ⟨sb, 0, none⟩ (.slice B4 m4 d4) sx gxb').trans Vx1)))
               have Vy2 : z2_.heap[sy]? = some (.cells #[.slice B4 m4 d4, .int .i64 r4, .int .i64 f4] 24) := hc2 ▸ ((Below.heap_setCell _ ⟨sb, 2, none⟩ (.int .i64 f4) sy gyb').trans ((Below.heap_setCell _ ⟨sb, 1, none⟩ (.int .i64 r4) sy gyb').trans ((Below.heap_setCell _ ⟨sb, 0, none⟩ (.slice B4 m4 d4) sy gyb').trans Vy1)))
               have Rx2 := hc2 ▸ (Ro.set (o := 2) (u := .int .i64 f4) (Ro.set (o := 1) (u := .int .i64 r4) (Ro.set (o := 0) (u := .slice B4 m4 d4) Rx1 Vb1 (by decide) geb) (blk_set (j := 0) Vb1 (.slice B4 m4 d4)) (by decide) geb) (blk_set (j := 1) (blk_set (j := 0) Vb1 (.slice B4 m4 d4)) (.int .i64 r4)) (by decide) geb)
               have Ry2 := hc2 ▸ (Ro.set (o := 2) (u := .int .i64 f4) (Ro.set (o := 1) (u := .int .i64 r4) (Ro.set (o := 0) (u := .slice B4 m4 d4) Ry1 Vb1 (by decide) geb) (blk_set (j := 0) Vb1 (.slice B4 m4 d4)) (by decide) geb) (blk_set (j := 1) (blk_set (j := 0) Vb1 (.slice B4 m4 d4)) (.int .i64 r4)) (by decide) geb)
               have HB2 := hc2 ▸ (Below.setCell (Below.setCell (Below.setCell HB1 (p := ⟨sb, 0, none⟩) (show w.heap.size ≤ sb from geb) (.slice B4 m4 d4)) (p := ⟨sb, 1, none⟩) (show w.heap.size ≤ sb from geb) (.int .i64 r4)) (p := ⟨sb, 2, none⟩) (show w.heap.size ≤ sb from geb) (.int .i64 f4))
               have HZ2 : w.heap.size ≤ z2_.heap.size := by rw [← hc2]; simp only [World.setCell, Array.size_modify]; exact HZ1
               have hS2 := Lib.hid (And.intro Vx2 Vy2)
               have Va3 := Lib.hid Va2
               have Vb3 := Lib.hid Vb2
               have Vp3 := Lib.hid Vp2
               have Rx3 := Lib.hid Rx2
               have Ry3 := Lib.hid Ry2
               have HB3 := Lib.hid (And.intro HB2 HZ2)
               replace hz1 := Lib.hid hz1; replace hz2 := Lib.hid hz2
               clear hc1 hc2 Va Vb Rx Ry HB Va0 Vb0 Vp0 Vx0 Vy0 Rx0 Ry0 HB0 HZ0 Va1 Vb1 Vp1 Vx1 Vy1 Rx1 Ry1 HB1 HZ1 Va2 Vb2 Vp2 Vx2 Vy2 Rx2 Ry2 HB2 HZ2
               go_upto_region 20 with fail
               refine wp_region_noPanic ?_
               refine wp_region_held_drew (S := (fun wv => Hid (wv.heap[sx]? = some (.cells #[.slice B3 m3 d3, .int .i64 r3, .int .i64 f3] 24) ∧ wv.heap[sy]? = some (.cells #[.slice B4 m4 d4, .int .i64 r4, .int .i64 f4] 24)))) (by kernel_rfl) (Lib.hid ⟨Vx.out, Vy.out⟩) (fun hS => ?_)
               refine wpAnyH_take (i := 0) (oi := ⟨some 103, .load 24 (.tmp 13), 24, "law.go:104", #[], none⟩) (v := .agg (([.slice B3 m3 d3, .int .i64 r3, .int .i64 f3] : List Value)).toArray) rfl (by kernel_rfl) (by kernel_rfl) (by kernel_rfl) (fun _ _ _ h => h) (yieldsIf_load_mid (by rfl) _ _ (by rfl) (sx) (0) (by rfl) (([.slice B3 m3 d3, .int .i64 r3, .int .i64 f3] : List Value)) _ (fun wv hS => blk_rngl hS.out.1) Try.underlying24 (by rfl) (by kernel_rfl)) hS ?_
               try simp only [Act.put, List.setIfInBounds_toArray, List.set_cons_zero, List.set_cons_succ]
               refine wpAnyH_take (i := 1) (oi := ⟨some 104, .load 24 (.tmp 17), 24, "law.go:104", #[⟨2, .gcOnly .lateStores⟩], none⟩) (v := .agg (([.slice B4 m4 d4, .int .i64 r4, .int .i64 f4] : List Value)).toArray) rfl (by kernel_rfl) (by kernel_rfl) (by kernel_rfl) (fun _ _ _ h => h) (yieldsIf_load_mid (by rfl) _ _ (by rfl) (sy) (0) (by rfl) (([.slice B4 m4 d4, .int .i64 r4, .int .i64 f4] : List Value)) _ (fun wv hS => blk_rngl hS.out.2) Try.underlying24 (by rfl) (by kernel_rfl)) hS ?_
               try simp only [Act.put, List.setIfInBounds_toArray, List.set_cons_zero, List.set_cons_succ]
               refine wpAnyH_ready (rs := [2]) (by kernel_rfl) (by simp) (AllReadyH.cons (o := ⟨none, .store 24 (.tmp 7) (.tmp 103), 0, "law.go:104", #[⟨0, .data⟩, ⟨0, .phase⟩, ⟨1, .textOnly .lateStores⟩], none⟩) rfl (fun K hK => ?_) AllReadyH.nil)
               refine op_store9 (by rfl) rfl rfl rfl TH1.out (by kernel_rfl) (one3 _ _ _ _ _) hz1.out ?_
               replace hS := hS1
               refine Shut.out hK _ _ hS (fun _ => ?_)
               clear hK K
               try simp only [Act.put, List.setIfInBounds_toArray, List.set_cons_zero, List.set_cons_succ]
               refine wpAnyH_ready (rs := [3]) (by kernel_rfl) (by simp) (AllReadyH.cons (o := ⟨none, .store 24 (.tmp 9) (.tmp 104), 0, "law.go:104", #[⟨1, .data⟩, ⟨2, .chain⟩, ⟨0, .phase⟩, ⟨1, .phase⟩, ⟨2, .phase⟩], none⟩) rfl (fun K hK => ?_) AllReadyH.nil)
               refine op_store9 (by rfl) rfl rfl rfl TH2.out (by kernel_rfl) (one3 _ _ _ _ _) hz2.out ?_
               replace hS := hS2
               refine Shut.out hK _ _ hS (fun _ => ?_)
               clear hK K
               try simp only [Act.put, List.setIfInBounds_toArray, List.set_cons_zero, List.set_cons_succ]
               refine wpAnyH_done (by kernel_rfl) ?_ _
               refine NoPanic.normal ?_
               go_wp2
               go_roundw
               case rel => exact ⟨i + 1, _, _, _, _, _, _, _, _, _, _, _, _, _, _, _, _, by go_num, by omega, Va3, Vb3, Vp3, Rx3, Ry3, O3, O4, HB3⟩
               case measure => simp [intOf]; omega
        · have c1 : decide ((i : Int) < (n : Int)) = false := by simp; omega
          have c1n : decide (i < n) = false := by simp; omega
          have en : i = n := by omega
          have OA := O1.out
          have OB := O2.out
          rw [en] at OA OB
          rw [S_all] at OB
          have O1 := Lib.hid OA; have O2 := Lib.hid OB
          clear OA OB en hlt hi HM1 HM2
          obtain ⟨wo, hwo⟩ : ∃ x, x = wr := ⟨_, rfl⟩
          subst hwo
          go_wp2
          go_loopw [20, 21, 22, 23, 24] (fun iv _ _ _ _ wr => ∃ (S : Int → Prop), ∃ (i : Nat) (B1 : Option Addr) (m1 d1 : Nat) (n1 : List Nd) (r1 f1 : Int) (B2 : Option Addr) (m2 d2 : Nat) (n2 : List Nd) (r2 f2 : Int) (fl1 l1 fl2 l2 : List Int), iv = .int .i64 (i : Int) ∧ i ≤ m ∧ Hid (wr.heap[sa]? = some (.cells #[.slice B1 m1 d1, .int .i64 r1, .int .i64 f1] 24)) ∧ Hid (wr.heap[sb]? = some (.cells #[.slice B2 m2 d2, .int .i64 r2, .int .i64 f2] 24)) ∧ Hid (wr.heap[w.heap.size]? = some (.cells #[.int .u32 p0, .int .u32 p1, .int .u32 p2, .int .u32 p3, .int .u32 p4, .int .u32 p5, .int .u32 p6, .int .u32 p7, .int .u32 p8, .int .u32 p9, .int .u32 p10, .int .u32 p11, .int .u32 p12, .int .u32 p13, .int .u32 p14, .int .u32 p15] 48)) ∧ Hid (Rn w wr B1 m1 d1 n1) ∧ Hid (Rn w wr B2 m2 d2 n2) ∧ Hid (OInv pr (n1, r1, f1) S fl1 l1) ∧ Hid (OInv pr (n2, r2, f2) S fl2 l2) ∧ Hid (Below w.heap.size w wr ∧ w.heap.size ≤ wr.heap.size)) (fun iv _ _ _ _ _ => m - (intOf iv).toNat)
          case atStart => exact ⟨S1 ks n, 0, _, _, _, _, _, _, _, _, _, _, _, _, _, _, _, _, rfl, by omega, Va.out, Vb.out, Vp.out, Ra.out, Rb.out, O1.out, O2.out, HB.out⟩
          case round =>
            clear Va Vb Vp Ra Rb O1 O2 HB
            obtain ⟨S, t, B1, m1, d1, n1, r1, f1, B2, m2, d2, n2, r2, f2, fl1, l1, fl2, l2, rfl, ht, Va, Vb, Vp, Ra, Rb, O1, O2, HB⟩ := hrel
            have HM1 := Lib.hid (show m1 = 16 from by have h1 := Ra.out.es.len; rw [ndC_len] at h1; have h2 := O1.out.len; simp only at h2; omega)
            have HM2 := Lib.hid (show m2 = 16 from by have h1 := Rb.out.es.len; rw [ndC_len] at h1; have h2 := O2.out.len; simp only at h2; omega)
            by_cases hlt : t < m
            · have c2 : decide ((t : Int) < (m : Int)) = true := by simpa using hlt
              have t0 : (0 : Int) ≤ (t : Int) := by omega
              have t1 : (t : Int) < (m : Int) := by omega
              have T1 := Lib.hid hlt
              clear hlt
              have hlt := T1.out
              obtain ⟨bk, offk, yk, ek_, hbk, hck, y0k, y1k, _, hgk⟩ := (Bs.below BY.out HB.out.1).look t (by omega)
              obtain ⟨Kk, hKk⟩ : ∃ K : Nat, yk % 16 = K := ⟨(yk % 16).toNat, by omega⟩
              have hk16k : Kk < 16 := by omega
              have hkkk : kk ds (t) = (Kk : Int) := by unfold kk; rw [hgk, hKk]
              have htk : yk.tmod 16 = (Kk : Int) := by rw [Int.tmod_eq_emod_of_nonneg y0k]; exact hKk
              have hwuk : IntKind.u8.wrap (Kk : Int) = (Kk : Int) := by rw [IntKind.wrap_u8]; omega
              have hwik : IntKind.i64.wrap (Kk : Int) = (Kk : Int) := by rw [IntKind.wrap_i64]; omega
              have k0k : (0 : Int) ≤ (Kk : Int) := by omega
              have k1k : (Kk : Int) < 16 := by omega
              clear hgk
              clear hlt
              subst ek_
              have HKK := Lib.hid hkkk
              obtain ⟨⟨n3, r3, f3⟩, er, fl3, l3, he, hes, hen, ho⟩ := O1.out.del (Kk : Int)
              have O3 := Lib.hid ho
              have HES := Lib.hid hes; have HEN := Lib.hid hen
              clear ho hes hen
              have CT := Lib.hid (show ∀ W, Rn w W B1 m1 d1 n1 → Calls Try.prog 11 #[.agg #[.slice B1 m1 d1, .int .i64 r1, .int .i64 f1], .int .i64 (Kk : Int)] W (TAs w W n3 r3 f3 er) from fun W h => delAs (Kk : Int) h (by have := HM1.out; omega) he)
              clear he hkkk
              have HCK := Lib.hid hck
              have hbk2 := hbk
              have gw0 := HB.out.2
              generalize hg0 : wr.heap.size = g0 at *
              have BZ := Lib.hid (show ∀ X, Below g0 wr X → Below wr.heap.size wr X from fun X h => by rw [hg0]; exact h)
              have HS : Below g0 wr wr := by have h := Below.refl wr.heap.size wr; rwa [hg0] at h
              go_upto_region 24 with fail
              go_cut [21, 22] from 105 to 137 (fun s21 s22 wx => ∃ (sX : Nat) (B3 : Option Addr) (m3 d3 : Nat), s21 = .pointer (some ⟨sX, 0, none⟩) ∧ s22 = .int .i64 er ∧ Hid (wx.heap[sX]? = some (.cells #[.slice B3 m3 d3, .int .i64 r3, .int .i64 f3] 24)) ∧ Hid (Rn w wx B3 m3 d3 n3) ∧ Hid (Below g0 wr wx) ∧ g0 ≤ sX)
              case first => as_aux_lemma =>
                refine wp_region_noPanic ?_
                refine wp_region_held_drew (S := (fun wv => Below g0 wr wv)) (by kernel_rfl) (HS.drew) (fun hS => ?_)
                refine wpAnyH_take (i := 0) (oi := ⟨some 112, .load 24 (.tmp 7), 24, "law.go:107", #[], none⟩) (v := .agg (([.slice B1 m1 d1, .int .i64 r1, .int .i64 f1] : List Value)).toArray) rfl (by kernel_rfl) (by kernel_rfl) (by kernel_rfl) (fun _ _ _ h => h) (yieldsIf_load_mid (by rfl) _ _ (by rfl) (sa) (0) (by rfl) (([.slice B1 m1 d1, .int .i64 r1, .int .i64 f1] : List Value)) _ (fun wv hS => blk_rngl (blk_below Va.out (BZ.out _ hS) (blk_lt Va.out))) Try.underlying24 (by rfl) (by kernel_rfl)) hS ?_
                try simp only [Act.put, List.setIfInBounds_toArray, List.set_cons_zero, List.set_cons_succ]
                refine wpAnyH_take (i := 1) (oi := ⟨some 113, .move (.tmp 1), 47, "law.go:107", #[], none⟩) (v := ?_) rfl (by kernel_rfl) (by kernel_rfl) (by kernel_rfl) (fun _ _ _ h => h) (Or.inl ⟨by rfl, ?_⟩) hS ?_
                rotate_left
                · intro wv _; go_simp; try with_reducible rfl
                try simp only [Act.put, List.setIfInBounds_toArray, List.set_cons_zero, List.set_cons_succ]
                refine wpAnyH_take (i := 2) (oi := ⟨some 114, .move (.tmp 20), 3, "law.go:107", #[], none⟩) (v := ?_) rfl (by kernel_rfl) (by kernel_rfl) (by kernel_rfl) (fun _ _ _ h => h) (Or.inl ⟨by rfl, ?_⟩) hS ?_
                rotate_left
                · intro wv _; go_simp; try with_reducible rfl
                try simp only [Act.put, List.setIfInBounds_toArray, List.set_cons_zero, List.set_cons_succ]
                refine wpAnyH_take (i := 3) (oi := ⟨some 115, .indexAddr 47 (.tmp 113) (.tmp 114), 0, "law.go:107", #[⟨1, .data⟩, ⟨2, .data⟩], none⟩) (v := ?_) rfl (by kernel_rfl) (by kernel_rfl) (by kernel_rfl) (fun _ _ _ h => h) (Or.inl ⟨by rfl, ?_⟩) hS ?_
                rotate_left
                · intro wv _; go_simp; try with_reducible rfl
                try simp only [Act.put, List.setIfInBounds_toArray, List.set_cons_zero, List.set_cons_succ]
                refine wpAnyH_take (i := 4) (oi := ⟨some 116, .load 5 (.tmp 115), 5, "law.go:107", #[⟨3, .data⟩], none⟩) (v := ?_) rfl (by kernel_rfl) (by kernel_rfl) (by kernel_rfl) (fun _ _ _ h => h) (Or.inl ⟨by rfl, ?_⟩) hS ?_
                rotate_left
                · intro wv hS; have hrun := ((BZ.out _ hS).cell (p := ⟨bk, offk + t, none⟩) (by rw [hg0]; exact hbk2)).trans HCK.out; go_simp; try with_reducible rfl
                try simp only [Act.put, List.setIfInBounds_toArray, List.set_cons_zero, List.set_cons_succ]
                refine wpAnyH_take (i := 5) (oi := ⟨some 117, .binOp .rem 5 (.tmp 116) (.const (Value.int IntKind.u8 16)) 5, 5, "law.go:107", #[⟨4, .data⟩], none⟩) (v := ?_) rfl (by kernel_rfl) (by kernel_rfl) (by kernel_rfl) (fun _ _ _ h => h) (Or.inl ⟨by rfl, ?_⟩) hS ?_
                rotate_left
                · intro wv _; go_simp; try with_reducible rfl
                try simp only [Act.put, List.setIfInBounds_toArray, List.set_cons_zero, List.set_cons_succ]
                refine wpAnyH_take (i := 6) (oi := ⟨some 118, .convert 5 3 (.tmp 117), 3, "law.go:107", #[⟨5, .data⟩], none⟩) (v := ?_) rfl (by kernel_rfl) (by kernel_rfl) (by kernel_rfl) (fun _ _ _ h => h) (Or.inl ⟨by rfl, ?_⟩) hS ?_
                rotate_left
                · intro wv _; go_simp; try with_reducible rfl
                try simp only [Act.put, List.setIfInBounds_toArray, List.set_cons_zero, List.set_cons_succ]
                refine wpAnyH_ready (rs := [7, 11]) (by kernel_rfl) (by simp) (AllReadyH.cons (o := ⟨some 119, .call { callee := .value (.func 11), args := #[.tmp 112, .tmp 118], argTypes := #[24, 3] }, 31, "law.go:107", #[⟨0, .data⟩, ⟨6, .data⟩], none⟩) rfl (fun K hK => ?_) (AllReadyH.cons (o := ⟨some 21, .alloc 24, 0, "law.go:107", #[], none⟩) rfl (fun K hK => ?_) AllReadyH.nil))
                ·
                 go_simp
                 have HSw : Below g0 wr wr.drew := HS.drew
                 refine (CT.out wr.drew (Ro.below Ra.out (BZ.out _ HSw))).mono ?_
                 rintro e wg ⟨B3, m3, d3, rfl, hrr, hb⟩
                 have zs : g0 ≤ wr.drew.heap.size := by have h1 := HSw.size; rw [hg0] at h1; exact h1
                 have RX := hrr
                 replace HS := HSw.trans (hb.mono zs)
                 clear HSw hb hrr zs
                 replace hS := HS
                 go_wp2_with fail
                 refine Shut.out hK _ _ hS (fun _ => ?_)
                 clear hK K
                 try simp only [Act.put, List.setIfInBounds_toArray, List.set_cons_zero, List.set_cons_succ]
                 refine wpAnyH_take (i := 8) (oi := ⟨some 111, .move (.tmp 119), 31, "law.go:107", #[⟨7, .data⟩], none⟩) (v := ?_) rfl (by kernel_rfl) (by kernel_rfl) (by kernel_rfl) (fun _ _ _ h => h) (Or.inl ⟨by rfl, ?_⟩) hS ?_
                 rotate_left
                 · intro wv _; go_simp; try with_reducible rfl
                 try simp only [Act.put, List.setIfInBounds_toArray, List.set_cons_zero, List.set_cons_succ]
                 refine wpAnyH_take (i := 9) (oi := ⟨some 120, .extract (.tmp 111) 0, 24, "law.go:107", #[⟨8, .data⟩], none⟩) (v := ?_) rfl (by kernel_rfl) (by kernel_rfl) (by kernel_rfl) (fun _ _ _ h => h) (Or.inl ⟨by rfl, ?_⟩) hS ?_
                 rotate_left
                 · intro wv _; go_simp; try with_reducible rfl
                 try simp only [Act.put, List.setIfInBounds_toArray, List.set_cons_zero, List.set_cons_succ]
                 refine wpAnyH_take (i := 10) (oi := ⟨some 121, .extract (.tmp 111) 1, 28, "law.go:107", #[⟨8, .data⟩, ⟨12, .gcOnly .lateStores⟩], none⟩) (v := ?_) rfl (by kernel_rfl) (by kernel_rfl) (by kernel_rfl) (fun _ _ _ h => h) (Or.inl ⟨by rfl, ?_⟩) hS ?_
                 rotate_left
                 · intro wv _; go_simp; try with_reducible rfl
                 try simp only [Act.put, List.setIfInBounds_toArray, List.set_cons_zero, List.set_cons_succ]
                 refine wpAnyH_ready (rs := [11]) (by kernel_rfl) (by simp) (AllReadyH.cons (o := ⟨some 21, .alloc 24, 0, "law.go:107", #[], none⟩) rfl (fun K hK => ?_) AllReadyH.nil)
                 go_simp
                 have zs : g0 ≤ wg.heap.size := by have h1 := HS.size; rw [hg0] at h1; exact h1
                 have bd : Below wg.heap.size wg (wg.alloc (.cells #[.slice none 0 0, .int .i64 0, .int .i64 0] 24)) := (Below.refl _ _).alloc (Nat.le_refl _) _
                 replace RX := Ro.below RX bd
                 have VX : (wg.alloc (.cells #[.slice none 0 0, .int .i64 0, .int .i64 0] 24)).heap[wg.heap.size]? = some (.cells #[.slice none 0 0, .int .i64 0, .int .i64 0] 24) := heap_alloc_new _ _
                 have geX : g0 ≤ wg.heap.size := zs
                 replace HS := HS.trans (bd.mono zs)
                 clear bd zs
                 generalize wg.alloc (.cells #[.slice none 0 0, .int .i64 0, .int .i64 0] 24) = y1_ at *
                 generalize hsX_ : wg.heap.size = sX at *
                 replace hS := HS
                 have cx0 : y1_.cell? ⟨sX, 0, none⟩ = some (.slice none 0 0) := (blk_cell VX 0).trans rfl
                 have fx0 : y1_.frozen? ⟨sX, 0, none⟩ = false := blk_frozen VX 0
                 have cx1 : y1_.cell? ⟨sX, 1, none⟩ = some (.int .i64 0) := (blk_cell VX 1).trans rfl
                 have fx1 : y1_.frozen? ⟨sX, 1, none⟩ = false := blk_frozen VX 1
                 have cx2 : y1_.cell? ⟨sX, 2, none⟩ = some (.int .i64 0) := (blk_cell VX 2).trans rfl
                 have fx2 : y1_.frozen? ⟨sX, 2, none⟩ = false := blk_frozen VX 2
                 go_wp2_with fail
                 refine Shut.out hK _ _ hS (fun _ => ?_)
                 clear hK K
                 try simp only [Act.put, List.setIfInBounds_toArray, List.set_cons_zero, List.set_cons_succ]
                 refine wpAnyH_ready (rs := [12]) (by kernel_rfl) (by simp) (AllReadyH.cons (o := ⟨none, .store 24 (.tmp 21) (.tmp 120), 0, "law.go:107", #[⟨11, .data⟩, ⟨9, .data⟩, ⟨7, .chain⟩, ⟨0, .phase⟩, ⟨1, .phase⟩, ⟨2, .phase⟩, ⟨3, .phase⟩, ⟨4, .phase⟩, ⟨5, .phase⟩, ⟨6, .phase⟩, ⟨7, .phase⟩, ⟨8, .phase⟩, ⟨9, .phase⟩, ⟨10, .textOnly .lateStores⟩, ⟨11, .phase⟩], none⟩) rfl (fun K hK => ?_) AllReadyH.nil)
                 go_simp
                 have VX2 := (blk_set (j := 2) (blk_set (j := 1) (blk_set (j := 0) VX (.slice B3 m3 d3)) (.int .i64 r3)) (.int .i64 f3))
                 have RX2 := (Ro.set (o := 2) (u := .int .i64 f3) (Ro.set (o := 1) (u := .int .i64 r3) (Ro.set (o := 0) (u := .slice B3 m3 d3) RX VX (by decide) (Nat.le_trans gw0 geX)) (blk_set (j := 0) VX (.slice B3 m3 d3)) (by decide) (Nat.le_trans gw0 geX)) (blk_set (j := 1) (blk_set (j := 0) VX (.slice B3 m3 d3)) (.int .i64 r3)) (by decide) (Nat.le_trans gw0 geX))
                 have HS2 := (Below.setCell (Below.setCell (Below.setCell HS (p := ⟨sX, 0, none⟩) (show g0 ≤ sX from geX) (.slice B3 m3 d3)) (p := ⟨sX, 1, none⟩) (show g0 ≤ sX from geX) (.int .i64 r3)) (p := ⟨sX, 2, none⟩) (show g0 ≤ sX from geX) (.int .i64 f3))
                 clear VX RX HS hS cx0 cx1 cx2 fx0 fx1 fx2
                 generalize (((y1_.setCell ⟨sX, 0, none⟩ (.slice B3 m3 d3)).setCell ⟨sX, 1, none⟩ (.int .i64 r3)).setCell ⟨sX, 2, none⟩ (.int .i64 f3)) = z_ at *
                 have VX : z_.heap[sX]? = some (.cells #[.slice B3 m3 d3, .int .i64 r3, .int .i64 f3] 24) := VX2
                 have RX := RX2; have HS := HS2; have hS := HS2
                 clear VX2 RX2 HS2
                 refine Shut.out hK _ _ hS (fun _ => ?_)
                 clear hK K
                 try simp only [Act.put, List.setIfInBounds_toArray, List.set_cons_zero, List.set_cons_succ]
                 refine wpAnyH_take (i := 13) (oi := ⟨some 22, .assign (.tmp 121), 28, "law.go:107", #[⟨10, .data⟩, ⟨12, .chain⟩, ⟨0, .phase⟩, ⟨1, .phase⟩, ⟨2, .phase⟩, ⟨3, .phase⟩, ⟨4, .phase⟩, ⟨5, .phase⟩, ⟨6, .phase⟩, ⟨7, .phase⟩, ⟨8, .phase⟩, ⟨9, .phase⟩, ⟨10, .phase⟩, ⟨11, .phase⟩, ⟨12, .phase⟩], none⟩) (v := ?_) rfl (by kernel_rfl) (by kernel_rfl) (by kernel_rfl) (fun _ _ _ h => h) (Or.inl ⟨by rfl, ?_⟩) hS ?_
                 rotate_left
                 · intro wv _; go_simp; try with_reducible rfl
                 try simp only [Act.put, List.setIfInBounds_toArray, List.set_cons_zero, List.set_cons_succ]
                 refine wpAnyH_done (by kernel_rfl) ?_ _
                 refine NoPanic.normal ?_
                 go_wp2_with fail
                 go_meet
                 exact ⟨sX, B3, m3, d3, rfl, rfl, Lib.hid VX, Lib.hid RX, Lib.hid HS, geX⟩
                ·
                 go_simp
                 have zs : g0 ≤ g0 := Nat.le_refl _
                 have bd : Below g0 wr (wr.alloc (.cells #[.slice none 0 0, .int .i64 0, .int .i64 0] 24)) := by have h := (Below.refl wr.heap.size wr).alloc (Nat.le_refl _) (.cells #[.slice none 0 0, .int .i64 0, .int .i64 0] 24); rwa [hg0] at h
                 have VX : (wr.alloc (.cells #[.slice none 0 0, .int .i64 0, .int .i64 0] 24)).heap[g0]? = some (.cells #[.slice none 0 0, .int .i64 0, .int .i64 0] 24) := by have h := heap_alloc_new wr (.cells #[.slice none 0 0, .int .i64 0, .int .i64 0] 24); rw [hg0] at h; exact h
                 have geX : g0 ≤ g0 := zs
                 replace HS := HS.trans (bd.mono zs)
                 clear bd zs
                 generalize wr.alloc (.cells #[.slice none 0 0, .int .i64 0, .int .i64 0] 24) = y1_ at *
                 replace hS := HS.drew
                 go_wp2_with fail
                 refine Shut.out hK _ _ hS (fun _ => ?_)
                 clear hK K
                 try simp only [Act.put, List.setIfInBounds_toArray, List.set_cons_zero, List.set_cons_succ]
                 refine wpAnyH_ready (rs := [7]) (by kernel_rfl) (by simp) (AllReadyH.cons (o := ⟨some 119, .call { callee := .value (.func 11), args := #[.tmp 112, .tmp 118], argTypes := #[24, 3] }, 31, "law.go:107", #[⟨0, .data⟩, ⟨6, .data⟩], none⟩) rfl (fun K hK => ?_) AllReadyH.nil)
                 go_simp
                 have HSw : Below g0 wr y1_.drew := HS.drew
                 refine (CT.out y1_.drew (Ro.below Ra.out (BZ.out _ HSw))).mono ?_
                 rintro e wg ⟨B3, m3, d3, rfl, hrr, hb⟩
                 have zs : g0 ≤ y1_.drew.heap.size := by have h1 := HSw.size; rw [hg0] at h1; exact h1
                 replace VX := blk_below (show y1_.drew.heap[_]? = _ from VX) hb (blk_lt VX)
                 have RX := hrr
                 replace HS := HSw.trans (hb.mono zs)
                 clear HSw hb hrr zs
                 replace hS := HS
                 have cx0 : wg.cell? ⟨g0, 0, none⟩ = some (.slice none 0 0) := (blk_cell VX 0).trans rfl
                 have fx0 : wg.frozen? ⟨g0, 0, none⟩ = false := blk_frozen VX 0
                 have cx1 : wg.cell? ⟨g0, 1, none⟩ = some (.int .i64 0) := (blk_cell VX 1).trans rfl
                 have fx1 : wg.frozen? ⟨g0, 1, none⟩ = false := blk_frozen VX 1
                 have cx2 : wg.cell? ⟨g0, 2, none⟩ = some (.int .i64 0) := (blk_cell VX 2).trans rfl
                 have fx2 : wg.frozen? ⟨g0, 2, none⟩ = false := blk_frozen VX 2
                 go_wp2_with fail
                 refine Shut.out hK _ _ hS (fun _ => ?_)
                 clear hK K
                 try simp only [Act.put, List.setIfInBounds_toArray, List.set_cons_zero, List.set_cons_succ]
                 refine wpAnyH_take (i := 8) (oi := ⟨some 111, .move (.tmp 119), 31, "law.go:107", #[⟨7, .data⟩], none⟩) (v := ?_) rfl (by kernel_rfl) (by kernel_rfl) (by kernel_rfl) (fun _ _ _ h => h) (Or.inl ⟨by rfl, ?_⟩) hS ?_
                 rotate_left
                 · intro wv _; go_simp; try with_reducible rfl
                 try simp only [Act.put, List.setIfInBounds_toArray, List.set_cons_zero, List.set_cons_succ]
                 refine wpAnyH_take (i := 9) (oi := ⟨some 120, .extract (.tmp 111) 0, 24, "law.go:107", #[⟨8, .data⟩], none⟩) (v := ?_) rfl (by kernel_rfl) (by kernel_rfl) (by kernel_rfl) (fun _ _ _ h => h) (Or.inl ⟨by rfl, ?_⟩) hS ?_
                 rotate_left
                 · intro wv _; go_simp; try with_reducible rfl
                 try simp only [Act.put, List.setIfInBounds_toArray, List.set_cons_zero, List.set_cons_succ]
                 refine wpAnyH_take (i := 10) (oi := ⟨some 121, .extract (.tmp 111) 1, 28, "law.go:107", #[⟨8, .data⟩, ⟨12, .gcOnly .lateStores⟩], none⟩) (v := ?_) rfl (by kernel_rfl) (by kernel_rfl) (by kernel_rfl) (fun _ _ _ h => h) (Or.inl ⟨by rfl, ?_⟩) hS ?_
                 rotate_left
                 · intro wv _; go_simp; try with_reducible rfl
                 try simp only [Act.put, List.setIfInBounds_toArray, List.set_cons_zero, List.set_cons_succ]
                 refine wpAnyH_ready (rs := [12]) (by kernel_rfl) (by simp) (AllReadyH.cons (o := ⟨none, .store 24 (.tmp 21) (.tmp 120), 0, "law.go:107", #[⟨11, .data⟩, ⟨9, .data⟩, ⟨7, .chain⟩, ⟨0, .phase⟩, ⟨1, .phase⟩, ⟨2, .phase⟩, ⟨3, .phase⟩, ⟨4, .phase⟩, ⟨5, .phase⟩, ⟨6, .phase⟩, ⟨7, .phase⟩, ⟨8, .phase⟩, ⟨9, .phase⟩, ⟨10, .textOnly .lateStores⟩, ⟨11, .phase⟩], none⟩) rfl (fun K hK => ?_) AllReadyH.nil)
                 go_simp
                 have VX2 := (blk_set (j := 2) (blk_set (j := 1) (blk_set (j := 0) VX (.slice B3 m3 d3)) (.int .i64 r3)) (.int .i64 f3))
                 have RX2 := (Ro.set (o := 2) (u := .int .i64 f3) (Ro.set (o := 1) (u := .int .i64 r3) (Ro.set (o := 0) (u := .slice B3 m3 d3) RX VX (by decide) (Nat.le_trans gw0 geX)) (blk_set (j := 0) VX (.slice B3 m3 d3)) (by decide) (Nat.le_trans gw0 geX)) (blk_set (j := 1) (blk_set (j := 0) VX (.slice B3 m3 d3)) (.int .i64 r3)) (by decide) (Nat.le_trans gw0 geX))
                 have HS2 := (Below.setCell (Below.setCell (Below.setCell HS (p := ⟨g0, 0, none⟩) (show g0 ≤ g0 from geX) (.slice B3 m3 d3)) (p := ⟨g0, 1, none⟩) (show g0 ≤ g0 from geX) (.int .i64 r3)) (p := ⟨g0, 2, none⟩) (show g0 ≤ g0 from geX) (.int .i64 f3))
                 clear VX RX HS hS cx0 cx1 cx2 fx0 fx1 fx2
                 generalize (((wg.setCell ⟨g0, 0, none⟩ (.slice B3 m3 d3)).setCell ⟨g0, 1, none⟩ (.int .i64 r3)).setCell ⟨g0, 2, none⟩ (.int .i64 f3)) = z_ at *
                 have VX : z_.heap[g0]? = some (.cells #[.slice B3 m3 d3, .int .i64 r3, .int .i64 f3] 24) := VX2
                 have RX := RX2; have HS := HS2; have hS := HS2
                 clear VX2 RX2 HS2
                 refine Shut.out hK _ _ hS (fun _ => ?_)
                 clear hK K
                 try simp only [Act.put, List.setIfInBounds_toArray, List.set_cons_zero, List.set_cons_succ]
                 refine wpAnyH_take (i := 13) (oi := ⟨some 22, .assign (.tmp 121), 28, "law.go:107", #[⟨10, .data⟩, ⟨12, .chain⟩, ⟨0, .phase⟩, ⟨1, .phase⟩, ⟨2, .phase⟩, ⟨3, .phase⟩, ⟨4, .phase⟩, ⟨5, .phase⟩, ⟨6, .phase⟩, ⟨7, .phase⟩, ⟨8, .phase⟩, ⟨9, .phase⟩, ⟨10, .phase⟩, ⟨11, .phase⟩, ⟨12, .phase⟩], none⟩) (v := ?_) rfl (by kernel_rfl) (by kernel_rfl) (by kernel_rfl) (fun _ _ _ h => h) (Or.inl ⟨by rfl, ?_⟩) hS ?_
                 rotate_left
                 · intro wv _; go_simp; try with_reducible rfl
                 try simp only [Act.put, List.setIfInBounds_toArray, List.set_cons_zero, List.set_cons_succ]
                 refine wpAnyH_done (by kernel_rfl) ?_ _
                 refine NoPanic.normal ?_
                 go_wp2_with fail
                 go_meet
                 exact ⟨g0, B3, m3, d3, rfl, rfl, Lib.hid VX, Lib.hid RX, Lib.hid HS, geX⟩
              case rest =>
              obtain ⟨sx, B3, m3, d3, rfl, rfl, Vx, Rx, hS, gex0⟩ := hcut
              obtain ⟨wd24, hwd⟩ : ∃ x, x = wc := ⟨_, rfl⟩
              subst hwd
              have hb := BZ.out _ hS.out
              have ltp_ := blk_lt Vp.out
              rw [hg0] at ltp_
              have nep_x : w.heap.size ≠ sx := by omega
              have lta_ := blk_lt Va.out
              rw [hg0] at lta_
              have nea_x : sa ≠ sx := by omega
              have ltb_ := blk_lt Vb.out
              rw [hg0] at ltb_
              have neb_x : sb ≠ sx := by omega
              have gex : w.heap.size ≤ sx := Nat.le_trans gw0 gex0
              replace HB := Lib.hid (show Below w.heap.size w wr ∧ w.heap.size ≤ wr.heap.size from ⟨HB.out.1, by rw [hg0]; exact HB.out.2⟩)
              clear hck HCK hbk2 hbk
              replace Vp := Lib.hid (blk_below Vp.out hb (blk_lt Vp.out))
              replace Va := Lib.hid (blk_below Va.out hb (blk_lt Va.out))
              replace Vb := Lib.hid (blk_below Vb.out hb (blk_lt Vb.out))
              replace Ra := Lib.hid (Ro.below Ra.out hb)
              replace Rb := Lib.hid (Ro.below Rb.out hb)
              replace HB := Lib.hid (And.intro (HB.out.1.trans (hb.mono HB.out.2)) (Nat.le_trans HB.out.2 hb.size))
              clear hb BZ HS hS gw0 CT ltp_ lta_ ltb_ gex0 hg0
              have hlt := T1.out
              obtain ⟨bq, offq, yq, eq_, hbq, hcq, y0q, y1q, _, hgq⟩ := (Bs.below BY.out HB.out.1).look t (by omega)
              obtain ⟨Kq, hKq⟩ : ∃ K : Nat, yq % 16 = K := ⟨(yq % 16).toNat, by omega⟩
              have hk16q : Kq < 16 := by omega
              have hkkq : kk ds (t) = (Kq : Int) := by unfold kk; rw [hgq, hKq]
              have htq : yq.tmod 16 = (Kq : Int) := by rw [Int.tmod_eq_emod_of_nonneg y0q]; exact hKq
              have hwuq : IntKind.u8.wrap (Kq : Int) = (Kq : Int) := by rw [IntKind.wrap_u8]; omega
              have hwiq : IntKind.i64.wrap (Kq : Int) = (Kq : Int) := by rw [IntKind.wrap_i64]; omega
              have k0q : (0 : Int) ≤ (Kq : Int) := by omega
              have k1q : (Kq : Int) < 16 := by omega
              clear hgq
              clear hlt
              injection eq_ with eq1
              injection eq1 with eq2 eq3
              subst eq2; subst eq3
              have hKK : Kq = Kk := by have h1 := HKK.out; rw [hkkq] at h1; omega
              subst hKK
              obtain ⟨⟨n4, r4, f4⟩, er2, fl4, l4, he, hes2, hen2, ho2⟩ := O2.out.del (Kq : Int)
              have O4 := Lib.hid ho2
              have her : er2 = er := by
                by_cases hs : S (Kq : Int)
                · rw [HES.out hs, hes2 hs]
                · rw [HEN.out hs, hen2 hs]
              subst her
              clear ho2 hes2 hen2 HES HEN
              have CT := Lib.hid (show ∀ W, Rn w W B2 m2 d2 n2 → Calls Try.prog 11 #[.agg #[.slice B2 m2 d2, .int .i64 r2, .int .i64 f2], .int .i64 (Kq : Int)] W (TAs w W n4 r4 f4 er2) from fun W h => delAs (Kq : Int) h (by have := HM2.out; omega) he)
              clear he hkkq
              have HCK := Lib.hid hcq
              have hbk2 := hbq
              have gw0 := HB.out.2
              generalize hg0 : wd24.heap.size = g0 at *
              have BZ := Lib.hid (show ∀ X, Below g0 wd24 X → Below wd24.heap.size wd24 X from fun X h => by rw [hg0]; exact h)
              have HS : Below g0 wd24 wd24 := by have h := Below.refl wd24.heap.size wd24; rwa [hg0] at h
              go_upto_region 25 with fail
              go_cut [23, 24] from 105 to 137 (fun s23 s24 wx => ∃ (sX : Nat) (B4 : Option Addr) (m4 d4 : Nat), s23 = .pointer (some ⟨sX, 0, none⟩) ∧ s24 = .int .i64 er2 ∧ Hid (wx.heap[sX]? = some (.cells #[.slice B4 m4 d4, .int .i64 r4, .int .i64 f4] 24)) ∧ Hid (Rn w wx B4 m4 d4 n4) ∧ Hid (Below g0 wd24 wx) ∧ g0 ≤ sX)
              case first => as_aux_lemma =>
                refine wp_region_noPanic ?_
                refine wp_region_held_drew (S := (fun wv => Below g0 wd24 wv)) (by kernel_rfl) (HS.drew) (fun hS => ?_)
                refine wpAnyH_take (i := 0) (oi := ⟨some 123, .load 24 (.tmp 9), 24, "law.go:108", #[], none⟩) (v := .agg (([.slice B2 m2 d2, .int .i64 r2, .int .i64 f2] : List Value)).toArray) rfl (by kernel_rfl) (by kernel_rfl) (by kernel_rfl) (fun _ _ _ h => h) (yieldsIf_load_mid (by rfl) _ _ (by rfl) (sb) (0) (by rfl) (([.slice B2 m2 d2, .int .i64 r2, .int .i64 f2] : List Value)) _ (fun wv hS => blk_rngl (blk_below Vb.out (BZ.out _ hS) (blk_lt Vb.out))) Try.underlying24 (by rfl) (by kernel_rfl)) hS ?_
                try simp only [Act.put, List.setIfInBounds_toArray, List.set_cons_zero, List.set_cons_succ]
                refine wpAnyH_take (i := 1) (oi := ⟨some 124, .move (.tmp 1), 47, "law.go:108", #[], none⟩) (v := ?_) rfl (by kernel_rfl) (by kernel_rfl) (by kernel_rfl) (fun _ _ _ h => h) (Or.inl ⟨by rfl, ?_⟩) hS ?_
                rotate_left
                · intro wv _; go_simp; try with_reducible rfl
                try simp only [Act.put, List.setIfInBounds_toArray, List.set_cons_zero, List.set_cons_succ]
                refine wpAnyH_take (i := 2) (oi := ⟨some 125, .move (.tmp 20), 3, "law.go:108", #[], none⟩) (v := ?_) rfl (by kernel_rfl) (by kernel_rfl) (by kernel_rfl) (fun _ _ _ h => h) (Or.inl ⟨by rfl, ?_⟩) hS ?_
                rotate_left
                · intro wv _; go_simp; try with_reducible rfl
                try simp only [Act.put, List.setIfInBounds_toArray, List.set_cons_zero, List.set_cons_succ]
                refine wpAnyH_take (i := 3) (oi := ⟨some 126, .indexAddr 47 (.tmp 124) (.tmp 125), 0, "law.go:108", #[⟨1, .data⟩, ⟨2, .data⟩], none⟩) (v := ?_) rfl (by kernel_rfl) (by kernel_rfl) (by kernel_rfl) (fun _ _ _ h => h) (Or.inl ⟨by rfl, ?_⟩) hS ?_
                rotate_left
                · intro wv _; go_simp; try with_reducible rfl
                try simp only [Act.put, List.setIfInBounds_toArray, List.set_cons_zero, List.set_cons_succ]
                refine wpAnyH_take (i := 4) (oi := ⟨some 127, .load 5 (.tmp 126), 5, "law.go:108", #[⟨3, .data⟩], none⟩) (v := ?_) rfl (by kernel_rfl) (by kernel_rfl) (by kernel_rfl) (fun _ _ _ h => h) (Or.inl ⟨by rfl, ?_⟩) hS ?_
                rotate_left
                · intro wv hS; have hrun := ((BZ.out _ hS).cell (p := ⟨bk, offk + t, none⟩) (by rw [hg0]; exact hbk2)).trans HCK.out; go_simp; try with_reducible rfl
                try simp only [Act.put, List.setIfInBounds_toArray, List.set_cons_zero, List.set_cons_succ]
                refine wpAnyH_take (i := 5) (oi := ⟨some 128, .binOp .rem 5 (.tmp 127) (.const (Value.int IntKind.u8 16)) 5, 5, "law.go:108", #[⟨4, .data⟩], none⟩) (v := ?_) rfl (by kernel_rfl) (by kernel_rfl) (by kernel_rfl) (fun _ _ _ h => h) (Or.inl ⟨by rfl, ?_⟩) hS ?_
                rotate_left
                · intro wv _; go_simp; try with_reducible rfl
                try simp only [Act.put, List.setIfInBounds_toArray, List.set_cons_zero, List.set_cons_succ]
                refine wpAnyH_take (i := 6) (oi := ⟨some 129, .convert 5 3 (.tmp 128), 3, "law.go:108", #[⟨5, .data⟩], none⟩) (v := ?_) rfl (by kernel_rfl) (by kernel_rfl) (by kernel_rfl) (fun _ _ _ h => h) (Or.inl ⟨by rfl, ?_⟩) hS ?_
                rotate_left
                · intro wv _; go_simp; try with_reducible rfl
                try simp only [Act.put, List.setIfInBounds_toArray, List.set_cons_zero, List.set_cons_succ]
                refine wpAnyH_ready (rs := [7, 11]) (by kernel_rfl) (by simp) (AllReadyH.cons (o := ⟨some 130, .call { callee := .value (.func 11), args := #[.tmp 123, .tmp 129], argTypes := #[24, 3] }, 31, "law.go:108", #[⟨0, .data⟩, ⟨6, .data⟩], none⟩) rfl (fun K hK => ?_) (AllReadyH.cons (o := ⟨some 23, .alloc 24, 0, "law.go:108", #[], none⟩) rfl (fun K hK => ?_) AllReadyH.nil))
                ·
                 go_simp
                 have HSw : Below g0 wd24 wd24.drew := HS.drew
                 refine (CT.out wd24.drew (Ro.below Rb.out (BZ.out _ HSw))).mono ?_
                 rintro e wg ⟨B4, m4, d4, rfl, hrr, hb⟩
                 have zs : g0 ≤ wd24.drew.heap.size := by have h1 := HSw.size; rw [hg0] at h1; exact h1
                 have RX := hrr
                 replace HS := HSw.trans (hb.mono zs)
                 clear HSw hb hrr zs
                 replace hS := HS
                 go_wp2_with fail
                 refine Shut.out hK _ _ hS (fun _ => ?_)
                 clear hK K
                 try simp only [Act.put, List.setIfInBounds_toArray, List.set_cons_zero, List.set_cons_succ]
                 refine wpAnyH_take (i := 8) (oi := ⟨some 122, .move (.tmp 130), 31, "law.go:108", #[⟨7, .data⟩], none⟩) (v := ?_) rfl (by kernel_rfl) (by kernel_rfl) (by kernel_rfl) (fun _ _ _ h => h) (Or.inl ⟨by rfl, ?_⟩) hS ?_
                 rotate_left
                 · intro wv _; go_simp; try with_reducible rfl
                 try simp only [Act.put, List.setIfInBounds_toArray, List.set_cons_zero, List.set_cons_succ]
                 refine wpAnyH_take (i := 9) (oi := ⟨some 131, .extract (.tmp 122) 0, 24, "law.go:108", #[⟨8, .data⟩], none⟩) (v := ?_) rfl (by kernel_rfl) (by kernel_rfl) (by kernel_rfl) (fun _ _ _ h => h) (Or.inl ⟨by rfl, ?_⟩) hS ?_
                 rotate_left
                 · intro wv _; go_simp; try with_reducible rfl
                 try simp only [Act.put, List.setIfInBounds_toArray, List.set_cons_zero, List.set_cons_succ]
                 refine wpAnyH_take (i := 10) (oi := ⟨some 132, .extract (.tmp 122) 1, 28, "law.go:108", #[⟨8, .data⟩, ⟨12, .gcOnly .lateStores⟩], none⟩) (v := ?_) rfl (by kernel_rfl) (by kernel_rfl) (by kernel_rfl) (fun _ _ _ h => h) (Or.inl ⟨by rfl, ?_⟩) hS ?_
                 rotate_left
                 · intro wv _; go_simp; try with_reducible rfl
                 try simp only [Act.put, List.setIfInBounds_toArray, List.set_cons_zero, List.set_cons_succ]
                 refine wpAnyH_ready (rs := [11]) (by kernel_rfl) (by simp) (AllReadyH.cons (o := ⟨some 23, .alloc 24, 0, "law.go:108", #[], none⟩) rfl (fun K hK => ?_) AllReadyH.nil)
                 go_simp
                 have zs : g0 ≤ wg.heap.size := by have h1 := HS.size; rw [hg0] at h1; exact h1
                 have bd : Below wg.heap.size wg (wg.alloc (.cells #[.slice none 0 0, .int .i64 0, .int .i64 0] 24)) := (Below.refl _ _).alloc (Nat.le_refl _) _
                 replace RX := Ro.below RX bd
                 have VX : (wg.alloc (.cells #[.slice none 0 0, .int .i64 0, .int .i64 0] 24)).heap[wg.heap.size]? = some (.cells #[.slice none 0 0, .int .i64 0, .int .i64 0] 24) := heap_alloc_new _ _
                 have geX : g0 ≤ wg.heap.size := zs
                 replace HS := HS.trans (bd.mono zs)
                 clear bd zs
                 generalize wg.alloc (.cells #[.slice none 0 0, .int .i64 0, .int .i64 0] 24) = y1_ at *
                 generalize hsX_ : wg.heap.size = sX at *
                 replace hS := HS
                 have cx0 : y1_.cell? ⟨sX, 0, none⟩ = some (.slice none 0 0) := (blk_cell VX 0).trans rfl
                 have fx0 : y1_.frozen? ⟨sX, 0, none⟩ = false := blk_frozen VX 0
                 have cx1 : y1_.cell? ⟨sX, 1, none⟩ = some (.int .i64 0) := (blk_cell VX 1).trans rfl
                 have fx1 : y1_.frozen? ⟨sX, 1, none⟩ = false := blk_frozen VX 1
                 have cx2 : y1_.cell? ⟨sX, 2, none⟩ = some (.int .i64 0) := (blk_cell VX 2).trans rfl
                 have fx2 : y1_.frozen? ⟨sX, 2, none⟩ = false := blk_frozen VX 2
                 go_wp2_with fail
                 refine Shut.out hK _ _ hS (fun _ => ?_)
                 clear hK K
                 try simp only [Act.put, List.setIfInBounds_toArray, List.set_cons_zero, List.set_cons_succ]
                 refine wpAnyH_ready (rs := [12]) (by kernel_rfl) (by simp) (AllReadyH.cons (o := ⟨none, .store 24 (.tmp 23) (.tmp 131), 0, "law.go:108", #[⟨11, .data⟩, ⟨9, .data⟩, ⟨7, .chain⟩, ⟨0, .phase⟩, ⟨1, .phase⟩, ⟨2, .phase⟩, ⟨3, .phase⟩, ⟨4, .phase⟩, ⟨5, .phase⟩, ⟨6, .phase⟩, ⟨7, .phase⟩, ⟨8, .phase⟩, ⟨9, .phase⟩, ⟨10, .textOnly .lateStores⟩, ⟨11, .phase⟩], none⟩) rfl (fun K hK => ?_) AllReadyH.nil)
                 go_simp
                 have VX2 := (blk_set (j := 2) (blk_set (j := 1) (blk_set (j := 0) VX (.slice B4 m4 d4)) (.int .i64 r4)) (.int .i64 f4))
                 have RX2 := (Ro.set (o := 2) (u := .int .i64 f4) (Ro.set (o := 1) (u := .int .i64 r4) (Ro.set (o := 0) (u := .slice B4 m4 d4) RX VX (by decide) (Nat.le_trans gw0 geX)) (blk_set (j := 0) VX (.slice B4 m4 d4)) (by decide) (Nat.le_trans gw0 geX)) (blk_set (j := 1) (blk_set (j := 0) VX (.slice B4 m4 d4)) (.int .i64 r4)) (by decide) (Nat.le_trans gw0 geX))
                 have HS2 := (Below.setCell (Below.setCell (Below.setCell HS (p := ⟨sX, 0, none⟩) (show g0 ≤ sX from geX) (.slice B4 m4 d4)) (p := ⟨sX, 1, none⟩) (show g0 ≤ sX from geX) (.int .i64 r4)) (p := ⟨sX, 2, none⟩) (show g0 ≤ sX from geX) (.int .i64 f4))
                 clear VX RX HS hS cx0 cx1 cx2 fx0 fx1 fx2
                 generalize (((y1_.setCell ⟨sX, 0, none⟩ (.slice B4 m4 d4)).setCell ⟨sX, 1, none⟩ (.int .i64 r4)).setCell ⟨sX, 2, none⟩ (.int .i64 f4)) = z_ at *
                 have VX : z_.heap[sX]? = some (.cells #[.slice B4 m4 d4, .int .i64 r4, .int .i64 f4] 24) := VX2
                 have RX := RX2; have HS := HS2; have hS := HS2
                 clear VX2 RX2 HS2
                 refine Shut.out hK _ _ hS (fun _ => ?_)
                 clear hK K
                 try simp only [Act.put, List.setIfInBounds_toArray, List.set_cons_zero, List.set_cons_succ]
                 refine wpAnyH_take (i := 13) (oi := ⟨some 24, .assign (.tmp 132), 28, "law.go:108", #[⟨10, .data⟩, ⟨12, .chain⟩, ⟨0, .phase⟩, ⟨1, .phase⟩, ⟨2, .phase⟩, ⟨3, .phase⟩, ⟨4, .phase⟩, ⟨5, .phase⟩, ⟨6, .phase⟩, ⟨7, .phase⟩, ⟨8, .phase⟩, ⟨9, .phase⟩, ⟨10, .phase⟩, ⟨11, .phase⟩, ⟨12, .phase⟩], none⟩) (v := ?_) rfl (by kernel_rfl) (by kernel_rfl) (by kernel_rfl) (fun _ _ _ h => h) (Or.inl ⟨by rfl, ?_⟩) hS ?_
                 rotate_left
                 · intro wv _; go_simp; try with_reducible rfl
                 try simp only [Act.put, List.setIfInBounds_toArray, List.set_cons_zero, List.set_cons_succ]
                 refine wpAnyH_done (by kernel_rfl) ?_ _
                 refine NoPanic.normal ?_
                 go_wp2_with fail
                 go_meet
                 exact ⟨sX, B4, m4, d4, rfl, rfl, Lib.hid VX, Lib.hid RX, Lib.hid HS, geX⟩
                ·
                 go_simp
                 have zs : g0 ≤ g0 := Nat.le_refl _
                 have bd : Below g0 wd24 (wd24.alloc (.cells #[.slice none 0 0, .int .i64 0, .int .i64 0] 24)) := by have h := (Below.refl wd24.heap.size wd24).alloc (Nat.le_refl _) (.cells #[.slice none 0 0, .int .i64 0, .int .i64 0] 24); rwa [hg0] at h
                 have VX : (wd24.alloc (.cells #[.slice none 0 0, .int .i64 0, .int .i64 0] 24)).heap[g0]? = some (.cells #[.slice none 0 0, .int .i64 0, .int .i64 0] 24) := by have h := heap_alloc_new wd24 (.cells #[.slice none 0 0, .int .i64 0, .int .i64 0] 24); rw [hg0] at h; exact h
                 have geX : g0 ≤ g0 := zs
                 replace HS := HS.trans (bd.mono zs)
                 clear bd zs
                 generalize wd24.alloc (.cells #[.slice none 0 0, .int .i64 0, .int .i64 0] 24) = y1_ at *
                 replace hS := HS.drew
                 go_wp2_with fail
                 refine Shut.out hK _ _ hS (fun _ => ?_)
                 clear hK K
                 try simp only [Act.put, List.setIfInBounds_toArray, List.set_cons_zero, List.set_cons_succ]
                 refine wpAnyH_ready (rs := [7]) (by kernel_rfl) (by simp) (AllReadyH.cons (o := ⟨some 130, .call { callee := .value (.func 11), args := #[.tmp 123, .tmp 129], argTypes := #[24, 3] }, 31, "law.go:108", #[⟨0, .data⟩, ⟨6, .data⟩], none⟩) rfl (fun K hK => ?_) AllReadyH.nil)
                 go_simp
                 have HSw : Below g0 wd24 y1_.drew := HS.drew
                 refine (CT.out y1_.drew (Ro.below Rb.out (BZ.out _ HSw))).mono ?_
                 rintro e wg ⟨B4, m4, d4, rfl, hrr, hb⟩
                 have zs : g0 ≤ y1_.drew.heap.size := by have h1 := HSw.size; rw [hg0] at h1; exact h1
                 replace VX := blk_below (show y1_.drew.heap[_]? = _ from VX) hb (blk_lt VX)
                 have RX := hrr
                 replace HS := HSw.trans (hb.mono zs)
                 clear HSw hb hrr zs
                 replace hS := HS
                 have cx0 : wg.cell? ⟨g0, 0, none⟩ = some (.slice none 0 0) := (blk_cell VX 0).trans rfl
                 have fx0 : wg.frozen? ⟨g0, 0, none⟩ = false := blk_frozen VX 0
                 have cx1 : wg.cell? ⟨g0, 1, none⟩ = some (.int .i64 0) := (blk_cell VX 1).trans rfl
                 have fx1 : wg.frozen? ⟨g0, 1, none⟩ = false := blk_frozen VX 1
                 have cx2 : wg.cell? ⟨g0, 2, none⟩ = some (.int .i64 0) := (blk_cell VX 2).trans rfl
                 have fx2 : wg.frozen? ⟨g0, 2, none⟩ = false := blk_frozen VX 2
                 go_wp2_with fail
                 refine Shut.out hK _ _ hS (fun _ => ?_)
                 clear hK K
                 try simp only [Act.put, List.setIfInBounds_toArray, List.set_cons_zero, List.set_cons_succ]
                 refine wpAnyH_take (i := 8) (oi := ⟨some 122, .move (.tmp 130), 31, "law.go:108", #[⟨7, .data⟩], none⟩) (v := ?_) rfl (by kernel_rfl) (by kernel_rfl) (by kernel_rfl) (fun _ _ _ h => h) (Or.inl ⟨by rfl, ?_⟩) hS ?_
                 rotate_left
                 · intro wv _; go_simp; try with_reducible rfl
                 try simp only [Act.put, List.setIfInBounds_toArray, List.set_cons_zero, List.set_cons_succ]
                 refine wpAnyH_take (i := 9) (oi := ⟨some 131, .extract (.tmp 122) 0, 24, "law.go:108", #[⟨8, .data⟩], none⟩) (v := ?_) rfl (by kernel_rfl) (by kernel_rfl) (by kernel_rfl) (fun _ _ _ h => h) (Or.inl ⟨by rfl, ?_⟩) hS ?_
                 rotate_left
                 · intro wv _; go_simp; try with_reducible rfl
                 try simp only [Act.put, List.setIfInBounds_toArray, List.set_cons_zero, List.set_cons_succ]
                 refine wpAnyH_take (i := 10) (oi := ⟨some 132, .extract (.tmp 122) 1, 28, "law.go:108", #[⟨8, .data⟩, ⟨12, .gcOnly .lateStores⟩], none⟩) (v := ?_) rfl (by kernel_rfl) (by kernel_rfl) (by kernel_rfl) (fun _ _ _ h => h) (Or.inl ⟨by rfl, ?_⟩) hS ?_
                 rotate_left
                 · intro wv _; go_simp; try with_reducible rfl
                 try simp only [Act.put, List.setIfInBounds_toArray, List.set_cons_zero, List.set_cons_succ]
                 refine wpAnyH_ready (rs := [12]) (by kernel_rfl) (by simp) (AllReadyH.cons (o := ⟨none, .store 24 (.tmp 23) (.tmp 131), 0, "law.go:108", #[⟨11, .data⟩, ⟨9, .data⟩, ⟨7, .chain⟩, ⟨0, .phase⟩, ⟨1, .phase⟩, ⟨2, .phase⟩, ⟨3, .phase⟩, ⟨4, .phase⟩, ⟨5, .phase⟩, ⟨6, .phase⟩, ⟨7, .phase⟩, ⟨8, .phase⟩, ⟨9, .phase⟩, ⟨10, .textOnly .lateStores⟩, ⟨11, .phase⟩], none⟩) rfl (fun K hK => ?_) AllReadyH.nil)
                 go_simp
                 have VX2 := (blk_set (j := 2) (blk_set (j := 1) (blk_set (j := 0) VX (.slice B4 m4 d4)) (.int .i64 r4)) (.int .i64 f4))
                 have RX2 := (Ro.set (o := 2) (u := .int .i64 f4) (Ro.set (o := 1) (u := .int .i64 r4) (Ro.set (o := 0) (u := .slice B4 m4 d4) RX VX (by decide) (Nat.le_trans gw0 geX)) (blk_set (j := 0) VX (.slice B4 m4 d4)) (by decide) (Nat.le_trans gw0 geX)) (blk_set (j := 1) (blk_set (j := 0) VX (.slice B4 m4 d4)) (.int .i64 r4)) (by decide) (Nat.le_trans gw0 geX))
                 have HS2 := (Below.setCell (Below.setCell (Below.setCell HS (p := ⟨g0, 0, none⟩) (show g0 ≤ g0 from geX) (.slice B4 m4 d4)) (p := ⟨g0, 1, none⟩) (show g0 ≤ g0 from geX) (.int .i64 r4)) (p := ⟨g0, 2, none⟩) (show g0 ≤ g0 from geX) (.int .i64 f4))
                 clear VX RX HS hS cx0 cx1 cx2 fx0 fx1 fx2
                 generalize (((wg.setCell ⟨g0, 0, none⟩ (.slice B4 m4 d4)).setCell ⟨g0, 1, none⟩ (.int .i64 r4)).setCell ⟨g0, 2, none⟩ (.int .i64 f4)) = z_ at *
                 have VX : z_.heap[g0]? = some (.cells #[.slice B4 m4 d4, .int .i64 r4, .int .i64 f4] 24) := VX2
                 have RX := RX2; have HS := HS2; have hS := HS2
                 clear VX2 RX2 HS2
                 refine Shut.out hK _ _ hS (fun _ => ?_)
                 clear hK K
                 try simp only [Act.put, List.setIfInBounds_toArray, List.set_cons_zero, List.set_cons_succ]
                 refine wpAnyH_take (i := 13) (oi := ⟨some 24, .assign (.tmp 132), 28, "law.go:108", #[⟨10, .data⟩, ⟨12, .chain⟩, ⟨0, .phase⟩, ⟨1, .phase⟩, ⟨2, .phase⟩, ⟨3, .phase⟩, ⟨4, .phase⟩, ⟨5, .phase⟩, ⟨6, .phase⟩, ⟨7, .phase⟩, ⟨8, .phase⟩, ⟨9, .phase⟩, ⟨10, .phase⟩, ⟨11, .phase⟩, ⟨12, .phase⟩], none⟩) (v := ?_) rfl (by kernel_rfl) (by kernel_rfl) (by kernel_rfl) (fun _ _ _ h => h) (Or.inl ⟨by rfl, ?_⟩) hS ?_
                 rotate_left
                 · intro wv _; go_simp; try with_reducible rfl
                 try simp only [Act.put, List.setIfInBounds_toArray, List.set_cons_zero, List.set_cons_succ]
                 refine wpAnyH_done (by kernel_rfl) ?_ _
                 refine NoPanic.normal ?_
                 go_wp2_with fail
                 go_meet
                 exact ⟨g0, B4, m4, d4, rfl, rfl, Lib.hid VX, Lib.hid RX, Lib.hid HS, geX⟩
              case rest =>
              obtain ⟨sy, B4, m4, d4, rfl, rfl, Vy, Ry, hS, gey0⟩ := hcut
              obtain ⟨wd25, hwd⟩ : ∃ x, x = wc := ⟨_, rfl⟩
              subst hwd
              have hb := BZ.out _ hS.out
              have ltp_ := blk_lt Vp.out
              rw [hg0] at ltp_
              have nep_y : w.heap.size ≠ sy := by omega
              have lta_ := blk_lt Va.out
              rw [hg0] at lta_
              have nea_y : sa ≠ sy := by omega
              have ltb_ := blk_lt Vb.out
              rw [hg0] at ltb_
              have neb_y : sb ≠ sy := by omega
              have ltx_ := blk_lt Vx.out
              rw [hg0] at ltx_
              have nex_y : sx ≠ sy := by omega
              have gey : w.heap.size ≤ sy := Nat.le_trans gw0 gey0
              replace HB := Lib.hid (show Below w.heap.size w wd24 ∧ w.heap.size ≤ wd24.heap.size from ⟨HB.out.1, by rw [hg0]; exact HB.out.2⟩)
              clear hcq HCK hbk2 hbq
              replace Vp := Lib.hid (blk_below Vp.out hb (blk_lt Vp.out))
              replace Va := Lib.hid (blk_below Va.out hb (blk_lt Va.out))
              replace Vb := Lib.hid (blk_below Vb.out hb (blk_lt Vb.out))
              replace Vx := Lib.hid (blk_below Vx.out hb (blk_lt Vx.out))
              replace Ra := Lib.hid (Ro.below Ra.out hb)
              replace Rb := Lib.hid (Ro.below Rb.out hb)
              replace Rx := Lib.hid (Ro.below Rx.out hb)
              replace HB := Lib.hid (And.intro (HB.out.1.trans (hb.mono HB.out.2)) (Nat.le_trans HB.out.2 hb.size))
              clear hb BZ HS hS gw0 CT ltp_ lta_ ltb_ ltx_ gey0 hg0
              have hne : (er2 != er2) = false := by simp
              have gxa := nea_x; have gxb := neb_x; have gya := nea_y; have gyb := neb_y; have gab := nea_b; have gpa := nep_a; have gpb := nep_b
              have gxa' := gxa.symm; have gxb' := gxb.symm; have gya' := gya.symm; have gyb' := gyb.symm; have gab' := gab.symm
              have Va0 : wd25.drew.heap[sa]? = some (.cells #[.slice B1 m1 d1, .int .i64 r1, .int .i64 f1] 24) := Va.out
              have Vb0 : wd25.drew.heap[sb]? = some (.cells #[.slice B2 m2 d2, .int .i64 r2, .int .i64 f2] 24) := Vb.out
              have Vp0 : wd25.drew.heap[w.heap.size]? = some (.cells #[.int .u32 p0, .int .u32 p1, .int .u32 p2, .int .u32 p3, .int .u32 p4, .int .u32 p5, .int .u32 p6, .int .u32 p7, .int .u32 p8, .int .u32 p9, .int .u32 p10, .int .u32 p11, .int .u32 p12, .int .u32 p13, .int .u32 p14, .int .u32 p15] 48) := Vp.out
              have Vx0 : wd25.drew.heap[sx]? = some (.cells #[.slice B3 m3 d3, .int .i64 r3, .int .i64 f3] 24) := Vx.out
              have Vy0 : wd25.drew.heap[sy]? = some (.cells #[.slice B4 m4 d4, .int .i64 r4, .int .i64 f4] 24) := Vy.out
              have Rx0 := Rx.out.drew; have Ry0 := Ry.out.drew
              have HB0 := HB.out.1.drew
              have HZ0 : w.heap.size ≤ wd25.drew.heap.size := HB.out.2
              have TH1 := Lib.hid (there3 Va0)
              obtain ⟨z1_, hz1⟩ : ∃ Z, (wd25.drew).setCells sa 0 [.slice B3 m3 d3, .int .i64 r3, .int .i64 f3] = Z := ⟨_, rfl⟩
              have hc1 : (((wd25.drew.setCell ⟨sa, 0, none⟩ (.slice B3 m3 d3)).setCell ⟨sa, 1, none⟩ (.int .i64 r3)).setCell ⟨sa, 2, none⟩ (.int .i64 f3)) = z1_ := hz1
              have Va1 : z1_.heap[sa]? = some (.cells #[.slice B3 m3 d3, .int .i64 r3, .int .i64 f3] 24) := hc1 ▸ (blk_set (j := 2) (blk_set (j := 1) (blk_set (j := 0) Va0 (.slice B3 m3 d3)) (.int .i64 r3)) (.int .i64 f3))
              have Vb1 : z1_.heap[sb]? = some (.cells #[.slice B2 m2 d2, .int .i64 r2, .int .i64 f2] 24) := hc1 ▸ ((Below.heap_setCell _ ⟨sa, 2, none⟩ (.int .i64 f3) sb gab').trans ((Below.heap_setCell _ ⟨sa, 1, none⟩ (.int .i64 r3) sb gab').trans ((Below.heap_setCell _ ⟨sa, 0, none⟩ (.slice B3 m3 d3) sb gab').trans Vb0)))
              have Vp1 : z1_.heap[w.heap.size]? = some (.cells #[.int .u32 p0, .int .u32 p1, .int .u32 p2, .int .u32 p3, .int .u32 p4, .int .u32 p5, .int .u32 p6, .int .u32 p7, .int .u32 p8, .int .u32 p9, .int .u32 p10, .int .u32 p11, .int .u32 p12, .int .u32 p13, .int .u32 p14, .int .u32 p15] 48) := hc1 ▸ ((Below.heap_setCell _ ⟨sa, 2, none⟩ (.int .i64 f3) w.heap.size gpa).trans ((Below.heap_setCell _ ⟨sa, 1, none⟩ (.int .i64 r3) w.heap.size gpa).trans ((Below.heap_setCell _ ⟨sa, 0, none⟩ (.slice B3 m3 d3) w.heap.size gpa).trans Vp0)))
              have Vx1 : z1_.heap[sx]? = some (.cells #[.slice B3 m3 d3, .int .i64 r3, .int .i64 f3] 24) := hc1 ▸ ((Below.heap_setCell _ ⟨sa, 2, none⟩ (.int .i64 f3) sx gxa').trans ((Below.heap_setCell _ ⟨sa, 1, none⟩ (.int .i64 r3) sx gxa').trans ((Below.heap_setCell _ ⟨sa, 0, none⟩ (.slice B3 m3 d3) sx gxa').trans Vx0)))
              have Vy1 : z1_.heap[sy]? = some (.cells #[.slice B4 m4 d4, .int .i64 r4, .int .i64 f4] 24) := hc1 ▸ ((Below.heap_setCell _ ⟨sa, 2, none⟩ (.int .i64 f3) sy gya').trans ((Below.heap_setCell _ ⟨sa, 1, none⟩ (.int .i64 r3) sy gya').trans ((Below.heap_setCell _ ⟨sa, 0, none⟩ (.slice B3 m3 d3) sy gya').trans Vy0)))
              have Rx1 := hc1 ▸ (Ro.set (o := 2) (u := .int .i64 f3) (Ro.set (o := 1) (u := .int .i64 r3) (Ro.set (o := 0) (u := .slice B3 m3 d3) Rx0 Va0 (by decide) gea) (blk_set (j := 0) Va0 (.slice B3 m3 d3)) (by decide) gea) (blk_set (j := 1) (blk_set (j := 0) Va0 (.slice B3 m3 d3)) (.int .i64 r3)) (by decide) gea)
              have Ry1 := hc1 ▸ (Ro.set (o := 2) (u := .int .i64 f3) (Ro.set (o := 1) (u := .int .i64 r3) (Ro.set (o := 0) (u := .slice B3 m3 d3) Ry0 Va0 (by decide) gea) (blk_set (j := 0) Va0 (.slice B3 m3 d3)) (by decide) gea) (blk_set (j := 1) (blk_set (j := 0) Va0 (.slice B3 m3 d3)) (.int .i64 r3)) (by decide) gea)
              have HB1 := hc1 ▸ (Below.setCell (Below.setCell (Below.setCell HB0 (p := ⟨sa, 0, none⟩) (show w.heap.size ≤ sa from gea) (.slice B3 m3 d3)) (p := ⟨sa, 1, none⟩) (show w.heap.size ≤ sa from gea) (.int .i64 r3)) (p := ⟨sa, 2, none⟩) (show w.heap.size ≤ sa from gea) (.int .i64 f3))
              have HZ1 : w.heap.size ≤ z1_.heap.size := by rw [← hc1]; simp only [World.setCell, Array.size_modify]; exact HZ0
              have hS1 := Lib.hid (And.intro Vx1 Vy1)
              have TH2 := Lib.hid (there3 Vb1)
              obtain ⟨z2_, hz2⟩ : ∃ Z, (z1_).setCells sb 0 [.slice B4 m4 d4, .int .i64 r4, .int .i64 f4] = Z := ⟨_, rfl⟩
              have hc2 : (((z1_.setCell ⟨sb, 0, none⟩ (.slice B4 m4 d4)).setCell ⟨sb, 1, none⟩ (.int .i64 r4)).setCell ⟨sb, 2, none⟩ (.int .i64 f4)) = z2_ := hz2
              have Va2 : z2_.heap[sa]? = some (.cells #[.slice B3 m3 d3, .int .i64 r3, .int .i64 f3] 24) := hc2 ▸ ((Below.heap_setCell _ ⟨sb, 2, none⟩ (.int .i64 f4) sa gab).trans ((Below.heap_setCell _ ⟨sb, 1, none⟩ (.int .i64 r4) sa gab).trans ((Below.heap_setCell _ ⟨sb, 0, none⟩ (.slice B4 m4 d4) sa gab).trans Va1)))
              have Vb2 : z2_.heap[sb]? = some (.cells #[.slice B4 m4 d4, .int .i64 r4, .int .i64 f4] 24) := hc2 ▸ (blk_set (j := 2) (blk_set (j := 1) (blk_set (j := 0) Vb1 (.slice B4 m4 d4)) (.int .i64 r4)) (.int .i64 f4))
              have Vp2 : z2_.heap[w.heap.size]? = some (.cells #[.int .u32 p0, .int .u32 p1, .int .u32 p2, .int .u32 p3, .int .u32 p4, .int .u32 p5, .int .u32 p6, .int .u32 p7, .int .u32 p8, .int .u32 p9, .int .u32 p10, .int .u32 p11, .int .u32 p12, .int .u32 p13, .int .u32 p14, .int .u32 p15] 48) := hc2 ▸ ((Below.heap_setCell _ ⟨sb, 2, none⟩ (.int .i64 f4) w.heap.size gpb).trans ((Below.heap_setCell _ ⟨sb, 1, none⟩ (.int .i64 r4) w.heap.size gpb).trans ((Below.heap_setCell _ ⟨sb, 0, none⟩ (.slice B4 m4 d4) w.heap.size gpb).trans Vp1)))
              have Vx2 : z2_.heap[sx]? = some (.cells #[.slice B3 m3 d3, .int .i64 r3, .int .i64 f3] 24) := hc2 ▸ ((Below.heap_setCell _ ⟨sb, 2, none⟩ (.int .i64 f4) sx gxb').trans ((Below.heap_setCell _ ⟨sb, 1, none⟩ (.int .i64 r4) sx gxb').trans ((Below.heap_setCell _ ⟨sb, 0, none⟩ (.slice B4 m4 d4) sx gxb').trans Vx1)))
              have Vy2 : z2_.heap[sy]? = some (.cells #[.slice B4 m4 d4, .int .i64 r4, .int .i64 f4] 24) := hc2 ▸ ((Below.heap_setCell _ ⟨sb, 2, none⟩ (.int .i64 f4) sy gyb').trans ((Below.heap_setCell _ ⟨sb, 1, none⟩ (.int .i64 r4) sy gyb').trans ((Below.heap_setCell _ ⟨sb, 0, none⟩ (.slice B4 m4 d4) sy gyb').trans Vy1)))
              have Rx2 := hc2 ▸ (Ro.set (o := 2) (u := .int .i64 f4) (Ro.set (o := 1) (u := .int .i64 r4) (Ro.set (o := 0) (u := .slice B4 m4 d4) Rx1 Vb1 (by decide) geb) (blk_set (j := 0) Vb1 (.slice B4 m4 d4)) (by decide) geb) (blk_set (j := 1) (blk_set (j := 0) Vb1 (.slice B4 m4 d4)) (.int .i64 r4)) (by decide) geb)
              have Ry2 := hc2 ▸ (Ro.set (o := 2) (u := .int .i64 f4) (Ro.set (o := 1) (u := .int .i64 r4) (Ro.set (o := 0) (u := .slice B4 m4 d4) Ry1 Vb1 (by decide) geb) (blk_set (j := 0) Vb1 (.slice B4 m4 d4)) (by decide) geb) (blk_set (j := 1) (blk_set (j := 0) Vb1 (.slice B4 m4 d4)) (.int .i64 r4)) (by decide) geb)
              have HB2 := hc2 ▸ (Below.setCell (Below.setCell (Below.setCell HB1 (p := ⟨sb, 0, none⟩) (show w.heap.size ≤ sb from geb) (.slice B4 m4 d4)) (p := ⟨sb, 1, none⟩) (show w.heap.size ≤ sb from geb) (.int .i64 r4)) (p := ⟨sb, 2, none⟩) (show w.heap.size ≤ sb from geb) (.int .i64 f4))
              have HZ2 : w.heap.size ≤ z2_.heap.size := by rw [← hc2]; simp only [World.setCell, Array.size_modify]; exact HZ1
              have hS2 := Lib.hid (And.intro Vx2 Vy2)
              have Va3 := Lib.hid Va2
              have Vb3 := Lib.hid Vb2
              have Vp3 := Lib.hid Vp2
              have Rx3 := Lib.hid Rx2
              have Ry3 := Lib.hid Ry2
              have HB3 := Lib.hid (And.intro HB2 HZ2)
              replace hz1 := Lib.hid hz1; replace hz2 := Lib.hid hz2
              clear hc1 hc2 Va Vb Rx Ry HB Va0 Vb0 Vp0 Vx0 Vy0 Rx0 Ry0 HB0 HZ0 Va1 Vb1 Vp1 Vx1 Vy1 Rx1 Ry1 HB1 HZ1 Va2 Vb2 Vp2 Vx2 Vy2 Rx2 Ry2 HB2 HZ2
              go_upto_region 28 with fail
              refine wp_region_noPanic ?_
              refine wp_region_held_drew (S := (fun wv => Hid (wv.heap[sx]? = some (.cells #[.slice B3 m3 d3, .int .i64 r3, .int .i64 f3] 24) ∧ wv.heap[sy]? = some (.cells #[.slice B4 m4 d4, .int .i64 r4, .int .i64 f4] 24)))) (by kernel_rfl) (Lib.hid ⟨Vx.out, Vy.out⟩) (fun hS => ?_)
              refine wpAnyH_take (i := 0) (oi := ⟨some 136, .load 24 (.tmp 21), 24, "law.go:112", #[], none⟩) (v := .agg (([.slice B3 m3 d3, .int .i64 r3, .int .i64 f3] : List Value)).toArray) rfl (by kernel_rfl) (by kernel_rfl) (by kernel_rfl) (fun _ _ _ h => h) (yieldsIf_load_mid (by rfl) _ _ (by rfl) (sx) (0) (by rfl) (([.slice B3 m3 d3, .int .i64 r3, .int .i64 f3] : List Value)) _ (fun wv hS => blk_rngl hS.out.1) Try.underlying24 (by rfl) (by kernel_rfl)) hS ?_
              try simp only [Act.put, List.setIfInBounds_toArray, List.set_cons_zero, List.set_cons_succ]
              refine wpAnyH_take (i := 1) (oi := ⟨some 137, .load 24 (.tmp 23), 24, "law.go:112", #[⟨2, .gcOnly .lateStores⟩], none⟩) (v := .agg (([.slice B4 m4 d4, .int .i64 r4, .int .i64 f4] : List Value)).toArray) rfl (by kernel_rfl) (by kernel_rfl) (by kernel_rfl) (fun _ _ _ h => h) (yieldsIf_load_mid (by rfl) _ _ (by rfl) (sy) (0) (by rfl) (([.slice B4 m4 d4, .int .i64 r4, .int .i64 f4] : List Value)) _ (fun wv hS => blk_rngl hS.out.2) Try.underlying24 (by rfl) (by kernel_rfl)) hS ?_
              try simp only [Act.put, List.setIfInBounds_toArray, List.set_cons_zero, List.set_cons_succ]
              refine wpAnyH_ready (rs := [2]) (by kernel_rfl) (by simp) (AllReadyH.cons (o := ⟨none, .store 24 (.tmp 7) (.tmp 136), 0, "law.go:112", #[⟨0, .data⟩, ⟨0, .phase⟩, ⟨1, .textOnly .lateStores⟩], none⟩) rfl (fun K hK => ?_) AllReadyH.nil)
              refine op_store9 (by rfl) rfl rfl rfl TH1.out (by kernel_rfl) (one3 _ _ _ _ _) hz1.out ?_
              replace hS := hS1
              refine Shut.out hK _ _ hS (fun _ => ?_)
              clear hK K
              try simp only [Act.put, List.setIfInBounds_toArray, List.set_cons_zero, List.set_cons_succ]
              refine wpAnyH_ready (rs := [3]) (by kernel_rfl) (by simp) (AllReadyH.cons (o := ⟨none, .store 24 (.tmp 9) (.tmp 137), 0, "law.go:112", #[⟨1, .data⟩, ⟨2, .chain⟩, ⟨0, .phase⟩, ⟨1, .phase⟩, ⟨2, .phase⟩], none⟩) rfl (fun K hK => ?_) AllReadyH.nil)
              refine op_store9 (by rfl) rfl rfl rfl TH2.out (by kernel_rfl) (one3 _ _ _ _ _) hz2.out ?_
              replace hS := hS2
              refine Shut.out hK _ _ hS (fun _ => ?_)
              clear hK K
              try simp only [Act.put, List.setIfInBounds_toArray, List.set_cons_zero, List.set_cons_succ]
              refine wpAnyH_done (by kernel_rfl) ?_ _
              refine NoPanic.normal ?_
              go_wp2
              go_roundw
              case rel => exact ⟨_, t + 1, _, _, _, _, _, _, _, _, _, _, _, _, _, _, _, _, by go_num, by have := T1.out; omega, Va3, Vb3, Vp3, Rx3, Ry3, O3, O4, HB3⟩
              case measure => have := T1.out; simp [intOf]; omega
            · have c2 : decide ((t : Int) < (m : Int)) = false := by simp; omega
              have c2n : decide (t < m) = false := by simp; omega
              obtain ⟨hkk, hal⟩ := O1.out.both O2.out (fun _ => Iff.rfl)
              obtain ⟨KL, hK⟩ : ∃ K, keysT (n1, r1, f1) = K := ⟨_, rfl⟩
              rw [hK] at hkk
              have hm1 : m1 ≤ 16384 := by have := HM1.out; omega
              have hm2 : m2 ≤ 16384 := by have := HM2.out; omega
              have HKL := Lib.hid (show KL.length ≤ 70 from by rw [← hK]; have h1 := keysT_len (n1, r1, f1); have h2 := O1.out.len; simp only at h1 h2; omega)
              have cKa := Lib.hid (show ∀ W, Rn w W B1 m1 d1 n1 → Calls Try.prog 19 #[.agg #[.slice B1 m1 d1, .int .i64 r1, .int .i64 f1]] W (fun e w' => ∃ B m d, e = .returned (.slice B m d) ∧ Is w' B m d KL ∧ Below W.heap.size W w') from fun W h => keysAs h hm1 hK)
              have cKb := Lib.hid (show ∀ W, Rn w W B2 m2 d2 n2 → Calls Try.prog 19 #[.agg #[.slice B2 m2 d2, .int .i64 r2, .int .i64 f2]] W (fun e w' => ∃ B m d, e = .returned (.slice B m d) ∧ Is w' B m d KL ∧ Below W.heap.size W w') from fun W h => keysAs h hm2 hkk.symm)
              have cI := Lib.hid (show ∀ (xs : List Int) (A B : Option Addr) (n c m d : Nat) W, Is W A n c xs → Is W B m d xs → xs.length ≤ 70 → Calls Try.prog 18 #[.slice A n c, .slice B m d] W (Yes9 W true) from fun xs A B n c m d W h1 h2 h3 => by have h := refInts_any A n c xs B m d xs W h1 h2 (by have := Is.len h1; omega); rwa [decide_eq_true rfl] at h)
              have cA := Lib.hid (show ∀ W, Ns W B1 m1 d1 n1 → Ns W B2 m2 d2 n2 → Calls Try.prog 25 #[.agg #[.slice B1 m1 d1, .int .i64 r1, .int .i64 f1], .int .i64 r1, .agg #[.slice B2 m2 d2, .int .i64 r2, .int .i64 f2], .int .i64 r2, .int .i64 17] W (Yes9 W true) from fun W h1 h2 => by have h := alike_any B1 m1 d1 n1 r1 f1 B2 m2 d2 n2 r2 f2 hm1 hm2 17 17 r1 r2 W h1 h2 rfl (by decide); rwa [hal] at h)
              clear hkk hal hK O1 O2 hlt ht hm1 hm2 HM1 HM2
              go_wp2
              refine wp_region_noPanic ?_
              refine wp_region_held_drew (S := (fun wv => Below wr.heap.size wr wv)) (by kernel_rfl) ((Below.refl wr.heap.size wr).drew) (fun hS => ?_)
              refine wpAnyH_take (i := 0) (oi := ⟨some 138, .load 24 (.tmp 7), 24, "law.go:114", #[], none⟩) (v := .agg (([.slice B1 m1 d1, .int .i64 r1, .int .i64 f1] : List Value)).toArray) rfl (by kernel_rfl) (by kernel_rfl) (by kernel_rfl) (fun _ _ _ h => h) (yieldsIf_load_mid (by rfl) _ _ (by rfl) (sa) (0) (by rfl) (([.slice B1 m1 d1, .int .i64 r1, .int .i64 f1] : List Value)) _ (fun wv hS => blk_rngl (blk_below Va.out hS (blk_lt Va.out))) Try.underlying24 (by rfl) (by kernel_rfl)) hS ?_
              try simp only [Act.put, List.setIfInBounds_toArray, List.set_cons_zero, List.set_cons_succ]
              refine wpAnyH_take (i := 2) (oi := ⟨some 140, .load 24 (.tmp 9), 24, "law.go:114", #[], none⟩) (v := .agg (([.slice B2 m2 d2, .int .i64 r2, .int .i64 f2] : List Value)).toArray) rfl (by kernel_rfl) (by kernel_rfl) (by kernel_rfl) (fun _ _ _ h => h) (yieldsIf_load_mid (by rfl) _ _ (by rfl) (sb) (0) (by rfl) (([.slice B2 m2 d2, .int .i64 r2, .int .i64 f2] : List Value)) _ (fun wv hS => blk_rngl (blk_below Vb.out hS (blk_lt Vb.out))) Try.underlying24 (by rfl) (by kernel_rfl)) hS ?_
              try simp only [Act.put, List.setIfInBounds_toArray, List.set_cons_zero, List.set_cons_succ]
              refine wpAnyH_ready (rs := [1]) (by kernel_rfl) (by simp) (AllReadyH.cons (o := ⟨some 139, .call { callee := .value (.func 19), args := #[.tmp 138], argTypes := #[24] }, 38, "law.go:114", #[⟨0, .data⟩], none⟩) rfl (fun K hK => ?_) AllReadyH.nil)
              go_simp
              refine (cKa.out _ (Ro.below Ra.out hS)).mono ?_; rintro e u1 ⟨C1, k1, e1, rfl, his, hb⟩
              have I1 := his
              clear his
              replace hS := hS.trans (hb.mono hS.size)
              clear hb
              go_wp2_with fail
              refine Shut.out hK _ _ hS (fun _ => ?_)
              clear hK K
              try simp only [Act.put, List.setIfInBounds_toArray, List.set_cons_zero, List.set_cons_succ]
              refine wpAnyH_ready (rs := [3]) (by kernel_rfl) (by simp) (AllReadyH.cons (o := ⟨some 141, .call { callee := .value (.func 19), args := #[.tmp 140], argTypes := #[24] }, 38, "law.go:114", #[⟨2, .data⟩, ⟨1, .chain⟩], none⟩) rfl (fun K hK => ?_) AllReadyH.nil)
              go_simp
              refine (cKb.out _ (Ro.below Rb.out hS)).mono ?_; rintro e u3 ⟨C2, k2, e2, rfl, his, hb⟩
              replace I1 := Es.below I1 hb
              have I2 := his
              clear his
              replace hS := hS.trans (hb.mono hS.size)
              clear hb
              go_wp2_with fail
              refine Shut.out hK _ _ hS (fun _ => ?_)
              clear hK K
              try simp only [Act.put, List.setIfInBounds_toArray, List.set_cons_zero, List.set_cons_succ]
              refine wpAnyH_ready (rs := [4]) (by kernel_rfl) (by simp) (AllReadyH.cons (o := ⟨some 142, .call { callee := .value (.func 18), args := #[.tmp 139, .tmp 141], argTypes := #[38, 38] }, 4, "law.go:114", #[⟨1, .data⟩, ⟨3, .data⟩, ⟨3, .chain⟩], none⟩) rfl (fun K hK => ?_) AllReadyH.nil)
              go_simp
              refine (cI.out KL C1 C2 _ _ _ _ _ I1 I2 HKL.out).mono ?_; rintro e u4 ⟨rfl, hb⟩
              replace hS := hS.trans (hb.mono hS.size)
              clear hb
              go_wp2_with fail
              refine Shut.out hK _ _ hS (fun _ => ?_)
              clear hK K
              try simp only [Act.put, List.setIfInBounds_toArray, List.set_cons_zero, List.set_cons_succ]
              refine wpAnyH_take (i := 5) (oi := ⟨some 143, .move (.tmp 142), 4, "law.go:114", #[⟨4, .data⟩, ⟨4, .chain⟩], none⟩) (v := ?_) rfl (by kernel_rfl) (by kernel_rfl) (by kernel_rfl) (fun _ _ _ h => h) (Or.inl ⟨by rfl, ?_⟩) hS ?_
              rotate_left
              · intro wv _; go_simp; try with_reducible rfl
              try simp only [Act.put, List.setIfInBounds_toArray, List.set_cons_zero, List.set_cons_succ]
              refine wpAnyH_take (i := 6) (oi := ⟨some 144, .load 24 (.tmp 7), 24, "law.go:114", #[⟨5, .guard⟩], some (5, true)⟩) (v := .agg (([.slice B1 m1 d1, .int .i64 r1, .int .i64 f1] : List Value)).toArray) rfl (by kernel_rfl) (by kernel_rfl) (by kernel_rfl) (fun _ _ _ h => h) (yieldsIf_load_mid (by rfl) _ _ (by rfl) (sa) (0) (by rfl) (([.slice B1 m1 d1, .int .i64 r1, .int .i64 f1] : List Value)) _ (fun wv hS => blk_rngl (blk_below Va.out hS (blk_lt Va.out))) Try.underlying24 (by rfl) (by kernel_rfl)) hS ?_
              try simp only [Act.put, List.setIfInBounds_toArray, List.set_cons_zero, List.set_cons_succ]
              refine wpAnyH_take (i := 7) (oi := ⟨some 145, .fieldAddr 24 (.tmp 7) 1, 0, "law.go:114", #[⟨5, .guard⟩], some (5, true)⟩) (v := ?_) rfl (by kernel_rfl) (by kernel_rfl) (by kernel_rfl) (fun _ _ _ h => h) (Or.inl ⟨by rfl, ?_⟩) hS ?_
              rotate_left
              · intro wv _; go_simp; try with_reducible rfl
              try simp only [Act.put, List.setIfInBounds_toArray, List.set_cons_zero, List.set_cons_succ]
              refine wpAnyH_take (i := 8) (oi := ⟨some 146, .load 3 (.tmp 145), 3, "law.go:114", #[⟨7, .data⟩, ⟨5, .guard⟩], some (5, true)⟩) (v := ?_) rfl (by kernel_rfl) (by kernel_rfl) (by kernel_rfl) (fun _ _ _ h => h) (Or.inl ⟨by rfl, ?_⟩) hS ?_
              rotate_left
              · intro wv hS; have hrun := (hS.cell (p := ⟨sa, 1, none⟩) (blk_lt Va.out)).trans ((blk_cell Va.out 1).trans rfl); go_simp; try with_reducible rfl
              try simp only [Act.put, List.setIfInBounds_toArray, List.set_cons_zero, List.set_cons_succ]
              refine wpAnyH_take (i := 9) (oi := ⟨some 147, .load 24 (.tmp 9), 24, "law.go:114", #[⟨5, .guard⟩], some (5, true)⟩) (v := .agg (([.slice B2 m2 d2, .int .i64 r2, .int .i64 f2] : List Value)).toArray) rfl (by kernel_rfl) (by kernel_rfl) (by kernel_rfl) (fun _ _ _ h => h) (yieldsIf_load_mid (by rfl) _ _ (by rfl) (sb) (0) (by rfl) (([.slice B2 m2 d2, .int .i64 r2, .int .i64 f2] : List Value)) _ (fun wv hS => blk_rngl (blk_below Vb.out hS (blk_lt Vb.out))) Try.underlying24 (by rfl) (by kernel_rfl)) hS ?_
              try simp only [Act.put, List.setIfInBounds_toArray, List.set_cons_zero, List.set_cons_succ]
              refine wpAnyH_take (i := 10) (oi := ⟨some 148, .fieldAddr 24 (.tmp 9) 1, 0, "law.go:114", #[⟨5, .guard⟩], some (5, true)⟩) (v := ?_) rfl (by kernel_rfl) (by kernel_rfl) (by kernel_rfl) (fun _ _ _ h => h) (Or.inl ⟨by rfl, ?_⟩) hS ?_
              rotate_left
              · intro wv _; go_simp; try with_reducible rfl
              try simp only [Act.put, List.setIfInBounds_toArray, List.set_cons_zero, List.set_cons_succ]
              refine wpAnyH_take (i := 11) (oi := ⟨some 149, .load 3 (.tmp 148), 3, "law.go:114", #[⟨10, .data⟩, ⟨5, .guard⟩], some (5, true)⟩) (v := ?_) rfl (by kernel_rfl) (by kernel_rfl) (by kernel_rfl) (fun _ _ _ h => h) (Or.inl ⟨by rfl, ?_⟩) hS ?_
              rotate_left
              · intro wv hS; have hrun := (hS.cell (p := ⟨sb, 1, none⟩) (blk_lt Vb.out)).trans ((blk_cell Vb.out 1).trans rfl); go_simp; try with_reducible rfl
              try simp only [Act.put, List.setIfInBounds_toArray, List.set_cons_zero, List.set_cons_succ]
              refine wpAnyH_ready (rs := [12]) (by kernel_rfl) (by simp) (AllReadyH.cons (o := ⟨some 150, .call { callee := .value (.func 25), args := #[.tmp 144, .tmp 146, .tmp 147, .tmp 149, .const (Value.int IntKind.i64 17)], argTypes := #[24, 3, 24, 3, 3] }, 4, "law.go:114", #[⟨6, .data⟩, ⟨8, .data⟩, ⟨9, .data⟩, ⟨11, .data⟩, ⟨5, .chain⟩, ⟨5, .guard⟩], some (5, true)⟩) rfl (fun K hK => ?_) AllReadyH.nil)
              go_simp
              refine (cA.out _ (Ro.below Ra.out hS).es (Ro.below Rb.out hS).es).mono ?_; rintro e u12 ⟨rfl, hb⟩
              replace hS := hS.trans (hb.mono hS.size)
              clear hb
              go_wp2_with fail
              refine Shut.out hK _ _ hS (fun _ => ?_)
              clear hK K
              try simp only [Act.put, List.setIfInBounds_toArray, List.set_cons_zero, List.set_cons_succ]
              refine wpAnyH_take (i := 13) (oi := ⟨some 151, .pick (.tmp 143) (.tmp 150) (.const (Value.bool false)), 4, "law.go:114", #[⟨5, .data⟩, ⟨12, .data⟩], none⟩) (v := ?_) rfl (by kernel_rfl) (by kernel_rfl) (by kernel_rfl) (fun _ _ _ h => h) (Or.inl ⟨by rfl, ?_⟩) hS ?_
              rotate_left
              · intro wv _; go_simp; try with_reducible rfl
              try simp only [Act.put, List.setIfInBounds_toArray, List.set_cons_zero, List.set_cons_succ]
              refine wpAnyH_take (i := 14) (oi := ⟨some 6, .assign (.tmp 151), 4, "law.go:114", #[⟨13, .data⟩, ⟨12, .chain⟩, ⟨0, .phase⟩, ⟨1, .phase⟩, ⟨2, .phase⟩, ⟨3, .phase⟩, ⟨4, .phase⟩, ⟨5, .phase⟩, ⟨6, .phase⟩, ⟨7, .phase⟩, ⟨8, .phase⟩, ⟨9, .phase⟩, ⟨10, .phase⟩, ⟨11, .phase⟩, ⟨12, .phase⟩, ⟨13, .phase⟩], none⟩) (v := ?_) rfl (by kernel_rfl) (by kernel_rfl) (by kernel_rfl) (fun _ _ _ h => h) (Or.inl ⟨by rfl, ?_⟩) hS ?_
              rotate_left
              · intro wv _; go_simp; try with_reducible rfl
              try simp only [Act.put, List.setIfInBounds_toArray, List.set_cons_zero, List.set_cons_succ]
              refine wpAnyH_done (by kernel_rfl) ?_ _
              refine NoPanic.normal ?_
              go_wp2
              go_ret
              exact ⟨rfl, HB.out.1.trans (hS.mono HB.out.2)⟩
end Go.Proofs.Ytfgfohomgomidaa
