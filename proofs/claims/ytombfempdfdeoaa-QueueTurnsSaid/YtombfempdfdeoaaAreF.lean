/- What the document's own Give and Set of layer 7 answer; for slices of up to 16384 records. -/
import Derived.Test.YtombfempdfdeoaaAreE
namespace Go.Proofs.Ytombfempdfdeoaa
set_option linter.unusedVariables false
set_option linter.unusedSimpArgs false
open Go.RowKit

theorem live_bounds {p : Aren} {i : Int} (h : liveS p i = true) : 0 ≤ i ∧ i < (p.1.length : Int) := by
  have := of_decide_eq_true h; exact ⟨this.1, this.2.1⟩
theorem leads_step {p : Aren} {i : Int} {k : Nat} (h : ¬ leadsTo p i k) (hk : ¬ (liveS p k = true ∧ (recAt p.1 k).2.2 = i)) : ¬ leadsTo p i (k + 1) := by
  rintro ⟨j, hj, h1, h2⟩
  rcases Nat.lt_or_ge j k with h3 | h3
  · exact h ⟨j, h3, h1, h2⟩
  · obtain rfl : j = k := by omega
    exact hk ⟨h1, h2⟩
/-- the same; and what comes back lies in records of the call's own. -/
def GiveOwn (w : World) (r : Aren × Int) (e : Ending) (w' : World) : Prop :=
  ∃ B m d, e = .returned (.tuple #[.agg #[.slice B m d, .int .i64 r.1.2], .int .i64 r.2]) ∧ Rs w' B m d r.1.1 ∧ Below w.heap.size w w' ∧ (r.2 = 0 → w'.ownsRow w.heap.size 55 3 (.slice B m d) m (recC r.1.1))
theorem GiveOwn.weak {w : World} {r : Aren × Int} {e : Ending} {w' : World} (h : GiveOwn w r e w') : GivePost w r e w' := by
  obtain ⟨B, m, d, h1, h2, h3, _⟩ := h
  exact ⟨B, m, d, h1, h2, h3⟩
set_option maxRecDepth 100000 in
set_option maxHeartbeats 4000000 in
theorem refGive_own (A : Option Addr) (n c : Nat) (rs : List Rec3) (fr i : Int) (w : World) (hx : Rs w A n c rs) (hn : n ≤ 16384) :
    Calls Try.prog 43 #[.agg #[.slice A n c, .int .i64 fr], .int .i64 i] w (GiveOwn w (arGive (rs, fr) i)) := by
  have HX := Lib.hid hx
  have hlen := hx.len
  obtain ⟨w1, w2, hw1, hw2, hs1, af⟩ := AF.first w A n c fr
  have RT := refRight_any A n c rs fr w2 (Es.below hx af.bel) hn
  obtain ⟨k0, k1, k2, k3, k4, k5⟩ := af.cells
  have hsz2 := af.sz
  have AF2 := Lib.hid af
  clear hx af
  have same : ∀ (W : World) (er : Int), arGive (rs, fr) i = ((rs, fr), er) → er ≠ 0 → AF w W w.heap.size A n c fr (.slice none 0 0) (.int .i64 0) →
      GiveOwn w (arGive (rs, fr) i) (.returned (.tuple #[.agg #[.slice A n c, .int .i64 fr], .int .i64 er])) ((W.setCell ⟨w.heap.size + 1, 0, none⟩ (.slice A n c)).setCell ⟨w.heap.size + 1, 1, none⟩ (.int .i64 fr)) := fun W er he her ha => by
    rw [he]
    exact ⟨A, n, c, rfl, Es.below HX.out (ha.last _ _), ha.last _ _, fun h => absurd h her⟩
  have SM := Lib.hid same
  have CP := Lib.hid (fun (W : World) (h : Below w.heap.size w W) => refCopy_any A n c rs fr W (Es.below HX.out h) hn)
  have LV := Lib.hid (fun (W : World) (h : Below w.heap.size w W) (k : Int) => refLive_any A n c rs fr k W (Es.below HX.out h) hn)
  obtain ⟨R, hR⟩ : ∃ R, arGive (rs, fr) i = R := ⟨_, rfl⟩
  rw [hR] at SM ⊢
  have HR := Lib.hid hR
  clear same hR
  generalize hq : w.heap.size = q at *
  cases hr : rightS (rs, fr) with
  | false =>
    rw [hr] at RT
    replace RT := Lib.hid RT
    have HE := Lib.hid (show R = ((rs, fr), 1) by rw [← HR.out]; unfold arGive; rw [if_pos hr])
    clear hr
    go_enter Try.func43, Try.ntmps43
    go_wp2_with fail
    refine RT.out.mono ?_
    rintro e w3 ⟨rfl, hb⟩
    have AF3 := Lib.hid (AF2.out.step hb)
    obtain ⟨m0, m1, m2, m3, m4, m5⟩ := AF3.out.cells
    clear hb k0 k1 k2 k3 k4 k5 hw1 hw2
    go_wp2
    refine bodyPost_ret (res_cs Try.results43 (by rfl) (AF3.out.load _ _)) rfl ?_
    exact SM.out w3 1 HE.out (by decide) AF3.out
  | true =>
    rw [hr] at RT
    replace RT := Lib.hid RT
    cases hl : liveS (rs, fr) i with
    | false =>
      have HE := Lib.hid (show R = ((rs, fr), 7) by rw [← HR.out]; unfold arGive; rw [if_neg (by simp [hr]), if_pos hl])
      have LI := Lib.hid hl
      clear hr hl
      go_enter Try.func43, Try.ntmps43
      go_wp2_with fail
      refine RT.out.mono ?_
      rintro e w3 ⟨rfl, hb⟩
      have AF3 := Lib.hid (AF2.out.step hb)
      obtain ⟨m0, m1, m2, m3, m4, m5⟩ := AF3.out.cells
      clear hb k0 k1 k2 k3 k4 k5 hw1 hw2
      go_wp2_with fail
      refine (LV.out w3 AF3.out.bel i).mono ?_
      rw [LI.out]
      rintro e w4 ⟨rfl, hb⟩
      have AF4 := Lib.hid (AF3.out.step hb)
      obtain ⟨l0, l1, l2, l3, l4, l5⟩ := AF4.out.cells
      clear hb m0 m1 m2 m3 m4 m5
      go_wp2
      refine bodyPost_ret (res_cs Try.results43 (by rfl) (AF4.out.load _ _)) rfl ?_
      exact SM.out w4 7 HE.out (by decide) AF4.out
    | true =>
      have hb0 := live_bounds hl
      simp only [hlen] at hb0
      obtain ⟨i, rfl⟩ : ∃ j : Nat, i = j := ⟨i.toNat, by omega⟩
      have hT : leadsTo (rs, fr) i n → R = ((rs, fr), 8) := fun h => by
        rw [← HR.out]; unfold arGive; rw [if_neg (by simp [hr]), if_neg (by simp [hl]), if_pos (by simp only [hlen]; exact leadsB_iff.2 h)]
      have hG : ¬ leadsTo (rs, fr) i n → R = ((rs.set i (-1, -1, fr), (i : Int)), 0) := fun h => by
        rw [← HR.out]; unfold arGive; rw [if_neg (by simp [hr]), if_neg (by simp [hl]), if_neg (by simp only [hlen]; exact fun h2 => h (leadsB_iff.1 h2))]; rfl
      have HT := Lib.hid hT; have HG := Lib.hid hG
      have LI := Lib.hid hl
      have hi0 : (0 : Int) ≤ (i : Int) := hb0.1
      have hi1 : (i : Int) < (n : Int) := hb0.2
      clear hr hl hT hG hb0
      go_enter Try.func43, Try.ntmps43
      go_wp2_with fail
      refine RT.out.mono ?_
      rintro e w3 ⟨rfl, hb⟩
      have AF3 := Lib.hid (AF2.out.step hb)
      obtain ⟨m0, m1, m2, m3, m4, m5⟩ := AF3.out.cells
      clear hb k0 k1 k2 k3 k4 k5 hw1 hw2
      go_wp2_with fail
      refine (LV.out w3 AF3.out.bel i).mono ?_
      rw [LI.out]
      rintro e w4 ⟨rfl, hb⟩
      have AF4 := Lib.hid (AF3.out.step hb)
      clear hb m0 m1 m2 m3 m4 m5 AF3
      go_wp2
      go_loopw [6] (fun kv wr => ∃ k : Nat, kv = .int .i64 (k : Int) ∧ k ≤ n ∧ Hid (AF w wr q A n c fr (.slice none 0 0) (.int .i64 0)) ∧ Hid (¬ leadsTo (rs, fr) i k)) (fun kv _ => n - (intOf kv).toNat)
      case atStart => exact ⟨0, rfl, by omega, AF4, fun ⟨j, hj, _⟩ => by omega⟩
      case round =>
        clear AF4
        obtain ⟨k, rfl, hk, haf, hnl⟩ := hrel
        obtain ⟨m0, m1, m2, m3, m4, m5⟩ := haf.out.cells
        by_cases hlt : k < n
        · have b1 : decide ((k : Int) < (n : Int)) = true := by simpa using hlt
          have LK := LV.out wr haf.out.bel k
          have hk0 : (0 : Int) ≤ (k : Int) := by omega
          have hk1 : (k : Int) < (n : Int) := by omega
          have hkp : (k : Int) + 1 ≤ 16384 := by omega
          cases hlk : liveS (rs, fr) k with
          | false =>
            rw [hlk] at LK
            replace LK := Lib.hid LK
            have HN := Lib.hid (leads_step hnl.out (fun h => by rw [hlk] at h; cases h.1))
            clear hlk hnl
            go_wp2_with fail
            refine LK.out.mono ?_
            rintro e w5 ⟨rfl, hb⟩
            have AF5 := Lib.hid (haf.out.step hb)
            clear hb m0 m1 m2 m3 m4 m5 haf
            go_wp2
            go_roundw
            case rel => exact ⟨k + 1, by go_num, by omega, AF5, HN.out⟩
            case measure => simp [intOf]; omega
          | true =>
            rw [hlk] at LK
            replace LK := Lib.hid LK
            by_cases hnx : (recAt rs k).2.2 = (i : Int)
            · have b2 : ((recAt rs k).2.2 == (i : Int)) = true := by simp [hnx]
              have HE := Lib.hid (HT.out ⟨k, hlt, hlk, hnx⟩)
              clear hlk hnl hnx
              go_wp2_with fail
              refine LK.out.mono ?_
              rintro e w5 ⟨rfl, hb⟩
              have AF5 := Lib.hid (haf.out.step hb)
              obtain ⟨l0, l1, l2, l3, l4, l5⟩ := AF5.out.cells
              obtain ⟨b, off, he, _, _, _, r2⟩ := Rs.look (Es.below HX.out (show Below w.heap.size w w5 by rw [hq]; exact AF5.out.bel)) k hlt
              subst he
              clear hb m0 m1 m2 m3 m4 m5 haf
              generalize recAt rs k = r at *
              go_wp2
              refine bodyPost_ret (res_cs Try.results43 (by rfl) (AF5.out.load _ _)) rfl ?_
              exact SM.out w5 8 HE.out (by decide) AF5.out
            · have b2 : ((recAt rs k).2.2 == (i : Int)) = false := by simp [hnx]
              have HN := Lib.hid (leads_step hnl.out (fun h => hnx h.2))
              clear hlk hnl hnx
              go_wp2_with fail
              refine LK.out.mono ?_
              rintro e w5 ⟨rfl, hb⟩
              have AF5 := Lib.hid (haf.out.step hb)
              obtain ⟨l0, l1, l2, l3, l4, l5⟩ := AF5.out.cells
              obtain ⟨b, off, he, _, _, _, r2⟩ := Rs.look (Es.below HX.out (show Below w.heap.size w w5 by rw [hq]; exact AF5.out.bel)) k hlt
              subst he
              clear hb m0 m1 m2 m3 m4 m5 haf
              generalize recAt rs k = r at *
              go_wp2
              go_roundw
              case rel => exact ⟨k + 1, by go_num, by omega, AF5, HN.out⟩
              case measure => simp [intOf]; omega
        · obtain rfl : k = n := by omega
          have b1 : decide ((k : Int) < (k : Int)) = false := by simp
          have HE := Lib.hid (HG.out hnl.out)
          clear hnl hlt SM HT HG
          go_wp2_with fail
          refine (CP.out wr haf.out.bel).mono ?_
          rintro e w4 ⟨B, d, rfl, hown, hb⟩
          have AF4 := Lib.hid (haf.out.step hb)
          obtain ⟨g, rfl⟩ : ∃ g, B = some ⟨g, 0, none⟩ := by
            rcases hown.2 with ⟨h, h0⟩ | ⟨g, cap, cur, h, _⟩
            · omega
            · injection h with h; exact ⟨g, h⟩
          have hg1 := (hown.lt g (by simp [Value.ownBlock])).1
          have hg2 := (hown.lt g (by simp [Value.ownBlock])).2
          have hw3 := haf.out.sz
          have hx5 := heap_alloc_new w4 (.cells #[.slice (some ⟨g, 0, none⟩) k d, .int .i64 fr] 24)
          have af5 := AF4.out.step ((Below.refl w4.heap.size w4).alloc (Nat.le_refl _) (.cells #[.slice (some ⟨g, 0, none⟩) k d, .int .i64 fr] 24))
          have own5 := hown.alloc (.cells #[.slice (some ⟨g, 0, none⟩) k d, .int .i64 fr] 24)
          obtain ⟨w5, hw5⟩ : ∃ w5, w4.alloc (.cells #[.slice (some ⟨g, 0, none⟩) k d, .int .i64 fr] 24) = w5 := ⟨_, rfl⟩
          rw [hw5] at hx5 af5 own5
          have hsq := hb.size
          generalize hs : w4.heap.size = s at *
          obtain ⟨n0, n1, n2, n3, n4, n5⟩ := af5.cells
          have x0 := blk_cell hx5 0; have x1 := blk_cell hx5 1; have x2 := blk_frozen hx5 1
          simp only [List.getElem?_toArray, List.getElem?_cons_zero, List.getElem?_cons_succ] at x0 x1
          have hrl : rs.length = k := hlen
          obtain ⟨e0, e1, e2⟩ := recC_at rs i (by omega)
          have g0 := (own5.cellAt (i * 3) (by omega)).trans e0
          have g1 := (own5.cellAt (i * 3 + 1) (by omega)).trans e1
          have g2 := (own5.cellAt (i * 3 + 2) (by omega)).trans e2
          have f0 := own5.frozenAt (i * 3); have f1 := own5.frozenAt (i * 3 + 1); have f2 := own5.frozenAt (i * 3 + 2)
          have q1 : g ≠ s := by omega
          have q2 : g ≠ q := by omega
          have q3 : g ≠ q + 1 := by omega
          have q4 : s ≠ q := by omega
          have q5 : s ≠ q + 1 := by omega
          have q1' := q1.symm; have q2' := q2.symm; have q3' := q3.symm; have q4' := q4.symm; have q5' := q5.symm
          have HAF := Lib.hid af5; have HOW := Lib.hid own5
          clear hown hb af5 own5 m0 m1 m2 m3 m4 m5 e0 e1 e2 hx5 haf
          go_wp2
          have hsq2 : q ≤ s := by omega
          have AF7 := (((HAF.out.set (o := i * 3) (v := .int .i64 (-1)) (by omega) q2 q3).set (o := i * 3 + 1) (v := .int .i64 (-1)) (by omega) q2 q3).set (o := i * 3 + 2) (v := .int .i64 fr) (by omega) q2 q3).set (o := 1) (v := .int .i64 (i : Int)) hsq2 q4 q5
          have own7 := (((HOW.out.stored (i * 3) (.int .i64 (-1))).1.stored (i * 3 + 1) (.int .i64 (-1))).1.stored (i * 3 + 2) (.int .i64 fr)).1
          rw [← recC_set rs i (-1, -1, fr) (by omega)] at own7
          have own6 := own_other own7 (k := s) (o := 1) (u := .int .i64 (i : Int)) (by simpa [Value.ownBlock] using q1)
          have own8 := own_other (own_other own6 (k := q + 1) (o := 0) (u := .slice (some ⟨g, 0, none⟩) k d) (by simpa [Value.ownBlock] using q3)) (k := q + 1) (o := 1) (u := .int .i64 (i : Int)) (by simpa [Value.ownBlock] using q3)
          obtain ⟨B', d', he, hrs⟩ := rs_of_own own8
          injection he with he1 he2 he3; subst he1; subst he3
          refine bodyPost_ret (res_cs Try.results43 (by rfl) (AF7.load _ _)) rfl ?_
          rw [HE.out]
          exact ⟨_, _, _, rfl, hrs, by rw [hq]; exact AF7.last _ _, fun _ => own_base own8 (by rw [hq]; omega)⟩
theorem refGive_any (A : Option Addr) (n c : Nat) (rs : List Rec3) (fr i : Int) (w : World) (hx : Rs w A n c rs) (hn : n ≤ 16384) :
    Calls Try.prog 43 #[.agg #[.slice A n c, .int .i64 fr], .int .i64 i] w (GivePost w (arGive (rs, fr) i)) :=
  (refGive_own A n c rs fr i w hx hn).mono fun _ _ h => h.weak
end Go.Proofs.Ytombfempdfdeoaa
