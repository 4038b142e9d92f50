/- What the document's own Has, walk, Right, Live, Free of layer 7 answer; for slices of up to 16384 records. -/
import Derived.Test.YtombfempdfdeoaaAreA
import Derived.LoopTactic
import Derived.BigQuiet
import Derived.Deep.QuietTactic
import Derived.Deep.MidRow
namespace Go.Proofs.Ytombfempdfdeoaa
set_option linter.unusedVariables false
set_option linter.unusedSimpArgs false
open Go.RowKit

theorem blk_lt {w : World} {b : Nat} {o : Obj} (h : w.heap[b]? = some o) : b < w.heap.size := by
  obtain ⟨h1, _⟩ := Array.getElem?_eq_some_iff.1 h; exact h1
theorem blk_cell {w : World} {b : Nat} {cs : Array Value} {T : TypeId} (h : w.heap[b]? = some (.cells cs T)) (i : Nat) : w.cell? ⟨b, i, none⟩ = cs[i]? := cell_of_row w b i cs T (0, 0) h
theorem blk_frozen {w : World} {b : Nat} {cs : Array Value} {T : TypeId} (h : w.heap[b]? = some (.cells cs T)) (o : Nat) : w.frozen? ⟨b, o, none⟩ = false := by unfold World.frozen?; rw [h]; simp
theorem blk_below {w w' : World} {m b : Nat} {o : Obj} (h : w.heap[b]? = some o) (hb : Below m w w') (hm : b < m) : w'.heap[b]? = some o := (hb.block b hm).trans h
/-- an arena in its variable. -/
theorem load_arena {w : World} {b : Nat} {x y : Value} (h : w.heap[b]? = some (.cells #[x, y] 24)) : (loadVar 24 ⟨b, 0, none⟩).run Try.prog w = .ok (.agg #[x, y]) w :=
  run_loadVar_row (P := Try.prog) w b 24 24 #[x, y] (0, 0) _ h Try.underlying24 (by rfl) (by kernel_rfl)
theorem infoInt : (Try.prog.info? 3).map (fun i => (i.zero, i.size, i.bytes)) = some (some (.int .i64 0), 1, 8) := by kernel_rfl
theorem infoRec : (Try.prog.info? 55).map (fun i => (i.zero, i.size, i.bytes)) = some (some (.agg #[.int .i64 0, .int .i64 0, .int .i64 0]), 3, 24) := by kernel_rfl
theorem info_of {P : Program} {t : TypeId} {z : Option Value} {k b : Nat} (h : (P.info? t).map (fun i => (i.zero, i.size, i.bytes)) = some (z, k, b)) : ∃ i, P.info? t = some i ∧ i.zero = z ∧ i.size = k ∧ i.bytes = b := by
  cases hi : P.info? t with
  | none => rw [hi] at h; cases h
  | some i =>
    rw [hi] at h
    simp only [Option.map_some, Option.some.injEq, Prod.mk.injEq] at h
    exact ⟨i, rfl, h.1, h.2.1, h.2.2⟩
theorem not_mem_take {xs : List Int} {i : Nat} {x y : Int} (hd : xs.drop i = y :: xs.drop (i + 1)) (h : x ∉ xs.take i) (hy : y ≠ x) : x ∉ xs.take (i + 1) := by
  rw [take_step hd]
  intro hm
  rcases List.mem_append.1 hm with hm | hm
  · exact h hm
  · simp at hm; exact hy hm.symm
theorem mem_at {xs : List Int} {i : Nat} {y : Int} (hd : xs.drop i = y :: xs.drop (i + 1)) : y ∈ xs := List.mem_of_mem_drop (i := i) (by rw [hd]; simp)
set_option maxHeartbeats 1000000 in
theorem refHas_any (A : Option Addr) (n c : Nat) (xs : List Int) (x : Int) (w : World) (hx : Is w A n c xs) (hn : n ≤ 16384) :
    Calls Try.prog 24 #[.slice A n c, .int .i64 x] w fun e w' => e = .returned (.bool (decide (x ∈ xs))) ∧ w = w' := by
  have HX := Lib.hid hx
  obtain ⟨R, hR⟩ : ∃ R, decide (x ∈ xs) = R := ⟨_, rfl⟩
  rw [hR]
  have HR := Lib.hid hR
  clear hx hR
  go_enter Try.func24, Try.ntmps24
  go_wp2
  go_loop [5] (fun iv => ∃ (i : Nat), i ≤ n ∧ iv = .int .i64 (i : Int) ∧ Hid (x ∉ xs.take i)) (fun iv => n - (intOf iv).toNat)
  case atStart => exact ⟨0, by omega, rfl, by simp [Hid]⟩
  case round =>
    obtain ⟨i, hi, rfl, hd⟩ := hrel
    have HD := Lib.hid hd.out
    clear hd
    by_cases hlt : i < n
    · have hd1 : decide ((i : Int) < (n : Int)) = true := by simpa using hlt
      obtain ⟨b, off, y, rfl, hb0, hc0, hdr⟩ := HX.out.look i hlt
      have HDr := Lib.hid hdr
      have hib1 : (0 : Int) ≤ (i : Int) := by omega
      have hib2 : (i : Int) < (n : Int) := by omega
      clear hb0 hdr
      by_cases ht : y = x
      · subst ht
        have hE : (y == y) = true := by simp
        have HE := Lib.hid (show R = true by rw [← HR.out]; exact decide_eq_true (mem_at HDr.out))
        go_wp2
        go_ret
        rw [HE.out]
        exact ⟨rfl, rfl⟩
      · have hE : (y == x) = false := by simpa using ht
        have HE := Lib.hid (not_mem_take HDr.out HD.out ht)
        clear ht
        go_wp2
        go_round
        case rel => exact ⟨i + 1, by omega, by go_num, HE.out⟩
        case measure => simp [intOf]; omega
    · obtain rfl : i = n := by omega
      have hd1 : decide ((i : Int) < (i : Int)) = false := by simp
      have HE := Lib.hid (show R = false by
        rw [← HR.out]
        have h1 := HX.out.len
        have h2 := HD.out
        rw [List.take_of_length_le (by omega)] at h2
        exact decide_eq_false h2)
      go_wp2
      go_ret
      rw [HE.out]
      exact ⟨rfl, rfl⟩
/-- the free list, or that it does not end. -/
def WalkPost (w : World) (p : Aren) (e : Ending) (w' : World) : Prop :=
  ∃ A n c b l, e = .returned (.tuple #[.slice A n c, .bool b]) ∧ Is w' A n c l ∧ (walkL p = some l ∧ Places p.1.length l ∧ b = true ∨ walkL p = none ∧ l = [] ∧ b = false) ∧ Below w.heap.size w w'
def lenV : Value → Nat
  | .slice _ n _ => n
  | _ => 0
theorem walkF_end {rs : List Rec3} {f : Nat} {at_ : Int} {out : List Int} (hf : 0 < f) (h : at_ = -1) : walkF rs f at_ out = some out := by
  obtain ⟨g, rfl⟩ : ∃ g, f = g + 1 := ⟨f - 1, by omega⟩
  unfold walkF; rw [if_pos h]
theorem walkF_bad {rs : List Rec3} {f : Nat} {at_ : Int} {out : List Int} (h0 : at_ ≠ -1) (h : badAt rs out at_) : walkF rs f at_ out = none := by
  cases f with
  | zero => rfl
  | succ f => unfold walkF; rw [if_neg h0, if_pos h]
theorem walkF_step {rs : List Rec3} {f : Nat} {at_ : Int} {out : List Int} (hf : 0 < f) (h0 : at_ ≠ -1) (h : ¬ badAt rs out at_) : walkF rs f at_ out = walkF rs (f - 1) (recAt rs at_).2.2 (out ++ [at_]) := by
  obtain ⟨g, rfl⟩ : ∃ g, f = g + 1 := ⟨f - 1, by omega⟩
  conv => lhs; unfold walkF
  rw [if_neg h0, if_neg h]; rfl
set_option maxRecDepth 100000 in
set_option maxHeartbeats 4000000 in
theorem refWalk_any (A : Option Addr) (n c : Nat) (rs : List Rec3) (fr : Int) (w : World) (hx : Rs w A n c rs) (hn : n ≤ 16384) :
    Calls Try.prog 38 #[.agg #[.slice A n c, .int .i64 fr]] w (WalkPost w (rs, fr)) := by
  obtain ⟨i5, hi5, hz0, hz1, hz2⟩ := info_of infoInt
  have HI := Lib.hid hi5; have HZ0 := Lib.hid hz0; have HZ1 := Lib.hid hz1; have HZ2 := Lib.hid hz2
  clear hi5 hz0 hz1 hz2
  have hlen := hx.len
  have HX := Lib.hid (Es.alloc hx (.cells #[.slice A n c, .int .i64 fr] 24))
  have HK := Lib.hid (heap_alloc_new w (.cells #[.slice A n c, .int .i64 fr] 24))
  have HB := Lib.hid ((Below.refl w.heap.size w).alloc (Nat.le_refl _) (.cells #[.slice A n c, .int .i64 fr] 24))
  have hsz : (w.alloc (.cells #[.slice A n c, .int .i64 fr] 24)).heap.size = w.heap.size + 1 := by simp
  obtain ⟨p, hp⟩ : ∃ p : Aren, p = (rs, fr) := ⟨_, rfl⟩
  rw [← hp]
  have HW := Lib.hid (show walkL p = walkF rs (n + 1 - 0) fr [] by rw [hp]; unfold walkL; rw [hlen]; rfl)
  have HL := Lib.hid (show p.1.length = n by rw [hp]; exact hlen)
  have HL2 := Lib.hid hlen
  clear hlen hx hp
  have hc1 : (w.alloc (.cells #[.slice A n c, .int .i64 fr] 24)).cell? ⟨w.heap.size, 1, none⟩ = some (.int .i64 fr) := by rw [blk_cell HK.out]; rfl
  generalize hq : w.heap.size = q at *
  go_enter Try.func38, Try.ntmps38
  go_wp2
  generalize w.alloc (.cells #[.slice A n c, .int .i64 fr] 24) = w0 at *
  go_loopw [4, 5] (fun ov av wr => ∃ (out : List Int) (at_ : Int), av = .int .i64 at_ ∧ lenV ov = out.length ∧ Hid (wr.ownsRow (q + 1) 3 1 ov out.length (intC out)) ∧ Hid (Below (q + 1) w0 wr) ∧ Hid (Places n out) ∧ Hid (walkL p = walkF rs (n + 1 - out.length) at_ out)) (fun ov _ _ => n - lenV ov)
  case atStart => exact ⟨[], fr, rfl, rfl, World.ownsRow_nil _ _ _ _, Below.refl _ _, Places.nil _, HW.out⟩
  case round =>
    obtain ⟨out, at_, rfl, hlv, hown, hbl, hpl, hwk⟩ := hrel
    obtain ⟨B, d, rfl, his⟩ := Es.of_own hown.out (intC_one _)
    have hol := hpl.out.len
    have hk := blk_below HK.out hbl.out (by omega)
    have hc0 : wr.cell? ⟨q, 0, none⟩ = some (.slice A n c) := by rw [blk_cell hk]; rfl
    have hx1 : Rs wr A n c rs := Es.below HX.out (by rw [hsz]; exact hbl.out)
    have HBW := Lib.hid (show Below w.heap.size w wr by rw [hq]; exact HB.out.trans (hbl.out.mono (by omega)))
    have HIS := Lib.hid (show Is wr B out.length d out from his)
    have HX1 := Lib.hid hx1
    have HWK := Lib.hid hwk.out
    have HPL := Lib.hid hpl.out
    clear hk hwk his hpl hlv hc1 hx1
    by_cases h1 : at_ = -1
    · have b0 : (at_ != -1) = false := by simp [h1]
      have HR := Lib.hid (show walkL p = some out by rw [HWK.out, walkF_end (by omega) h1])
      clear h1 hown hbl
      go_wp2
      go_ret2
      exact ⟨_, _, _, _, out, rfl, HIS.out, Or.inl ⟨HR.out, by rw [HL.out]; exact HPL.out, rfl⟩, HBW.out⟩
    · have b0 : (at_ != -1) = true := by simp [h1]
      by_cases hbad : badAt rs out at_
      · have HR := Lib.hid (show walkL p = none by rw [HWK.out, walkF_bad h1 hbad])
        have fin : ∀ w', Below wr.heap.size wr w' → WalkPost w p (.returned (.tuple #[.slice none 0 0, .bool false])) w' := fun w' hb => ⟨_, _, _, _, [], rfl, Es.nil _ _ _ _, Or.inr ⟨HR.out, rfl, rfl⟩, HBW.out.trans (hb.mono HBW.out.size)⟩
        have HF := Lib.hid (fin wr (Below.refl _ _))
        unfold badAt at hbad
        clear hown hbl fin h1
        by_cases h2 : at_ < 0
        · have b1 : decide (at_ < 0) = true := by simpa using h2
          clear hbad h2
          go_wp2
          go_ret2
          exact HF.out
        · have b1 : decide (at_ < 0) = false := by simpa using h2
          by_cases h3 : (n : Int) ≤ at_
          · have b2 : decide ((n : Int) ≤ at_) = true := by simpa using h3
            clear hbad h2 h3
            go_wp2
            go_ret2
            exact HF.out
          · have b2 : decide ((n : Int) ≤ at_) = false := by simpa using h3
            have H := refHas_any B out.length d out at_ wr HIS.out (by omega)
            by_cases h4 : at_ ∈ out
            · rw [decide_eq_true h4] at H
              replace H := Lib.hid H
              clear hbad h2 h3 h4
              go_wp2_with fail
              refine H.out.mono ?_; rintro e w' ⟨rfl, rfl⟩
              go_wp2
              go_ret2
              exact HF.out
            · rw [decide_eq_false h4] at H
              replace H := Lib.hid H
              obtain ⟨i, rfl⟩ : ∃ i : Nat, at_ = i := ⟨at_.toNat, by omega⟩
              obtain ⟨b, off, rfl, hb0, k0, k1, k2⟩ := HX1.out.look i (by omega)
              have hi0 : (0 : Int) ≤ (i : Int) := by omega
              have hi1 : (i : Int) < (n : Int) := by omega
              have HL3 := HL2.out
              by_cases h5 : (recAt rs i).1 = -1
              · have h6 : (recAt rs i).2.1 ≠ -1 := by
                  rcases hbad with h | h | h | h | h
                  · omega
                  · omega
                  · exact absurd h h4
                  · exact absurd h5 h
                  · exact h
                have b3 : ((recAt rs i).1 != -1) = false := by simp [h5]
                have b4 : ((recAt rs i).2.1 != -1) = true := by simp [h6]
                generalize recAt rs i = r at *
                clear hbad h2 h3 h4 h5 h6 hb0 k2 HL3
                go_wp2_with fail
                refine H.out.mono ?_; rintro e w' ⟨rfl, rfl⟩
                go_wp2
                go_ret2
                exact HF.out
              · have b3 : ((recAt rs i).1 != -1) = true := by simp [h5]
                generalize recAt rs i = r at *
                clear hbad h2 h3 h4 h5 hb0 k1 k2 HL3
                go_wp2_with fail
                refine H.out.mono ?_; rintro e w' ⟨rfl, rfl⟩
                go_wp2
                go_ret2
                exact HF.out
      · obtain ⟨g0, g1, g2, g3, g4⟩ := not_bad hbad
        rw [HL2.out] at g1
        have hstep := walkF_step (rs := rs) (f := n + 1 - out.length) (at_ := at_) (out := out) (by omega) h1 hbad
        obtain ⟨i, rfl⟩ : ∃ i : Nat, at_ = i := ⟨at_.toNat, by omega⟩
        have H := refHas_any B out.length d out i wr HIS.out (by omega)
        rw [decide_eq_false g2] at H
        have b1 : decide ((i : Int) < 0) = false := by simp
        have b2 : decide ((n : Int) ≤ (i : Int)) = false := by simp; omega
        obtain ⟨b, off, rfl, hb0, k0, k1, k2⟩ := HX1.out.look i (by omega)
        have b3 : ((recAt rs i).1 != -1) = false := by simp [g3]
        have b4 : ((recAt rs i).2.1 != -1) = false := by simp [g4]
        have hpl2 := HPL.out.app g0 g1 g2
        have HP2 := Lib.hid hpl2
        have HLN := Lib.hid hpl2.len
        have HW2 := Lib.hid (show walkL p = walkF rs (n + 1 - (out.length + 1)) (recAt rs i).2.2 (out ++ [(i : Int)]) by rw [HWK.out, hstep]; rfl)
        obtain ⟨A4, c4, w4, hap4, hown4, hbel4⟩ := eapp_lit (P := Try.prog) (ty := 37) Try.underlying37 HI.out HZ0.out HZ1.out HZ2.out rfl (by decide) hown.out (intC_one _) (intC [(i : Int)]) (intC_one _) (m := 1) rfl (by unfold maxLen; omega) (by omega) hbl.out (by have := hbl.out.size; omega)
        rw [← intC_app] at hown4
        have HO4 := Lib.hid hown4; have HB4 := Lib.hid hbel4
        have hk4 := blk_below HK.out hbel4 (by omega)
        have hc04 : w4.cell? ⟨q, 0, none⟩ = some (.slice (some ⟨b, off, none⟩) n c) := by rw [blk_cell hk4]; rfl
        have hx4 : Rs w4 (some ⟨b, off, none⟩) n c rs := Es.below HX.out (by rw [hsz]; exact hbel4)
        obtain ⟨b', off', he, hb0', _, _, k24⟩ := hx4.look i (by omega)
        injection he with he; injection he with he1 he2; subst he1; subst he2
        have hi0 : (0 : Int) ≤ (i : Int) := by omega
        have hi1 : (i : Int) < (n : Int) := by omega
        replace H := Lib.hid H
        replace hap4 : (Builtin.append_ #[37, 37] 37 #[_, .slice (some ⟨wr.heap.size, 0, none⟩) 1 1]).run Try.prog (wr.alloc (.cells #[.int .i64 (i : Int)] 3)) = _ := hap4
        clear hown hbl hown4 hbel4 hpl2 hstep g0 g1 g2 g3 g4 hbad h1 hb0 hb0' hk4 hx4 k2
        generalize recAt rs i = r at *
        go_wp2_with fail
        refine H.out.mono ?_; rintro e w' ⟨rfl, rfl⟩
        go_wp2_with (at_builtin; refine eapp_run (by rfl) rfl rfl rfl hap4 ?_)
        go_roundw
        case rel => exact ⟨out ++ [(i : Int)], r.2.2, rfl, by simp [lenV], by rw [List.length_append]; exact HO4.out, HB4.out, HP2.out, by rw [List.length_append]; exact HW2.out⟩
        case measure =>
          have := HLN.out
          simp [lenV] at this ⊢; omega
end Go.Proofs.Ytombfempdfdeoaa
