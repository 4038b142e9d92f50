/- The fixed fact 'alive' of layer 11 is true, and writes nothing that was there; no condition. -/
import Derived.Test.YtjpgmkbcjedhfaaNotP
namespace Go.Proofs.Ytjpgmkbcjedhfaa
set_option linter.unusedVariables false
set_option linter.unusedSimpArgs false
open Go.RowKit
theorem is_lit11 (W : World) (xs : List Int) {m : Nat} (hm : m = xs.length) : Is (W.alloc (.cells (intC xs).toArray 3)) (some ⟨W.heap.size, 0, none⟩) m m xs := Es.new_ W _ (intC xs) (intC_one _) (by rw [intC_len, hm, Nat.mul_one])
set_option maxRecDepth 100000 in
set_option maxHeartbeats 8000000 in
theorem alive11 (w : World) : Calls Try.prog 7 #[] w fun e w' => e = .returned (.bool true) ∧ Below w.heap.size w w' := by
  have c1 : ∀ B m d W, Rw w W B m d [] → Calls Try.prog 9 #[.agg #[.int .u32 4294967295, .int .u32 4294967295, .slice B m d]] W (AAs w W 0 4294967295 [] 4294967295 0) := fun B m d W hx => addAs hx (by have := hx.es.len; rw [wtC_len] at this; simp at this; omega) ⟨by decide, by decide, by decide, by decide, by simp, by simp⟩ (by kernel_rfl)
  have c2 : ∀ B m d W, Rw w W B m d [] → Calls Try.prog 9 #[.agg #[.int .u32 0, .int .u32 4294967295, .slice B m d]] W (AAs w W 1 4294967295 [] 0 0) := fun B m d W hx => addAs hx (by have := hx.es.len; rw [wtC_len] at this; simp at this; omega) ⟨by decide, by decide, by decide, by decide, by simp, by simp⟩ (by kernel_rfl)
  have c3 : ∀ B m d W, Rw w W B m d [] → Calls Try.prog 11 #[.agg #[.int .u32 1, .int .u32 4294967295, .slice B m d], .int .u32 0, .int .i64 5] W (NAs w W 1 4294967295 [(0, 5)] 0) := fun B m d W hx => parkAs11 0 5 hx (by have := hx.es.len; rw [wtC_len] at this; simp at this; omega) ⟨by decide, by decide, by decide, by decide, by simp, by simp⟩ (by decide) (by decide) (by kernel_rfl)
  have c4 : ∀ B m d W, Rw w W B m d [(0, 5)] → Calls Try.prog 18 #[.agg #[.int .u32 1, .int .u32 4294967295, .slice B m d]] W (OAs w W 1 0 [(0, 5)] (-1) 0) := fun B m d W hx => oneAs hx (by have := hx.es.len; rw [wtC_len] at this; simp at this; omega) ⟨by decide, by decide, by decide, by decide, by intro x hx; simp at hx; subst hx; exact ⟨by decide, by decide⟩, by intro x hx; simp at hx; subst hx; exact ⟨by decide, by decide⟩⟩ (by kernel_rfl)
  have c5 : ∀ B m d W, Rw w W B m d [(0, 5)] → Calls Try.prog 18 #[.agg #[.int .u32 1, .int .u32 0, .slice B m d]] W (OAs w W 1 1 [] 5 0) := fun B m d W hx => oneAs hx (by have := hx.es.len; rw [wtC_len] at this; simp at this; omega) ⟨by decide, by decide, by decide, by decide, by intro x hx; simp at hx; subst hx; exact ⟨by decide, by decide⟩, by intro x hx; simp at hx; subst hx; exact ⟨by decide, by decide⟩⟩ (by kernel_rfl)
  have c6 : ∀ B m d W, Rw w W B m d [] → Calls Try.prog 18 #[.agg #[.int .u32 1, .int .u32 1, .slice B m d]] W (OAs w W 1 1 [] 0 7) := fun B m d W hx => oneAs hx (by have := hx.es.len; rw [wtC_len] at this; simp at this; omega) ⟨by decide, by decide, by decide, by decide, by simp, by simp⟩ (by kernel_rfl)
  have c7 : ∀ B m d W, Rw w W B m d [(0, 5)] → Calls Try.prog 11 #[.agg #[.int .u32 1, .int .u32 0, .slice B m d], .int .u32 4294967295, .int .i64 6] W (NAs w W 1 0 [(0, 5)] 1) := fun B m d W hx => parkAs11 4294967295 6 hx (by have := hx.es.len; rw [wtC_len] at this; simp at this; omega) ⟨by decide, by decide, by decide, by decide, by intro x hx; simp at hx; subst hx; exact ⟨by decide, by decide⟩, by intro x hx; simp at hx; subst hx; exact ⟨by decide, by decide⟩⟩ (by decide) (by decide) (by kernel_rfl)
  have c8 : ∀ B m d W, Rw w W B m d [(0, 5)] → Calls Try.prog 20 #[.agg #[.int .u32 1, .int .u32 4294967295, .slice B m d]] W (LAs w W 1 1 [] [5] 0) := fun B m d W hx => allAs hx (by have := hx.es.len; rw [wtC_len] at this; simp at this; omega) ⟨by decide, by decide, by decide, by decide, by intro x hx; simp at hx; subst hx; exact ⟨by decide, by decide⟩, by intro x hx; simp at hx; subst hx; exact ⟨by decide, by decide⟩⟩ (by kernel_rfl)
  have c9 : ∀ B m d W, Rw w W B m d [(0, 5)] → Calls Try.prog 16 #[.agg #[.int .u32 1, .int .u32 0, .slice B m d], .int .u32 4294967295] W (YesN W true) := fun B m d W hx => told11As 4294967295 hx (by have := hx.es.len; rw [wtC_len] at this; simp at this; omega) ⟨by decide, by decide, by decide, by decide, by intro x hx; simp at hx; subst hx; exact ⟨by decide, by decide⟩, by intro x hx; simp at hx; subst hx; exact ⟨by decide, by decide⟩⟩ (by decide) (by decide) (by kernel_rfl)
  have c10 : ∀ B m d W, Rw w W B m d [(0, 5)] → Calls Try.prog 16 #[.agg #[.int .u32 1, .int .u32 0, .slice B m d], .int .u32 0] W (YesN W false) := fun B m d W hx => told11As 0 hx (by have := hx.es.len; rw [wtC_len] at this; simp at this; omega) ⟨by decide, by decide, by decide, by decide, by intro x hx; simp at hx; subst hx; exact ⟨by decide, by decide⟩, by intro x hx; simp at hx; subst hx; exact ⟨by decide, by decide⟩⟩ (by decide) (by decide) (by kernel_rfl)
  have c11 : ∀ B m d W, Rw w W B m d [(0, 5)] → Calls Try.prog 14 #[.agg #[.int .u32 1, .int .u32 4294967295, .slice B m d]] W (YesN W true) := fun B m d W hx => right11As hx (by have := hx.es.len; rw [wtC_len] at this; simp at this; omega) ⟨by decide, by decide, by decide, by decide, by intro x hx; simp at hx; subst hx; exact ⟨by decide, by decide⟩, by intro x hx; simp at hx; subst hx; exact ⟨by decide, by decide⟩⟩ (by kernel_rfl)
  have c12 : ∀ W, Calls Try.prog 14 #[.agg #[.int .u32 1001, .int .u32 0, .slice none 0 0]] W (YesN W false) := fun W => right11As (w0 := w) (A := none) (n := 0) (c := 0) (ws := []) (wa := 1001) (to := 0) (Ro.nil _ _ _ _ _ _) (by decide) ⟨by decide, by decide, by decide, by decide, by simp, by simp⟩ (by kernel_rfl)
  have c13 : ∀ (xs : List Int) (A B : Option Addr) (n c m d : Nat) W, Is W A n c xs → Is W B m d xs → xs.length ≤ 70 → Calls Try.prog 22 #[.slice A n c, .slice B m d] W (YesN W true) := fun xs A B n c m d W h1 h2 h3 => by have h := refInts_any A n c xs B m d xs W h1 h2 (by have := Is.len h1; omega); rwa [decide_eq_true rfl] at h
  have HB := Lib.hid (And.intro (Below.refl w.heap.size w) (Nat.le_refl w.heap.size))
  replace c1 := Lib.hid c1
  replace c2 := Lib.hid c2
  replace c3 := Lib.hid c3
  replace c4 := Lib.hid c4
  replace c5 := Lib.hid c5
  replace c6 := Lib.hid c6
  replace c7 := Lib.hid c7
  replace c8 := Lib.hid c8
  replace c9 := Lib.hid c9
  replace c10 := Lib.hid c10
  replace c11 := Lib.hid c11
  replace c12 := Lib.hid c12
  replace c13 := Lib.hid c13
  go_enter Try.func7, Try.ntmps7
  go_wp2_with fail
  have gq := HB.out.2
  obtain ⟨w1, hw1⟩ : ∃ W, (w.alloc (.cells #[.int .u32 4294967295, .int .u32 4294967295, .slice none 0 0] 25)) = W := ⟨_, rfl⟩
  have hb : Below w.heap.size w w1 := hw1 ▸ ((Below.refl _ _).alloc (Nat.le_refl _) _)
  have hv0 : w1.heap[w.heap.size]? = some (.cells #[.int .u32 4294967295, .int .u32 4294967295, .slice none 0 0] 25) := by
    have h0 := heap_alloc_new w (.cells #[.int .u32 4294967295, .int .u32 4294967295, .slice none 0 0] 25)
    rw [show w.heap.size = w.heap.size by simp [Nat.add_assoc]] at h0
    rw [← hw1]
    exact h0
  replace HB := Lib.hid (And.intro (HB.out.1.trans (hb.mono HB.out.2)) (Nat.le_trans HB.out.2 hb.size))
  have Vn := Lib.hid hv0
  have gen := gq
  generalize hsn : w.heap.size = sn at *
  clear hb gq hv0
  rw [hw1]
  clear hw1
  subst hsn
  skip
  refine (c1.out none 0 0 _ (Ro.nil _ _ _ _ _ _)).mono ?_
  rintro e w2 ⟨B1, m1, d1, rfl, hrs, hb⟩
  replace Vn := Lib.hid (blk_below Vn.out hb (blk_lt Vn.out))
  replace HB := Lib.hid (And.intro (HB.out.1.trans (hb.mono HB.out.2)) (Nat.le_trans HB.out.2 hb.size))
  have Ra := Lib.hid hrs
  clear hrs
  clear hb
  have pcn0 : w2.cell? ⟨w.heap.size, 0, none⟩ = some (.int .u32 4294967295) := (blk_cell Vn.out 0).trans rfl
  have pfn0 : w2.frozen? ⟨w.heap.size, 0, none⟩ = false := blk_frozen Vn.out 0
  have pcn1 : w2.cell? ⟨w.heap.size, 1, none⟩ = some (.int .u32 4294967295) := (blk_cell Vn.out 1).trans rfl
  have pfn1 : w2.frozen? ⟨w.heap.size, 1, none⟩ = false := blk_frozen Vn.out 1
  have pcn2 : w2.cell? ⟨w.heap.size, 2, none⟩ = some (.slice none 0 0) := (blk_cell Vn.out 2).trans rfl
  have pfn2 : w2.frozen? ⟨w.heap.size, 2, none⟩ = false := blk_frozen Vn.out 2
  obtain ⟨w3, hw3⟩ : ∃ W, (((w2.setCell ⟨w.heap.size, 0, none⟩ (.int .u32 0)).setCell ⟨w.heap.size, 1, none⟩ (.int .u32 4294967295)).setCell ⟨w.heap.size, 2, none⟩ (.slice B1 m1 d1)) = W := ⟨_, rfl⟩
  replace Ra := Lib.hid (hw3 ▸ (((Ra.out.set (o := 0) (u := .int .u32 0) Vn.out (by decide) gen).set (o := 1) (u := .int .u32 4294967295) (blk_set (j := 0) Vn.out (.int .u32 0)) (by decide) gen).set (o := 2) (u := .slice B1 m1 d1) (blk_set (j := 1) (blk_set (j := 0) Vn.out (.int .u32 0)) (.int .u32 4294967295)) (by decide) gen))
  have Vn2 := (blk_set (j := 2) (blk_set (j := 1) (blk_set (j := 0) Vn.out (.int .u32 0)) (.int .u32 4294967295)) (.slice B1 m1 d1))
  replace Vn := Lib.hid (show w3.heap[w.heap.size]? = some (.cells #[.int .u32 0, .int .u32 4294967295, .slice B1 m1 d1] 25) from hw3 ▸ Vn2)
  clear Vn2
  have hbb : Below _ _ w3 := hw3 ▸ (Below.setCell (Below.setCell (Below.setCell HB.out.1 (p := ⟨w.heap.size, 0, none⟩) (show _ ≤ w.heap.size from gen) (.int .u32 0)) (p := ⟨w.heap.size, 1, none⟩) (show _ ≤ w.heap.size from gen) (.int .u32 4294967295)) (p := ⟨w.heap.size, 2, none⟩) (show _ ≤ w.heap.size from gen) (.slice B1 m1 d1))
  have hbs : w3.heap.size = w2.heap.size := by rw [← hw3]; simp [World.setCell]
  replace HB := Lib.hid (And.intro hbb (show _ ≤ w3.heap.size by rw [hbs]; exact HB.out.2))
  clear hbb hbs
  have cn0 : w3.cell? ⟨w.heap.size, 0, none⟩ = some (.int .u32 0) := (blk_cell Vn.out 0).trans rfl
  have cn1 : w3.cell? ⟨w.heap.size, 1, none⟩ = some (.int .u32 4294967295) := (blk_cell Vn.out 1).trans rfl
  have cn2 : w3.cell? ⟨w.heap.size, 2, none⟩ = some (.slice B1 m1 d1) := (blk_cell Vn.out 2).trans rfl
  go_wp2_with fail
  refine (c2.out _ _ _ _ Ra.out).mono ?_
  rintro e w4 ⟨B2, m2, d2, rfl, hrs, hb⟩
  clear pcn0 pfn0 pcn1 pfn1 pcn2 pfn2 cn0 cn1 cn2
  replace Vn := Lib.hid (blk_below Vn.out hb (blk_lt Vn.out))
  replace Ra := Lib.hid (Ro.below Ra.out hb)
  replace HB := Lib.hid (And.intro (HB.out.1.trans (hb.mono HB.out.2)) (Nat.le_trans HB.out.2 hb.size))
  have Rb := Lib.hid hrs
  clear hrs
  clear hb
  clear Ra
  have pcn0 : w4.cell? ⟨w.heap.size, 0, none⟩ = some (.int .u32 0) := (blk_cell Vn.out 0).trans rfl
  have pfn0 : w4.frozen? ⟨w.heap.size, 0, none⟩ = false := blk_frozen Vn.out 0
  have pcn1 : w4.cell? ⟨w.heap.size, 1, none⟩ = some (.int .u32 4294967295) := (blk_cell Vn.out 1).trans rfl
  have pfn1 : w4.frozen? ⟨w.heap.size, 1, none⟩ = false := blk_frozen Vn.out 1
  have pcn2 : w4.cell? ⟨w.heap.size, 2, none⟩ = some (.slice B1 m1 d1) := (blk_cell Vn.out 2).trans rfl
  have pfn2 : w4.frozen? ⟨w.heap.size, 2, none⟩ = false := blk_frozen Vn.out 2
  obtain ⟨w5, hw5⟩ : ∃ W, (((w4.setCell ⟨w.heap.size, 0, none⟩ (.int .u32 1)).setCell ⟨w.heap.size, 1, none⟩ (.int .u32 4294967295)).setCell ⟨w.heap.size, 2, none⟩ (.slice B2 m2 d2)) = W := ⟨_, rfl⟩
  replace Rb := Lib.hid (hw5 ▸ (((Rb.out.set (o := 0) (u := .int .u32 1) Vn.out (by decide) gen).set (o := 1) (u := .int .u32 4294967295) (blk_set (j := 0) Vn.out (.int .u32 1)) (by decide) gen).set (o := 2) (u := .slice B2 m2 d2) (blk_set (j := 1) (blk_set (j := 0) Vn.out (.int .u32 1)) (.int .u32 4294967295)) (by decide) gen))
  have Vn2 := (blk_set (j := 2) (blk_set (j := 1) (blk_set (j := 0) Vn.out (.int .u32 1)) (.int .u32 4294967295)) (.slice B2 m2 d2))
  replace Vn := Lib.hid (show w5.heap[w.heap.size]? = some (.cells #[.int .u32 1, .int .u32 4294967295, .slice B2 m2 d2] 25) from hw5 ▸ Vn2)
  clear Vn2
  have hbb : Below _ _ w5 := hw5 ▸ (Below.setCell (Below.setCell (Below.setCell HB.out.1 (p := ⟨w.heap.size, 0, none⟩) (show _ ≤ w.heap.size from gen) (.int .u32 1)) (p := ⟨w.heap.size, 1, none⟩) (show _ ≤ w.heap.size from gen) (.int .u32 4294967295)) (p := ⟨w.heap.size, 2, none⟩) (show _ ≤ w.heap.size from gen) (.slice B2 m2 d2))
  have hbs : w5.heap.size = w4.heap.size := by rw [← hw5]; simp [World.setCell]
  replace HB := Lib.hid (And.intro hbb (show _ ≤ w5.heap.size by rw [hbs]; exact HB.out.2))
  clear hbb hbs
  have cn0 : w5.cell? ⟨w.heap.size, 0, none⟩ = some (.int .u32 1) := (blk_cell Vn.out 0).trans rfl
  have cn1 : w5.cell? ⟨w.heap.size, 1, none⟩ = some (.int .u32 4294967295) := (blk_cell Vn.out 1).trans rfl
  have cn2 : w5.cell? ⟨w.heap.size, 2, none⟩ = some (.slice B2 m2 d2) := (blk_cell Vn.out 2).trans rfl
  go_wp2_with fail
  refine (c3.out _ _ _ _ Rb.out).mono ?_
  rintro e w6 ⟨B3, m3, d3, rfl, hrs, hb⟩
  clear pcn0 pfn0 pcn1 pfn1 pcn2 pfn2 cn0 cn1 cn2
  replace Vn := Lib.hid (blk_below Vn.out hb (blk_lt Vn.out))
  replace Rb := Lib.hid (Ro.below Rb.out hb)
  replace HB := Lib.hid (And.intro (HB.out.1.trans (hb.mono HB.out.2)) (Nat.le_trans HB.out.2 hb.size))
  have Rm := Lib.hid hrs
  clear hrs
  clear hb
  have ltn := blk_lt Vn.out
  have gq := HB.out.2
  obtain ⟨w7, hw7⟩ : ∃ W, (w6.alloc (.cells #[.int .u32 1, .int .u32 4294967295, .slice B3 m3 d3] 25)) = W := ⟨_, rfl⟩
  have hb : Below w6.heap.size w6 w7 := hw7 ▸ ((Below.refl _ _).alloc (Nat.le_refl _) _)
  have hv0 : w7.heap[w6.heap.size]? = some (.cells #[.int .u32 1, .int .u32 4294967295, .slice B3 m3 d3] 25) := by
    have h0 := heap_alloc_new w6 (.cells #[.int .u32 1, .int .u32 4294967295, .slice B3 m3 d3] 25)
    rw [show w6.heap.size = w6.heap.size by simp [Nat.add_assoc]] at h0
    rw [← hw7]
    exact h0
  replace Vn := Lib.hid (blk_below Vn.out hb (blk_lt Vn.out))
  replace Rb := Lib.hid (Ro.below Rb.out hb)
  replace Rm := Lib.hid (Ro.below Rm.out hb)
  replace HB := Lib.hid (And.intro (HB.out.1.trans (hb.mono HB.out.2)) (Nat.le_trans HB.out.2 hb.size))
  have Vm := Lib.hid hv0
  have nen_m := Nat.ne_of_lt ltn
  have gem := gq
  generalize hsm : w6.heap.size = sm at *
  clear hb gq hv0 ltn
  have cm0 : w7.cell? ⟨sm, 0, none⟩ = some (.int .u32 1) := (blk_cell Vm.out 0).trans rfl
  have cm1 : w7.cell? ⟨sm, 1, none⟩ = some (.int .u32 4294967295) := (blk_cell Vm.out 1).trans rfl
  have cm2 : w7.cell? ⟨sm, 2, none⟩ = some (.slice B3 m3 d3) := (blk_cell Vm.out 2).trans rfl
  go_wp2_with fail
  refine (c4.out _ _ _ _ Rm.out).mono ?_
  rintro e w8 ⟨B4, m4, d4, rfl, hrs, hb⟩
  clear cm0 cm1 cm2
  replace Vn := Lib.hid (blk_below Vn.out hb (blk_lt Vn.out))
  replace Vm := Lib.hid (blk_below Vm.out hb (blk_lt Vm.out))
  replace Rb := Lib.hid (Ro.below Rb.out hb)
  replace Rm := Lib.hid (Ro.below Rm.out hb)
  replace HB := Lib.hid (And.intro (HB.out.1.trans (hb.mono HB.out.2)) (Nat.le_trans HB.out.2 hb.size))
  have Rp := Lib.hid hrs
  clear hrs
  clear hb
  have ltn := blk_lt Vn.out
  have ltm := blk_lt Vm.out
  have gq := HB.out.2
  obtain ⟨w9, hw9⟩ : ∃ W, (w8.alloc (.cells #[.int .u32 1, .int .u32 0, .slice B4 m4 d4] 25)) = W := ⟨_, rfl⟩
  have hb : Below w8.heap.size w8 w9 := hw9 ▸ ((Below.refl _ _).alloc (Nat.le_refl _) _)
  have hv0 : w9.heap[w8.heap.size]? = some (.cells #[.int .u32 1, .int .u32 0, .slice B4 m4 d4] 25) := by
    have h0 := heap_alloc_new w8 (.cells #[.int .u32 1, .int .u32 0, .slice B4 m4 d4] 25)
    rw [show w8.heap.size = w8.heap.size by simp [Nat.add_assoc]] at h0
    rw [← hw9]
    exact h0
  replace Vn := Lib.hid (blk_below Vn.out hb (blk_lt Vn.out))
  replace Vm := Lib.hid (blk_below Vm.out hb (blk_lt Vm.out))
  replace Rb := Lib.hid (Ro.below Rb.out hb)
  replace Rm := Lib.hid (Ro.below Rm.out hb)
  replace Rp := Lib.hid (Ro.below Rp.out hb)
  replace HB := Lib.hid (And.intro (HB.out.1.trans (hb.mono HB.out.2)) (Nat.le_trans HB.out.2 hb.size))
  have Vp := Lib.hid hv0
  have nen_p := Nat.ne_of_lt ltn
  have nem_p := Nat.ne_of_lt ltm
  have gep := gq
  generalize hsp : w8.heap.size = sp at *
  clear hb gq hv0 ltn ltm
  have cp0 : w9.cell? ⟨sp, 0, none⟩ = some (.int .u32 1) := (blk_cell Vp.out 0).trans rfl
  have cp1 : w9.cell? ⟨sp, 1, none⟩ = some (.int .u32 0) := (blk_cell Vp.out 1).trans rfl
  have cp2 : w9.cell? ⟨sp, 2, none⟩ = some (.slice B4 m4 d4) := (blk_cell Vp.out 2).trans rfl
  go_wp2_with fail
  refine (c5.out _ _ _ _ Rp.out).mono ?_
  rintro e w10 ⟨B5, m5, d5, rfl, hrs, hb⟩
  clear cp0 cp1 cp2
  replace Vn := Lib.hid (blk_below Vn.out hb (blk_lt Vn.out))
  replace Vm := Lib.hid (blk_below Vm.out hb (blk_lt Vm.out))
  replace Vp := Lib.hid (blk_below Vp.out hb (blk_lt Vp.out))
  replace Rb := Lib.hid (Ro.below Rb.out hb)
  replace Rm := Lib.hid (Ro.below Rm.out hb)
  replace Rp := Lib.hid (Ro.below Rp.out hb)
  replace HB := Lib.hid (And.intro (HB.out.1.trans (hb.mono HB.out.2)) (Nat.le_trans HB.out.2 hb.size))
  have Rq := Lib.hid hrs
  clear hrs
  clear hb
  have ltn := blk_lt Vn.out
  have ltm := blk_lt Vm.out
  have ltp := blk_lt Vp.out
  have gq := HB.out.2
  obtain ⟨w11, hw11⟩ : ∃ W, (w10.alloc (.cells #[.int .u32 1, .int .u32 1, .slice B5 m5 d5] 25)) = W := ⟨_, rfl⟩
  have hb : Below w10.heap.size w10 w11 := hw11 ▸ ((Below.refl _ _).alloc (Nat.le_refl _) _)
  have hv0 : w11.heap[w10.heap.size]? = some (.cells #[.int .u32 1, .int .u32 1, .slice B5 m5 d5] 25) := by
    have h0 := heap_alloc_new w10 (.cells #[.int .u32 1, .int .u32 1, .slice B5 m5 d5] 25)
    rw [show w10.heap.size = w10.heap.size by simp [Nat.add_assoc]] at h0
    rw [← hw11]
    exact h0
  replace Vn := Lib.hid (blk_below Vn.out hb (blk_lt Vn.out))
  replace Vm := Lib.hid (blk_below Vm.out hb (blk_lt Vm.out))
  replace Vp := Lib.hid (blk_below Vp.out hb (blk_lt Vp.out))
  replace Rb := Lib.hid (Ro.below Rb.out hb)
  replace Rm := Lib.hid (Ro.below Rm.out hb)
  replace Rp := Lib.hid (Ro.below Rp.out hb)
  replace Rq := Lib.hid (Ro.below Rq.out hb)
  replace HB := Lib.hid (And.intro (HB.out.1.trans (hb.mono HB.out.2)) (Nat.le_trans HB.out.2 hb.size))
  have Vq := Lib.hid hv0
  have nen_q := Nat.ne_of_lt ltn
  have nem_q := Nat.ne_of_lt ltm
  have nep_q := Nat.ne_of_lt ltp
  have geq := gq
  generalize hsq : w10.heap.size = sq at *
  clear hb gq hv0 ltn ltm ltp
  have cq0 : w11.cell? ⟨sq, 0, none⟩ = some (.int .u32 1) := (blk_cell Vq.out 0).trans rfl
  have cq1 : w11.cell? ⟨sq, 1, none⟩ = some (.int .u32 1) := (blk_cell Vq.out 1).trans rfl
  have cq2 : w11.cell? ⟨sq, 2, none⟩ = some (.slice B5 m5 d5) := (blk_cell Vq.out 2).trans rfl
  go_wp2_with fail
  refine (c6.out _ _ _ _ Rq.out).mono ?_
  rintro e w12 ⟨B6, m6, d6, rfl, hrs, hb⟩
  clear cq0 cq1 cq2
  replace Vn := Lib.hid (blk_below Vn.out hb (blk_lt Vn.out))
  replace Vm := Lib.hid (blk_below Vm.out hb (blk_lt Vm.out))
  replace Vp := Lib.hid (blk_below Vp.out hb (blk_lt Vp.out))
  replace Vq := Lib.hid (blk_below Vq.out hb (blk_lt Vq.out))
  replace Rb := Lib.hid (Ro.below Rb.out hb)
  replace Rm := Lib.hid (Ro.below Rm.out hb)
  replace Rp := Lib.hid (Ro.below Rp.out hb)
  replace Rq := Lib.hid (Ro.below Rq.out hb)
  replace HB := Lib.hid (And.intro (HB.out.1.trans (hb.mono HB.out.2)) (Nat.le_trans HB.out.2 hb.size))
  have Rx := Lib.hid hrs
  clear hrs
  clear hb
  have ltn := blk_lt Vn.out
  have ltm := blk_lt Vm.out
  have ltp := blk_lt Vp.out
  have ltq := blk_lt Vq.out
  have gq := HB.out.2
  obtain ⟨w13, hw13⟩ : ∃ W, (w12.alloc (.cells #[.int .u32 1, .int .u32 1, .slice B6 m6 d6] 25)) = W := ⟨_, rfl⟩
  have hb : Below w12.heap.size w12 w13 := hw13 ▸ ((Below.refl _ _).alloc (Nat.le_refl _) _)
  have hv0 : w13.heap[w12.heap.size]? = some (.cells #[.int .u32 1, .int .u32 1, .slice B6 m6 d6] 25) := by
    have h0 := heap_alloc_new w12 (.cells #[.int .u32 1, .int .u32 1, .slice B6 m6 d6] 25)
    rw [show w12.heap.size = w12.heap.size by simp [Nat.add_assoc]] at h0
    rw [← hw13]
    exact h0
  replace Vn := Lib.hid (blk_below Vn.out hb (blk_lt Vn.out))
  replace Vm := Lib.hid (blk_below Vm.out hb (blk_lt Vm.out))
  replace Vp := Lib.hid (blk_below Vp.out hb (blk_lt Vp.out))
  replace Vq := Lib.hid (blk_below Vq.out hb (blk_lt Vq.out))
  replace Rb := Lib.hid (Ro.below Rb.out hb)
  replace Rm := Lib.hid (Ro.below Rm.out hb)
  replace Rp := Lib.hid (Ro.below Rp.out hb)
  replace Rq := Lib.hid (Ro.below Rq.out hb)
  replace Rx := Lib.hid (Ro.below Rx.out hb)
  replace HB := Lib.hid (And.intro (HB.out.1.trans (hb.mono HB.out.2)) (Nat.le_trans HB.out.2 hb.size))
  have Vx := Lib.hid hv0
  have nen_x := Nat.ne_of_lt ltn
  have nem_x := Nat.ne_of_lt ltm
  have nep_x := Nat.ne_of_lt ltp
  have neq_x := Nat.ne_of_lt ltq
  have gex := gq
  generalize hsx : w12.heap.size = sx at *
  clear hb gq hv0 ltn ltm ltp ltq
  have cp0 : w13.cell? ⟨sp, 0, none⟩ = some (.int .u32 1) := (blk_cell Vp.out 0).trans rfl
  have cp1 : w13.cell? ⟨sp, 1, none⟩ = some (.int .u32 0) := (blk_cell Vp.out 1).trans rfl
  have cp2 : w13.cell? ⟨sp, 2, none⟩ = some (.slice B4 m4 d4) := (blk_cell Vp.out 2).trans rfl
  go_wp2_with fail
  refine (c7.out _ _ _ _ Rp.out).mono ?_
  rintro e w14 ⟨B7, m7, d7, rfl, hrs, hb⟩
  clear cp0 cp1 cp2
  replace Vn := Lib.hid (blk_below Vn.out hb (blk_lt Vn.out))
  replace Vm := Lib.hid (blk_below Vm.out hb (blk_lt Vm.out))
  replace Vp := Lib.hid (blk_below Vp.out hb (blk_lt Vp.out))
  replace Vq := Lib.hid (blk_below Vq.out hb (blk_lt Vq.out))
  replace Vx := Lib.hid (blk_below Vx.out hb (blk_lt Vx.out))
  replace Rb := Lib.hid (Ro.below Rb.out hb)
  replace Rm := Lib.hid (Ro.below Rm.out hb)
  replace Rp := Lib.hid (Ro.below Rp.out hb)
  replace Rq := Lib.hid (Ro.below Rq.out hb)
  replace Rx := Lib.hid (Ro.below Rx.out hb)
  replace HB := Lib.hid (And.intro (HB.out.1.trans (hb.mono HB.out.2)) (Nat.le_trans HB.out.2 hb.size))
  have Ry := Lib.hid hrs
  clear hrs
  clear hb
  have ltn := blk_lt Vn.out
  have ltm := blk_lt Vm.out
  have ltp := blk_lt Vp.out
  have ltq := blk_lt Vq.out
  have ltx := blk_lt Vx.out
  have gq := HB.out.2
  obtain ⟨w15, hw15⟩ : ∃ W, (w14.alloc (.cells #[.int .u32 1, .int .u32 0, .slice B7 m7 d7] 25)) = W := ⟨_, rfl⟩
  have hb : Below w14.heap.size w14 w15 := hw15 ▸ ((Below.refl _ _).alloc (Nat.le_refl _) _)
  have hv0 : w15.heap[w14.heap.size]? = some (.cells #[.int .u32 1, .int .u32 0, .slice B7 m7 d7] 25) := by
    have h0 := heap_alloc_new w14 (.cells #[.int .u32 1, .int .u32 0, .slice B7 m7 d7] 25)
    rw [show w14.heap.size = w14.heap.size by simp [Nat.add_assoc]] at h0
    rw [← hw15]
    exact h0
  replace Vn := Lib.hid (blk_below Vn.out hb (blk_lt Vn.out))
  replace Vm := Lib.hid (blk_below Vm.out hb (blk_lt Vm.out))
  replace Vp := Lib.hid (blk_below Vp.out hb (blk_lt Vp.out))
  replace Vq := Lib.hid (blk_below Vq.out hb (blk_lt Vq.out))
  replace Vx := Lib.hid (blk_below Vx.out hb (blk_lt Vx.out))
  replace Rb := Lib.hid (Ro.below Rb.out hb)
  replace Rm := Lib.hid (Ro.below Rm.out hb)
  replace Rp := Lib.hid (Ro.below Rp.out hb)
  replace Rq := Lib.hid (Ro.below Rq.out hb)
  replace Rx := Lib.hid (Ro.below Rx.out hb)
  replace Ry := Lib.hid (Ro.below Ry.out hb)
  replace HB := Lib.hid (And.intro (HB.out.1.trans (hb.mono HB.out.2)) (Nat.le_trans HB.out.2 hb.size))
  have Vy := Lib.hid hv0
  have nen_y := Nat.ne_of_lt ltn
  have nem_y := Nat.ne_of_lt ltm
  have nep_y := Nat.ne_of_lt ltp
  have neq_y := Nat.ne_of_lt ltq
  have nex_y := Nat.ne_of_lt ltx
  have gey := gq
  generalize hsy : w14.heap.size = sy at *
  clear hb gq hv0 ltn ltm ltp ltq ltx
  have cm0 : w15.cell? ⟨sm, 0, none⟩ = some (.int .u32 1) := (blk_cell Vm.out 0).trans rfl
  have cm1 : w15.cell? ⟨sm, 1, none⟩ = some (.int .u32 4294967295) := (blk_cell Vm.out 1).trans rfl
  have cm2 : w15.cell? ⟨sm, 2, none⟩ = some (.slice B3 m3 d3) := (blk_cell Vm.out 2).trans rfl
  go_wp2_with fail
  refine (c8.out _ _ _ _ Rm.out).mono ?_
  rintro e w16 ⟨B8, m8, d8, C8, k8, f8, rfl, hrs, his, hb⟩
  clear cm0 cm1 cm2
  replace Vn := Lib.hid (blk_below Vn.out hb (blk_lt Vn.out))
  replace Vm := Lib.hid (blk_below Vm.out hb (blk_lt Vm.out))
  replace Vp := Lib.hid (blk_below Vp.out hb (blk_lt Vp.out))
  replace Vq := Lib.hid (blk_below Vq.out hb (blk_lt Vq.out))
  replace Vx := Lib.hid (blk_below Vx.out hb (blk_lt Vx.out))
  replace Vy := Lib.hid (blk_below Vy.out hb (blk_lt Vy.out))
  replace Rb := Lib.hid (Ro.below Rb.out hb)
  replace Rm := Lib.hid (Ro.below Rm.out hb)
  replace Rp := Lib.hid (Ro.below Rp.out hb)
  replace Rq := Lib.hid (Ro.below Rq.out hb)
  replace Rx := Lib.hid (Ro.below Rx.out hb)
  replace Ry := Lib.hid (Ro.below Ry.out hb)
  replace HB := Lib.hid (And.intro (HB.out.1.trans (hb.mono HB.out.2)) (Nat.le_trans HB.out.2 hb.size))
  have Rr := Lib.hid hrs
  clear hrs
  clear hb
  have I1 := Lib.hid his
  clear his
  have hm8 : m8 = 0 := by have := Rr.out.es.len; rw [wtC_len] at this; simp at this; omega
  subst hm8
  have ltn := blk_lt Vn.out
  have ltm := blk_lt Vm.out
  have ltp := blk_lt Vp.out
  have ltq := blk_lt Vq.out
  have ltx := blk_lt Vx.out
  have lty := blk_lt Vy.out
  have gq := HB.out.2
  obtain ⟨w17, hw17⟩ : ∃ W, (w16.alloc (.cells #[.int .u32 1, .int .u32 1, .slice B8 0 d8] 25)) = W := ⟨_, rfl⟩
  have hb : Below w16.heap.size w16 w17 := hw17 ▸ ((Below.refl _ _).alloc (Nat.le_refl _) _)
  have hv0 : w17.heap[w16.heap.size]? = some (.cells #[.int .u32 1, .int .u32 1, .slice B8 0 d8] 25) := by
    have h0 := heap_alloc_new w16 (.cells #[.int .u32 1, .int .u32 1, .slice B8 0 d8] 25)
    rw [show w16.heap.size = w16.heap.size by simp [Nat.add_assoc]] at h0
    rw [← hw17]
    exact h0
  replace Vn := Lib.hid (blk_below Vn.out hb (blk_lt Vn.out))
  replace Vm := Lib.hid (blk_below Vm.out hb (blk_lt Vm.out))
  replace Vp := Lib.hid (blk_below Vp.out hb (blk_lt Vp.out))
  replace Vq := Lib.hid (blk_below Vq.out hb (blk_lt Vq.out))
  replace Vx := Lib.hid (blk_below Vx.out hb (blk_lt Vx.out))
  replace Vy := Lib.hid (blk_below Vy.out hb (blk_lt Vy.out))
  replace Rb := Lib.hid (Ro.below Rb.out hb)
  replace Rm := Lib.hid (Ro.below Rm.out hb)
  replace Rp := Lib.hid (Ro.below Rp.out hb)
  replace Rq := Lib.hid (Ro.below Rq.out hb)
  replace Rx := Lib.hid (Ro.below Rx.out hb)
  replace Ry := Lib.hid (Ro.below Ry.out hb)
  replace Rr := Lib.hid (Ro.below Rr.out hb)
  replace I1 := Lib.hid (Es.below I1.out hb)
  replace HB := Lib.hid (And.intro (HB.out.1.trans (hb.mono HB.out.2)) (Nat.le_trans HB.out.2 hb.size))
  have Vr := Lib.hid hv0
  have nen_r := Nat.ne_of_lt ltn
  have nem_r := Nat.ne_of_lt ltm
  have nep_r := Nat.ne_of_lt ltp
  have neq_r := Nat.ne_of_lt ltq
  have nex_r := Nat.ne_of_lt ltx
  have ney_r := Nat.ne_of_lt lty
  have ger := gq
  generalize hsr : w16.heap.size = sr at *
  clear hb gq hv0 ltn ltm ltp ltq ltx lty
  have cr0 : w17.cell? ⟨sr, 0, none⟩ = some (.int .u32 1) := (blk_cell Vr.out 0).trans rfl
  have cr1 : w17.cell? ⟨sr, 1, none⟩ = some (.int .u32 1) := (blk_cell Vr.out 1).trans rfl
  have cr2 : w17.cell? ⟨sr, 2, none⟩ = some (.slice B8 0 d8) := (blk_cell Vr.out 2).trans rfl
  have cp0 : w17.cell? ⟨sp, 0, none⟩ = some (.int .u32 1) := (blk_cell Vp.out 0).trans rfl
  have cp1 : w17.cell? ⟨sp, 1, none⟩ = some (.int .u32 0) := (blk_cell Vp.out 1).trans rfl
  have cp2 : w17.cell? ⟨sp, 2, none⟩ = some (.slice B4 m4 d4) := (blk_cell Vp.out 2).trans rfl
  have cm0 : w17.cell? ⟨sm, 0, none⟩ = some (.int .u32 1) := (blk_cell Vm.out 0).trans rfl
  have cm1 : w17.cell? ⟨sm, 1, none⟩ = some (.int .u32 4294967295) := (blk_cell Vm.out 1).trans rfl
  have cm2 : w17.cell? ⟨sm, 2, none⟩ = some (.slice B3 m3 d3) := (blk_cell Vm.out 2).trans rfl
  go_wp2_with fail
  have hz : Below _ _ _ := (Below.refl w17.heap.size w17).alloc (Nat.le_refl _) (.cells (intC [5]).toArray 3)
  have I2 := Lib.hid (is_lit11 w17 [5] rfl)
  clear cr0 cr1 cr2 cp0 cp1 cp2 cm0 cm1 cm2
  replace Vn := Lib.hid (blk_below Vn.out hz (blk_lt Vn.out))
  replace Vm := Lib.hid (blk_below Vm.out hz (blk_lt Vm.out))
  replace Vp := Lib.hid (blk_below Vp.out hz (blk_lt Vp.out))
  replace Vq := Lib.hid (blk_below Vq.out hz (blk_lt Vq.out))
  replace Vx := Lib.hid (blk_below Vx.out hz (blk_lt Vx.out))
  replace Vy := Lib.hid (blk_below Vy.out hz (blk_lt Vy.out))
  replace Vr := Lib.hid (blk_below Vr.out hz (blk_lt Vr.out))
  replace Rb := Lib.hid (Ro.below Rb.out hz)
  replace Rm := Lib.hid (Ro.below Rm.out hz)
  replace Rp := Lib.hid (Ro.below Rp.out hz)
  replace Rq := Lib.hid (Ro.below Rq.out hz)
  replace Rx := Lib.hid (Ro.below Rx.out hz)
  replace Ry := Lib.hid (Ro.below Ry.out hz)
  replace Rr := Lib.hid (Ro.below Rr.out hz)
  replace I1 := Lib.hid (Es.below I1.out hz)
  replace HB := Lib.hid (And.intro (HB.out.1.trans (hz.mono HB.out.2)) (Nat.le_trans HB.out.2 hz.size))
  clear hz
  skip
  refine (c13.out _ _ _ _ _ _ _ _ I1.out I2.out (by simp)).mono ?_
  rintro e w18 ⟨rfl, hb⟩
  replace Vn := Lib.hid (blk_below Vn.out hb (blk_lt Vn.out))
  replace Vm := Lib.hid (blk_below Vm.out hb (blk_lt Vm.out))
  replace Vp := Lib.hid (blk_below Vp.out hb (blk_lt Vp.out))
  replace Vq := Lib.hid (blk_below Vq.out hb (blk_lt Vq.out))
  replace Vx := Lib.hid (blk_below Vx.out hb (blk_lt Vx.out))
  replace Vy := Lib.hid (blk_below Vy.out hb (blk_lt Vy.out))
  replace Vr := Lib.hid (blk_below Vr.out hb (blk_lt Vr.out))
  replace Rb := Lib.hid (Ro.below Rb.out hb)
  replace Rm := Lib.hid (Ro.below Rm.out hb)
  replace Rp := Lib.hid (Ro.below Rp.out hb)
  replace Rq := Lib.hid (Ro.below Rq.out hb)
  replace Rx := Lib.hid (Ro.below Rx.out hb)
  replace Ry := Lib.hid (Ro.below Ry.out hb)
  replace Rr := Lib.hid (Ro.below Rr.out hb)
  replace I1 := Lib.hid (Es.below I1.out hb)
  replace HB := Lib.hid (And.intro (HB.out.1.trans (hb.mono HB.out.2)) (Nat.le_trans HB.out.2 hb.size))
  clear hb
  clear I1 I2
  have cp0 : w18.cell? ⟨sp, 0, none⟩ = some (.int .u32 1) := (blk_cell Vp.out 0).trans rfl
  have cp1 : w18.cell? ⟨sp, 1, none⟩ = some (.int .u32 0) := (blk_cell Vp.out 1).trans rfl
  have cp2 : w18.cell? ⟨sp, 2, none⟩ = some (.slice B4 m4 d4) := (blk_cell Vp.out 2).trans rfl
  go_wp2_with fail
  refine (c9.out _ _ _ _ Rp.out).mono ?_
  rintro e w19 ⟨rfl, hb⟩
  clear cp0 cp1 cp2
  replace Vn := Lib.hid (blk_below Vn.out hb (blk_lt Vn.out))
  replace Vm := Lib.hid (blk_below Vm.out hb (blk_lt Vm.out))
  replace Vp := Lib.hid (blk_below Vp.out hb (blk_lt Vp.out))
  replace Vq := Lib.hid (blk_below Vq.out hb (blk_lt Vq.out))
  replace Vx := Lib.hid (blk_below Vx.out hb (blk_lt Vx.out))
  replace Vy := Lib.hid (blk_below Vy.out hb (blk_lt Vy.out))
  replace Vr := Lib.hid (blk_below Vr.out hb (blk_lt Vr.out))
  replace Rb := Lib.hid (Ro.below Rb.out hb)
  replace Rm := Lib.hid (Ro.below Rm.out hb)
  replace Rp := Lib.hid (Ro.below Rp.out hb)
  replace Rq := Lib.hid (Ro.below Rq.out hb)
  replace Rx := Lib.hid (Ro.below Rx.out hb)
  replace Ry := Lib.hid (Ro.below Ry.out hb)
  replace Rr := Lib.hid (Ro.below Rr.out hb)
  replace HB := Lib.hid (And.intro (HB.out.1.trans (hb.mono HB.out.2)) (Nat.le_trans HB.out.2 hb.size))
  clear hb
  have cp0 : w19.cell? ⟨sp, 0, none⟩ = some (.int .u32 1) := (blk_cell Vp.out 0).trans rfl
  have cp1 : w19.cell? ⟨sp, 1, none⟩ = some (.int .u32 0) := (blk_cell Vp.out 1).trans rfl
  have cp2 : w19.cell? ⟨sp, 2, none⟩ = some (.slice B4 m4 d4) := (blk_cell Vp.out 2).trans rfl
  go_wp2_with fail
  refine (c10.out _ _ _ _ Rp.out).mono ?_
  rintro e w20 ⟨rfl, hb⟩
  clear cp0 cp1 cp2
  replace Vn := Lib.hid (blk_below Vn.out hb (blk_lt Vn.out))
  replace Vm := Lib.hid (blk_below Vm.out hb (blk_lt Vm.out))
  replace Vp := Lib.hid (blk_below Vp.out hb (blk_lt Vp.out))
  replace Vq := Lib.hid (blk_below Vq.out hb (blk_lt Vq.out))
  replace Vx := Lib.hid (blk_below Vx.out hb (blk_lt Vx.out))
  replace Vy := Lib.hid (blk_below Vy.out hb (blk_lt Vy.out))
  replace Vr := Lib.hid (blk_below Vr.out hb (blk_lt Vr.out))
  replace Rb := Lib.hid (Ro.below Rb.out hb)
  replace Rm := Lib.hid (Ro.below Rm.out hb)
  replace Rp := Lib.hid (Ro.below Rp.out hb)
  replace Rq := Lib.hid (Ro.below Rq.out hb)
  replace Rx := Lib.hid (Ro.below Rx.out hb)
  replace Ry := Lib.hid (Ro.below Ry.out hb)
  replace Rr := Lib.hid (Ro.below Rr.out hb)
  replace HB := Lib.hid (And.intro (HB.out.1.trans (hb.mono HB.out.2)) (Nat.le_trans HB.out.2 hb.size))
  clear hb
  have cr0 : w20.cell? ⟨sr, 0, none⟩ = some (.int .u32 1) := (blk_cell Vr.out 0).trans rfl
  have cr1 : w20.cell? ⟨sr, 1, none⟩ = some (.int .u32 1) := (blk_cell Vr.out 1).trans rfl
  have cr2 : w20.cell? ⟨sr, 2, none⟩ = some (.slice B8 0 d8) := (blk_cell Vr.out 2).trans rfl
  have cm0 : w20.cell? ⟨sm, 0, none⟩ = some (.int .u32 1) := (blk_cell Vm.out 0).trans rfl
  have cm1 : w20.cell? ⟨sm, 1, none⟩ = some (.int .u32 4294967295) := (blk_cell Vm.out 1).trans rfl
  have cm2 : w20.cell? ⟨sm, 2, none⟩ = some (.slice B3 m3 d3) := (blk_cell Vm.out 2).trans rfl
  go_wp2_with fail
  refine (c11.out _ _ _ _ Rm.out).mono ?_
  rintro e w21 ⟨rfl, hb⟩
  clear cr0 cr1 cr2 cm0 cm1 cm2
  replace Vn := Lib.hid (blk_below Vn.out hb (blk_lt Vn.out))
  replace Vm := Lib.hid (blk_below Vm.out hb (blk_lt Vm.out))
  replace Vp := Lib.hid (blk_below Vp.out hb (blk_lt Vp.out))
  replace Vq := Lib.hid (blk_below Vq.out hb (blk_lt Vq.out))
  replace Vx := Lib.hid (blk_below Vx.out hb (blk_lt Vx.out))
  replace Vy := Lib.hid (blk_below Vy.out hb (blk_lt Vy.out))
  replace Vr := Lib.hid (blk_below Vr.out hb (blk_lt Vr.out))
  replace Rb := Lib.hid (Ro.below Rb.out hb)
  replace Rm := Lib.hid (Ro.below Rm.out hb)
  replace Rp := Lib.hid (Ro.below Rp.out hb)
  replace Rq := Lib.hid (Ro.below Rq.out hb)
  replace Rx := Lib.hid (Ro.below Rx.out hb)
  replace Ry := Lib.hid (Ro.below Ry.out hb)
  replace Rr := Lib.hid (Ro.below Rr.out hb)
  replace HB := Lib.hid (And.intro (HB.out.1.trans (hb.mono HB.out.2)) (Nat.le_trans HB.out.2 hb.size))
  clear hb
  go_wp2_with fail
  refine (c12.out _).mono ?_
  rintro e w22 ⟨rfl, hb⟩
  replace Vn := Lib.hid (blk_below Vn.out hb (blk_lt Vn.out))
  replace Vm := Lib.hid (blk_below Vm.out hb (blk_lt Vm.out))
  replace Vp := Lib.hid (blk_below Vp.out hb (blk_lt Vp.out))
  replace Vq := Lib.hid (blk_below Vq.out hb (blk_lt Vq.out))
  replace Vx := Lib.hid (blk_below Vx.out hb (blk_lt Vx.out))
  replace Vy := Lib.hid (blk_below Vy.out hb (blk_lt Vy.out))
  replace Vr := Lib.hid (blk_below Vr.out hb (blk_lt Vr.out))
  replace Rb := Lib.hid (Ro.below Rb.out hb)
  replace Rm := Lib.hid (Ro.below Rm.out hb)
  replace Rp := Lib.hid (Ro.below Rp.out hb)
  replace Rq := Lib.hid (Ro.below Rq.out hb)
  replace Rx := Lib.hid (Ro.below Rx.out hb)
  replace Ry := Lib.hid (Ro.below Ry.out hb)
  replace Rr := Lib.hid (Ro.below Rr.out hb)
  replace HB := Lib.hid (And.intro (HB.out.1.trans (hb.mono HB.out.2)) (Nat.le_trans HB.out.2 hb.size))
  clear hb
  go_wp2
  go_ret
  exact ⟨rfl, HB.out.1⟩
end Go.Proofs.Ytjpgmkbcjedhfaa
