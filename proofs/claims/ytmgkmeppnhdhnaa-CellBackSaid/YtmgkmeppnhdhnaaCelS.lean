/- The fixed fact 'alive' of layer 14 is true, and writes nothing that was there; no condition. -/
import Derived.Test.YtmgkmeppnhdhnaaCelO
namespace Go.Proofs.Ytmgkmeppnhdhnaa
set_option linter.unusedVariables false
set_option linter.unusedSimpArgs false
open Go.RowKit
theorem lit_w14 (W : World) (xs : List Nat) {m : Nat} (hm : m = xs.length) : Ws (W.alloc (.cells (U64s xs).toArray 23)) (some ⟨W.heap.size, 0, none⟩) m m xs := Es.new_ W _ (U64s xs) (U64s_one _) (by rw [U64s_len, hm, Nat.mul_one])
set_option maxRecDepth 100000 in
set_option maxHeartbeats 8000000 in
theorem alive14 (w : World) : Calls Try.prog 5 #[] w fun e w' => e = .returned (.bool true) ∧ Below w.heap.size w w' := by
  obtain ⟨z, hz⟩ : ∃ x : Nat, x = 0 := ⟨_, rfl⟩
  have c1 : ∀ (A : Option Addr) (c : Nat) (W : World), Ws W A 2 c [5, 7] → Calls Try.prog 6 #[.slice A 2 c, .int .i64 1] W (LdP W (7, true)) := fun A c W h => ceLoad_any A 2 c [5, 7] 1 W h (by omega) (by decide)
  have c2 : ∀ (A : Option Addr) (c : Nat) (W : World), Ws W A 2 c [5, 7] → Calls Try.prog 8 #[.slice A 2 c, .int .i64 0, .int .u64 9] W (StP W ([9, 7], true)) := fun A c W h => ceStore_any A 2 c [5, 7] 0 W h (by omega) (by decide) 9 (by decide)
  have c3 : ∀ (A : Option Addr) (c : Nat) (W : World), Ws W A 2 c [5, 7] → Calls Try.prog 10 #[.slice A 2 c, .int .i64 1, .int .u64 7, .int .u64 8] W (SwP W ([5, 8], true, true)) := fun A c W h => ceSwap_any A 2 c [5, 7] 1 W h (by omega) (by decide) 7 8 (by decide) (by decide)
  have c4 : ∀ (A : Option Addr) (c : Nat) (W : World), Ws W A 2 c [5, 7] → Calls Try.prog 10 #[.slice A 2 c, .int .i64 1, .int .u64 8, .int .u64 7] W (SwP W ([5, 7], false, true)) := fun A c W h => ceSwap_any A 2 c [5, 7] 1 W h (by omega) (by decide) 8 7 (by decide) (by decide)
  have c5 : ∀ (A : Option Addr) (c : Nat) (W : World), Ws W A 2 c [5, 7] → Calls Try.prog 12 #[.slice A 2 c, .int .i64 0, .int .u64 18446744073709551615] W (MoP W ([4, 7], 4, true)) := fun A c W h => ceMore_any A 2 c [5, 7] 0 W h (by omega) (by decide) 18446744073709551615 (by decide)
  have c6 : ∀ (A : Option Addr) (c : Nat) (W : World), Ws W A 2 c [5, 7] → Calls Try.prog 6 #[.slice A 2 c, .int .i64 2] W (LdP W (z, false)) := fun A c W h => hz ▸ ceLoad_any A 2 c [5, 7] 2 W h (by omega) (by decide)
  have c7 : ∀ (xs ys : List Nat) (A B : Option Addr) (c d : Nat) (W : World) (b : Bool), Ws W A 2 c xs → Ws W B 2 d ys → decide (xs = ys) = b → Calls Try.prog 14 #[.slice A 2 c, .slice B 2 d] W (YesW W b) := fun xs ys A B c d W b h1 h2 h3 => h3 ▸ refWords14_any A 2 c xs B 2 d ys W h1 h2 (by omega)
  have c8 : ∀ (ys : List Nat) (A B : Option Addr) (c d : Nat) (W : World) (b : Bool), Ws W A 2 c [5, 7] → Ws W B 2 d ys → decide ([5, 7] = ys) = b → Calls Try.prog 15 #[.slice A 2 c, .slice B 2 d] W (YesW W b) := fun ys A B c d W b h1 h2 h3 => h3 ▸ ceSame_any A 2 c [5, 7] W h1 (by omega) (by decide) B 2 d ys h2 (by omega)
  have HB := Lib.hid (And.intro (Below.refl w.heap.size w) (Nat.le_refl w.heap.size))
  clear hz
  replace c1 := Lib.hid c1
  replace c2 := Lib.hid c2
  replace c3 := Lib.hid c3
  replace c4 := Lib.hid c4
  replace c5 := Lib.hid c5
  replace c6 := Lib.hid c6
  replace c7 := Lib.hid c7
  replace c8 := Lib.hid c8
  go_enter Try.func5, Try.ntmps5
  go_wp2_with fail
  have hz : Below _ _ _ := (Below.refl w.heap.size w).alloc (Nat.le_refl _) (.cells (U64s [5, 7]).toArray 23)
  have LC := Lib.hid (lit_w14 w [5, 7] rfl)
  replace HB := Lib.hid (And.intro (HB.out.1.trans (hz.mono HB.out.2)) (Nat.le_trans HB.out.2 hz.size))
  clear hz
  skip
  refine (c1.out _ _ _ LC.out).mono ?_
  rintro e w1 ⟨rfl, hb⟩
  replace LC := Lib.hid (Es.below LC.out hb)
  replace HB := Lib.hid (And.intro (HB.out.1.trans (hb.mono HB.out.2)) (Nat.le_trans HB.out.2 hb.size))
  clear hb
  go_wp2_with fail
  refine (c2.out _ _ _ LC.out).mono ?_
  rintro e w2 ⟨B2, m2, d2, rfl, hw, hb⟩
  replace LC := Lib.hid (Es.below LC.out hb)
  replace HB := Lib.hid (And.intro (HB.out.1.trans (hb.mono HB.out.2)) (Nat.le_trans HB.out.2 hb.size))
  clear hb
  obtain rfl : m2 = 2 := by have h9 := Ws.len hw; simpa using h9.symm
  have H2 := Lib.hid hw
  clear hw
  go_wp2_with fail
  refine (c3.out _ _ _ LC.out).mono ?_
  rintro e w3 ⟨B3, m3, d3, rfl, hw, hb⟩
  replace LC := Lib.hid (Es.below LC.out hb)
  replace H2 := Lib.hid (Es.below H2.out hb)
  replace HB := Lib.hid (And.intro (HB.out.1.trans (hb.mono HB.out.2)) (Nat.le_trans HB.out.2 hb.size))
  clear hb
  obtain rfl : m3 = 2 := by have h9 := Ws.len hw; simpa using h9.symm
  have H3 := Lib.hid hw
  clear hw
  go_wp2_with fail
  refine (c4.out _ _ _ LC.out).mono ?_
  rintro e w4 ⟨B4, m4, d4, rfl, hw, hb⟩
  replace LC := Lib.hid (Es.below LC.out hb)
  replace H2 := Lib.hid (Es.below H2.out hb)
  replace H3 := Lib.hid (Es.below H3.out hb)
  replace HB := Lib.hid (And.intro (HB.out.1.trans (hb.mono HB.out.2)) (Nat.le_trans HB.out.2 hb.size))
  clear hb
  obtain rfl : m4 = 2 := by have h9 := Ws.len hw; simpa using h9.symm
  have H4 := Lib.hid hw
  clear hw
  go_wp2_with fail
  refine (c5.out _ _ _ LC.out).mono ?_
  rintro e w5 ⟨B5, m5, d5, rfl, hw, hb⟩
  replace LC := Lib.hid (Es.below LC.out hb)
  replace H2 := Lib.hid (Es.below H2.out hb)
  replace H3 := Lib.hid (Es.below H3.out hb)
  replace H4 := Lib.hid (Es.below H4.out hb)
  replace HB := Lib.hid (And.intro (HB.out.1.trans (hb.mono HB.out.2)) (Nat.le_trans HB.out.2 hb.size))
  clear hb
  obtain rfl : m5 = 2 := by have h9 := Ws.len hw; simpa using h9.symm
  have H5 := Lib.hid hw
  clear hw
  go_wp2_with fail
  refine (c6.out _ _ _ LC.out).mono ?_
  rintro e w6 ⟨rfl, hb⟩
  replace LC := Lib.hid (Es.below LC.out hb)
  replace H2 := Lib.hid (Es.below H2.out hb)
  replace H3 := Lib.hid (Es.below H3.out hb)
  replace H4 := Lib.hid (Es.below H4.out hb)
  replace H5 := Lib.hid (Es.below H5.out hb)
  replace HB := Lib.hid (And.intro (HB.out.1.trans (hb.mono HB.out.2)) (Nat.le_trans HB.out.2 hb.size))
  clear hb
  go_wp2_with fail
  have hz : Below _ _ _ := (Below.refl w6.heap.size w6).alloc (Nat.le_refl _) (.cells (U64s [9, 7]).toArray 23)
  have L2 := Lib.hid (lit_w14 w6 [9, 7] rfl)
  replace LC := Lib.hid (Es.below LC.out hz)
  replace H2 := Lib.hid (Es.below H2.out hz)
  replace H3 := Lib.hid (Es.below H3.out hz)
  replace H4 := Lib.hid (Es.below H4.out hz)
  replace H5 := Lib.hid (Es.below H5.out hz)
  replace HB := Lib.hid (And.intro (HB.out.1.trans (hz.mono HB.out.2)) (Nat.le_trans HB.out.2 hz.size))
  clear hz
  skip
  refine (c7.out _ _ _ _ _ _ _ true H2.out L2.out rfl).mono ?_
  rintro e w7 ⟨rfl, hb⟩
  replace LC := Lib.hid (Es.below LC.out hb)
  replace H2 := Lib.hid (Es.below H2.out hb)
  replace H3 := Lib.hid (Es.below H3.out hb)
  replace H4 := Lib.hid (Es.below H4.out hb)
  replace H5 := Lib.hid (Es.below H5.out hb)
  replace L2 := Lib.hid (Es.below L2.out hb)
  replace HB := Lib.hid (And.intro (HB.out.1.trans (hb.mono HB.out.2)) (Nat.le_trans HB.out.2 hb.size))
  clear hb
  go_wp2_with fail
  have hz : Below _ _ _ := (Below.refl w7.heap.size w7).alloc (Nat.le_refl _) (.cells (U64s [5, 8]).toArray 23)
  have L3 := Lib.hid (lit_w14 w7 [5, 8] rfl)
  replace LC := Lib.hid (Es.below LC.out hz)
  replace H2 := Lib.hid (Es.below H2.out hz)
  replace H3 := Lib.hid (Es.below H3.out hz)
  replace H4 := Lib.hid (Es.below H4.out hz)
  replace H5 := Lib.hid (Es.below H5.out hz)
  replace L2 := Lib.hid (Es.below L2.out hz)
  replace HB := Lib.hid (And.intro (HB.out.1.trans (hz.mono HB.out.2)) (Nat.le_trans HB.out.2 hz.size))
  clear hz
  skip
  refine (c7.out _ _ _ _ _ _ _ true H3.out L3.out rfl).mono ?_
  rintro e w8 ⟨rfl, hb⟩
  replace LC := Lib.hid (Es.below LC.out hb)
  replace H2 := Lib.hid (Es.below H2.out hb)
  replace H3 := Lib.hid (Es.below H3.out hb)
  replace H4 := Lib.hid (Es.below H4.out hb)
  replace H5 := Lib.hid (Es.below H5.out hb)
  replace L2 := Lib.hid (Es.below L2.out hb)
  replace L3 := Lib.hid (Es.below L3.out hb)
  replace HB := Lib.hid (And.intro (HB.out.1.trans (hb.mono HB.out.2)) (Nat.le_trans HB.out.2 hb.size))
  clear hb
  go_wp2_with fail
  have hz : Below _ _ _ := (Below.refl w8.heap.size w8).alloc (Nat.le_refl _) (.cells (U64s [4, 7]).toArray 23)
  have L5 := Lib.hid (lit_w14 w8 [4, 7] rfl)
  replace LC := Lib.hid (Es.below LC.out hz)
  replace H2 := Lib.hid (Es.below H2.out hz)
  replace H3 := Lib.hid (Es.below H3.out hz)
  replace H4 := Lib.hid (Es.below H4.out hz)
  replace H5 := Lib.hid (Es.below H5.out hz)
  replace L2 := Lib.hid (Es.below L2.out hz)
  replace L3 := Lib.hid (Es.below L3.out hz)
  replace HB := Lib.hid (And.intro (HB.out.1.trans (hz.mono HB.out.2)) (Nat.le_trans HB.out.2 hz.size))
  clear hz
  skip
  refine (c7.out _ _ _ _ _ _ _ true H5.out L5.out rfl).mono ?_
  rintro e w9 ⟨rfl, hb⟩
  replace LC := Lib.hid (Es.below LC.out hb)
  replace H2 := Lib.hid (Es.below H2.out hb)
  replace H3 := Lib.hid (Es.below H3.out hb)
  replace H4 := Lib.hid (Es.below H4.out hb)
  replace H5 := Lib.hid (Es.below H5.out hb)
  replace L2 := Lib.hid (Es.below L2.out hb)
  replace L3 := Lib.hid (Es.below L3.out hb)
  replace L5 := Lib.hid (Es.below L5.out hb)
  replace HB := Lib.hid (And.intro (HB.out.1.trans (hb.mono HB.out.2)) (Nat.le_trans HB.out.2 hb.size))
  clear hb
  go_wp2_with fail
  have hz : Below _ _ _ := (Below.refl w9.heap.size w9).alloc (Nat.le_refl _) (.cells (U64s [5, 7]).toArray 23)
  have L9 := Lib.hid (lit_w14 w9 [5, 7] rfl)
  replace LC := Lib.hid (Es.below LC.out hz)
  replace H2 := Lib.hid (Es.below H2.out hz)
  replace H3 := Lib.hid (Es.below H3.out hz)
  replace H4 := Lib.hid (Es.below H4.out hz)
  replace H5 := Lib.hid (Es.below H5.out hz)
  replace L2 := Lib.hid (Es.below L2.out hz)
  replace L3 := Lib.hid (Es.below L3.out hz)
  replace L5 := Lib.hid (Es.below L5.out hz)
  replace HB := Lib.hid (And.intro (HB.out.1.trans (hz.mono HB.out.2)) (Nat.le_trans HB.out.2 hz.size))
  clear hz
  skip
  refine (c8.out _ _ _ _ _ _ true LC.out L9.out rfl).mono ?_
  rintro e w10 ⟨rfl, hb⟩
  replace LC := Lib.hid (Es.below LC.out hb)
  replace H2 := Lib.hid (Es.below H2.out hb)
  replace H3 := Lib.hid (Es.below H3.out hb)
  replace H4 := Lib.hid (Es.below H4.out hb)
  replace H5 := Lib.hid (Es.below H5.out hb)
  replace L2 := Lib.hid (Es.below L2.out hb)
  replace L3 := Lib.hid (Es.below L3.out hb)
  replace L5 := Lib.hid (Es.below L5.out hb)
  replace L9 := Lib.hid (Es.below L9.out hb)
  replace HB := Lib.hid (And.intro (HB.out.1.trans (hb.mono HB.out.2)) (Nat.le_trans HB.out.2 hb.size))
  clear hb
  go_wp2_with fail
  refine (c8.out _ _ _ _ _ _ false LC.out H2.out rfl).mono ?_
  rintro e w11 ⟨rfl, hb⟩
  replace LC := Lib.hid (Es.below LC.out hb)
  replace H2 := Lib.hid (Es.below H2.out hb)
  replace H3 := Lib.hid (Es.below H3.out hb)
  replace H4 := Lib.hid (Es.below H4.out hb)
  replace H5 := Lib.hid (Es.below H5.out hb)
  replace L2 := Lib.hid (Es.below L2.out hb)
  replace L3 := Lib.hid (Es.below L3.out hb)
  replace L5 := Lib.hid (Es.below L5.out hb)
  replace L9 := Lib.hid (Es.below L9.out hb)
  replace HB := Lib.hid (And.intro (HB.out.1.trans (hb.mono HB.out.2)) (Nat.le_trans HB.out.2 hb.size))
  clear hb
  go_wp2
  go_ret
  exact ⟨rfl, HB.out.1⟩
end Go.Proofs.Ytmgkmeppnhdhnaa
