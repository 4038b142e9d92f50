/- What the program's Table, Update, Sum and Join answer; for slices of up to 65536 bytes. -/
import Derived.Test.YtipjbgmikbbkoaaCrcB
namespace Go.Proofs.Ytipjbgmikbbkoaa
set_option linter.unusedVariables false
set_option linter.unusedSimpArgs false
open Go.RowKit

/-- the lowest bit. -/
theorem and1 (k : Nat) (hk : k < 4294967296) : bits .and .u32 (k : Int) 1 = ((k % 2 : Nat) : Int) := by
  rw [u32_and _ _ (by omega) (by omega) (by decide) (by decide)]
  simp [Nat.and_one_is_mod]
theorem xor8 (k : Nat) (b : Int) (hk : k < 256) (h0 : 0 ≤ b) (h1 : b < 256) : bits .xor .u8 (k : Int) b = ((k ^^^ b.toNat : Nat) : Int) := by
  rw [u8_xor _ _ (by omega) (by omega) h0 h1]; simp
theorem xor_mod256 (c b : Nat) (hb : b < 256) : (c ^^^ b) % 256 = (c % 256) ^^^ b := by
  have h : (c ^^^ b) % 2 ^ 8 = (c % 2 ^ 8) ^^^ (b % 2 ^ 8) := Nat.xor_mod_two_pow
  rw [show b % 2 ^ 8 = b from Nat.mod_eq_of_lt hb] at h
  exact h
theorem not32 (g : Nat) (hg : g < 4294967296) : bits .xor .u32 IntKind.u32.max (g : Int) = ((4294967295 - g : Nat) : Int) := by
  have e : IntKind.u32.max = ((4294967295 : Nat) : Int) := rfl
  rw [e, xor32 _ _ (by decide) (by omega) (by omega), sum_xor hg, Nat.xor_comm]; rfl
theorem step_any (c : Nat) (w : World) (hc : c < 4294967296) :
    Calls Try.prog 59 #[.int .u32 c] w fun e w' => e = .returned (.int .u32 (down8 c)) ∧ w = w' := by
  go_enter Try.func59, Try.ntmps59
  go_wp2
  go_loop [0, 4] (fun x iv => ∃ (i r : Nat), iv = .int .i64 i ∧ x = .int .u32 r ∧ i ≤ 8 ∧ r < 4294967296 ∧ Hid (downs i c = r)) (fun _ iv => 8 - (intOf iv).toNat)
  case atStart => exact ⟨0, c, rfl, rfl, by omega, hc, rfl⟩
  case round =>
    obtain ⟨i, r, rfl, rfl, hi, hr, hd⟩ := hrel
    by_cases hlt : i < 8
    · have hlt' : (i : Int) < 8 := by omega
      have ha : bits .and .u32 (r : Int) 1 = ((r % 2 : Nat) : Int) := and1 r hr
      have e1 : (r : Int) / 2 = ((r / 2 : Nat) : Int) := by omega
      by_cases hodd : r % 2 = 1
      · have hx : bits .xor .u32 ((r : Int) / 2) 3988292384 = ((down1 r : Nat) : Int) := by
          rw [e1, xor32 _ _ (by omega) (by omega) (by omega), down1, if_pos hodd]; rfl
        have HR := Lib.hid (show Hid (downs (i + 1) c = down1 r) by show _ = _; rw [downs_snoc, hd.out])
        have hl := down1_lt hr
        rw [hodd] at ha
        replace ha : bits .and .u32 (r : Int) 1 = 1 := ha
        clear hodd e1
        go_wp2
        go_round
        case rel => exact ⟨i + 1, down1 r, by go_num, rfl, by omega, hl, HR.out⟩
        case measure => simp [intOf]; omega
      · have h0 : r % 2 = 0 := by omega
        have HR := Lib.hid (show Hid (downs (i + 1) c = r / 2) by show _ = _; rw [downs_snoc, hd.out, down1, if_neg hodd])
        rw [h0] at ha
        replace ha : bits .and .u32 (r : Int) 1 = 0 := ha
        clear hodd h0 e1
        go_wp2
        go_round
        case rel => exact ⟨i + 1, r / 2, by go_num, by go_num, by omega, by omega, HR.out⟩
        case measure => simp [intOf]; omega
    · obtain rfl : i = 8 := by omega
      go_wp2
      go_ret
      exact ⟨by rw [← hd.out]; rfl, rfl⟩
set_option maxRecDepth 100000 in
theorem table_any (w : World) :
    Calls Try.prog 50 #[] w fun e w' => e = .returned (.agg ((tabL 256).map (Value.int .u32)).toArray) ∧ Below w.heap.size w w' := by
  have HZ := Lib.hid zero24
  go_enter Try.func50, Try.ntmps50
  go_wp2
  have h0 : ((w.alloc (.cells tz 79)).alloc (.cells tz 79)).heap[w.heap.size]? = some (.cells ((tabL 0).map (Value.int .u32)).toArray 79 (0, 0)) := by
    rw [Below.heap_alloc _ _ _ (by simp), heap_alloc_new, HZ.out]
  have h1 : ((w.alloc (.cells tz 79)).alloc (.cells tz 79)).heap[w.heap.size + 1]? = some (.cells ((tabL 0).map (Value.int .u32)).toArray 79 (0, 0)) := by
    have := heap_alloc_new (w.alloc (.cells tz 79)) (.cells tz 79)
    rw [← HZ.out]
    simpa using this
  have hb : Below w.heap.size w ((w.alloc (.cells tz 79)).alloc (.cells tz 79)) := ((Below.refl _ _).alloc (Nat.le_refl _) _).alloc (by simp) _
  have H0 := Lib.hid h0; have H1 := Lib.hid h1; have HB := Lib.hid hb; clear h0 h1 hb
  go_loopw [3] (fun iv wr => ∃ i : Nat, iv = .int .i64 i ∧ i ≤ 256 ∧ Hid (wr.heap[w.heap.size + 1]? = some (.cells ((tabL i).map (Value.int .u32)).toArray 79 (0, 0))) ∧
      Hid (wr.heap[w.heap.size]? = some (.cells ((tabL 0).map (Value.int .u32)).toArray 79 (0, 0))) ∧ Hid (Below w.heap.size w wr)) (fun iv _ => 256 - (intOf iv).toNat)
  case atStart => exact ⟨0, rfl, by omega, H1, H0, HB⟩
  case round =>
    obtain ⟨i, rfl, hi, ht, hz, hbl⟩ := hrel
    by_cases hlt : i < 256
    · have hc1 : wr.cell? ⟨w.heap.size + 1, i, none⟩ = some (.int .u32 0) := by
        rw [cell_of_row wr (w.heap.size + 1) i _ 79 (0, 0) ht.out]
        simp [tabL, hlt]
      have hf1 := frozen_of_row wr (w.heap.size + 1) i _ 79 ht.out
      have ht2 := heap_setCell_same wr (w.heap.size + 1) i _ 79 (.int .u32 (down8 i)) ht.out
      rw [tabL_set] at ht2
      have hz2 := heap_setCell_other wr ⟨w.heap.size + 1, i, none⟩ w.heap.size (.int .u32 (down8 i)) (by simp)
      rw [hz.out] at hz2
      have hb2 := hbl.out.setCell (p := ⟨w.heap.size + 1, i, none⟩) (by simp) (.int .u32 (down8 i))
      have HT2 := Lib.hid ht2; have HZ2 := Lib.hid hz2; have HB2 := Lib.hid hb2
      clear ht2 hz2 hb2
      have hi0 : (0 : Int) ≤ (i : Int) := by omega
      have hi1 : (i : Int) < 256 := by omega
      have hi2 : (i : Int) ≤ 255 := by omega
      go_wp2_with fail
      refine (step_any i _ (by omega)).mono ?_; rintro e w' ⟨rfl, rfl⟩
      go_wp2_with fail
      go_roundw
      case rel => exact ⟨i + 1, by go_num, by omega, HT2, HZ2, HB2⟩
      case measure => simp [intOf]; omega
    · obtain rfl : i = 256 := by omega
      obtain ⟨cs, hcs⟩ : ∃ cs, (tabL 256).map (Value.int .u32) = cs := ⟨_, rfl⟩
      have hlen : cs.length = 256 := by rw [← hcs, List.length_map, tabL_len]
      have hone : ∀ v ∈ cs, v.oneCell' = true := by rw [← hcs]; exact ints_oneCell _ _
      have ht2 := ht.out
      rw [hcs] at ht2
      have hra : wr.rangeAt (w.heap.size + 1) 0 cs := by
        intro j v hj
        rw [Nat.zero_add, cell_of_row wr (w.heap.size + 1) j _ 79 (0, 0) ht2]
        simpa using hj
      have hth : wr.there w.heap.size 0 cs.toArray.size := by
        intro j hj
        rw [Nat.zero_add, cell_of_row wr w.heap.size j _ 79 (0, 0) hz.out]
        have hj2 : j < 256 := by simpa [hlen] using hj
        refine ⟨?_, frozen_of_row wr w.heap.size j _ 79 hz.out⟩
        simp [tabL_len, hj2]
      have hi1 : (Try.prog.info? 79).map (·.size) = some cs.length := by rw [hlen]; kernel_rfl
      have hi2 : (Try.prog.info? 79).map (·.size) = some cs.toArray.size := by simpa using hi1
      have HC := Lib.hid hcs; have HA := Lib.hid hra; have HH := Lib.hid hth; have HO := Lib.hid (all_oneCell_toArray hone); have HI1 := Lib.hid hi1; have HI2 := Lib.hid hi2
      clear hcs hlen hone ht2 hra hth hi1 hi2
      go_wp2_with (first | (refine wpList_load_mid (by rfl) _ _ (by rfl) (w.heap.size + 1) 0 (by rfl) cs _ HA.out Try.underlying79 (by rfl) HI1.out ?_) | (refine wpList_store_mid (by rfl) _ _ _ (by rfl) w.heap.size 0 cs.toArray (by rfl) (by rfl) HH.out HI2.out HO.out ?_))
      have hsame := World.rangeAt_setCells_same wr w.heap.size 0 cs (by simpa using HH.out)
      have hres := run_loadVar_mid (P := Try.prog) (wr.setCells w.heap.size 0 cs) w.heap.size 0 79 cs _ hsame Try.underlying79 (by rfl) HI1.out
      have hbel : Below w.heap.size w (wr.setCells w.heap.size 0 cs) := hbl.out.trans (Lib.below_setCells_w (Nat.le_refl _) _ _ _)
      exact bodyPost_ret (v := .agg cs.toArray) (results_cell1 (a := 0) Try.results50 (by rfl) hres) rfl ⟨by rw [← HC.out], hbel⟩
theorem update_any (t : List Int) (A : Option Addr) (n cc : Nat) (bs : List Int) (c : Nat) (w : World) (ht : Words t) (hb : Bs w A n cc bs) (hn : n ≤ 65536) (hc : c < 4294967296) :
    Calls Try.prog 49 #[.agg (t.map (Value.int .u32)).toArray, .int .u32 c, .slice A n cc] w fun e w' => e = .returned (.int .u32 (updates t bs c)) ∧ Below w.heap.size w w' := by
  have hb1 := hb.alloc (.cells (t.map (Value.int .u32)).toArray 79)
  have HB := Lib.hid hb1
  have HW := Lib.hid ((Below.refl w.heap.size w).alloc (Nat.le_refl _) (.cells (t.map (Value.int .u32)).toArray 79))
  have hcell := box_cell w t 79 ht
  have HC := Lib.hid hcell; have HT := Lib.hid ht
  clear hb hb1 hcell ht
  go_enter Try.func49, Try.ntmps49
  go_wp2
  generalize w.alloc (.cells (t.map (Value.int .u32)).toArray 79) = W at *
  go_loop [1, 11] (fun x iv => ∃ (i r : Nat), iv = .int .i64 i ∧ x = .int .u32 r ∧ i ≤ n ∧ r < 4294967296 ∧ Hid (updates t (bs.take i) c = r)) (fun _ iv => n - (intOf iv).toNat)
  case atStart => exact ⟨0, c, rfl, rfl, by omega, hc, rfl⟩
  case round =>
    obtain ⟨i, r, rfl, rfl, hi, hr, hd⟩ := hrel
    by_cases hlt : i < n
    · obtain ⟨b, off, x, rfl, hbl, hc1, x0, x1, _, hget⟩ := HB.out.look i hlt
      obtain ⟨j, hj⟩ : ∃ j, (r % 256) ^^^ x.toNat = j := ⟨_, rfl⟩
      have hmod : (r ^^^ x.toNat) % 256 = j := by rw [xor_mod256 _ _ (by omega), hj]
      have hj2 : j < 256 := by omega
      have hx : bits .xor .u8 ((r : Int) % 256) x = (j : Int) := by
        have e : (r : Int) % 256 = ((r % 256 : Nat) : Int) := by omega
        rw [e, xor8 _ _ (by omega) x0 (by omega), hj]
      have hcj := HC.out j hj2
      obtain ⟨v0, v1⟩ := HT.out.get j hj2
      have HR := updates_snoc t (bs.take i) x c
      rw [hd.out, hmod] at HR
      rw [← take_snoc' (by have := HB.out.len; omega) hget] at HR
      generalize t.getD j 0 = v at *
      have hf : bits .xor .u32 v ((r : Int) / 256) = ((v.toNat ^^^ (r / 256) : Nat) : Int) := by
        have e2 : ((r : Int) / 256).toNat = r / 256 := by omega
        rw [u32_xor _ _ v0 v1 (by omega) (by omega), e2]
      have hl : v.toNat ^^^ (r / 256) < 4294967296 := xor_lt (by omega) (by omega)
      have HR2 : Hid (updates t (bs.take (i + 1)) c = v.toNat ^^^ (r / 256)) := HR
      clear hget hj HR hmod
      generalize v.toNat ^^^ (r / 256) = z at *
      go_wp2
      go_round
      case rel => exact ⟨i + 1, z, by go_num, rfl, by omega, hl, HR2.out⟩
      case measure => simp [intOf]; omega
    · obtain rfl : i = n := by omega
      have e := HB.out.len
      have HE := Lib.hid (show updates t bs c = r by rw [← hd.out, List.take_of_length_le (by omega)])
      clear e
      go_wp2
      go_ret
      exact ⟨by rw [HE.out]; rfl, HW.out⟩
theorem tab_nat (i : Nat) (hi : i < 256) : ((tabL 256).getD i 0).toNat = down8 i := by
  rw [tabL_get 256 i hi, if_pos hi]; simp
theorem sum_any (A : Option Addr) (n cc : Nat) (bs : List Int) (w : World) (hb : Bs w A n cc bs) (hn : n ≤ 65536) :
    Calls Try.prog 37 #[.slice A n cc] w fun e w' => e = .returned (.int .u32 (sumS bs)) ∧ Below w.heap.size w w' := by
  have hbyte := hb.byte
  have hu : updates (tabL 256) bs 4294967295 = goes bs 4294967295 := updates_table _ tab_nat bs _ hbyte
  have hl := goes_lt bs 4294967295 hbyte (by decide)
  have HS := Lib.hid (show 4294967295 - goes bs 4294967295 = sumS bs from rfl)
  have HB := Lib.hid hb
  have P : ∀ w2, Bs w2 A n cc bs → Calls Try.prog 49 #[.agg ((tabL 256).map (Value.int .u32)).toArray, .int .u32 (4294967295 : Nat), .slice A n cc] w2 fun e w' => e = .returned (.int .u32 (updates (tabL 256) bs 4294967295)) ∧ Below w2.heap.size w2 w' :=
    fun w2 h2 => update_any (tabL 256) A n cc bs 4294967295 w2 (tabL_words 256) h2 hn (by decide)
  rw [hu] at P
  have HP := Lib.hid P
  generalize goes bs 4294967295 = g at *
  obtain ⟨tc, htc⟩ : ∃ tc, ((tabL 256).map (Value.int .u32)).toArray = tc := ⟨_, rfl⟩
  have T := table_any w
  rw [htc] at T HP
  have HTc := Lib.hid htc
  clear hb hbyte hu P htc
  go_enter Try.func37, Try.ntmps37
  go_wp2_with fail
  refine T.mono ?_; rintro e w1 ⟨rfl, h1⟩
  have H1 := Lib.hid h1
  have HB1 := Lib.hid (HB.out.below h1)
  clear h1
  go_wp2_with fail
  refine (HP.out _ HB1.out).mono ?_; rintro e w2 ⟨rfl, h2⟩
  have H2 := Lib.hid (H1.out.trans (h2.mono H1.out.size))
  clear h2
  go_wp2_with fail
  go_ret
  exact ⟨ret_u32 (by rw [← HS.out]; exact not32 g hl), H2.out⟩
theorem zeros_byte (n : Nat) : ∀ b ∈ List.replicate n (0 : Int), 0 ≤ b ∧ b ≤ 255 := by
  intro b hb; rw [List.eq_of_mem_replicate hb]; decide
/-- so many zeros, made. -/
theorem make_bytes (n : Nat) (hn : n ≤ 65536) (W : World) :
    (Instr.makeSlice 22 (.int .i64 n) (.int .i64 n)).run Try.prog W = .ok (.slice (some ⟨W.heap.size, 0, none⟩) n n) (W.alloc (.cells ((List.replicate n (0 : Int)).map (Value.int .u8)).toArray 5)) := by
  obtain ⟨i5, hi5, hz⟩ : ∃ i, Try.prog.info? 5 = some i ∧ (i.zero, i.size, i.bytes) = (some (.int .u8 0), 1, 1) := by
    have h := infoByte
    cases hx : Try.prog.info? 5 with
    | none => rw [hx] at h; cases h
    | some i => rw [hx] at h; exact ⟨i, rfl, by simpa using h⟩
  have hmk := run_make_row' (P := Try.prog) 22 5 (.int .u8 0) 1 Try.underlying22 infoByte rfl .i64 .i64 n (by omega) (by omega) W
  have e : madeCells #[Value.int .u8 0] n = ((List.replicate n (0 : Int)).map (Value.int .u8)).toArray := by
    apply Array.ext'
    rw [toList_madeCells_one]
    simp
  rw [← e]
  exact hmk
end Go.Proofs.Ytipjbgmikbbkoaa
