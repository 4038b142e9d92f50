/- What the document's own down, Entry, Go, Update and Sum answer; for slices of up to 16384 bytes. -/
import Derived.Test.YtipjbgmikbbkoaaCrcA
import Derived.Test.YtipjbgmikbbkoaaK
import Derived.LoopTactic
import Derived.Laws.BitsAllLaws
import Derived.Deep.MidRow
import Derived.Lib.EndianMore
namespace Go.Proofs.Ytipjbgmikbbkoaa
set_option linter.unusedVariables false
set_option linter.unusedSimpArgs false
open Go.RowKit

theorem ret_u32 {a b : Int} (h : a = b) : Ending.returned (.int .u32 a) = .returned (.int .u32 b) := by rw [h]
/-- exclusive or of two words of 32 bits, one of them as a number without a sign. -/
theorem xor32 (k : Nat) (b : Int) (hk : k < 4294967296) (h0 : 0 ≤ b) (h1 : b < 4294967296) : bits .xor .u32 (k : Int) b = ((k ^^^ b.toNat : Nat) : Int) := by
  rw [u32_xor _ _ (by omega) (by omega) h0 h1]; simp
theorem downs_snoc : ∀ (k c : Nat), downs (k + 1) c = down1 (downs k c)
  | 0, _ => rfl
  | k + 1, c => by
    have h := downs_snoc k (down1 c)
    simp only [downs] at h ⊢
    exact h

theorem refDown_any (c : Nat) (w : World) (hc : c < 4294967296) :
    Calls Try.prog 52 #[.int .u32 c] w fun e w' => e = .returned (.int .u32 (down8 c)) ∧ w = w' := by
  go_enter Try.func52, Try.ntmps52
  go_wp2
  go_loop [0, 3] (fun x iv => ∃ (i r : Nat), iv = .int .i64 i ∧ x = .int .u32 r ∧ i ≤ 8 ∧ r < 4294967296 ∧ Hid (downs i c = r)) (fun _ iv => 8 - (intOf iv).toNat)
  case atStart => exact ⟨0, c, rfl, rfl, by omega, hc, rfl⟩
  case round =>
    obtain ⟨i, r, rfl, rfl, hi, hr, hd⟩ := hrel
    by_cases hlt : i < 8
    · have hlt' : (i : Int) < 8 := by omega
      by_cases hodd : r % 2 = 1
      · have hx : bits .xor .u32 ((r : Int) / 2) 3988292384 = ((down1 r : Nat) : Int) := by
          have e : (r : Int) / 2 = ((r / 2 : Nat) : Int) := by omega
          rw [e, xor32 _ _ (by omega) (by omega) (by omega), down1, if_pos hodd]; rfl
        have hd1 : ((r : Int) % 2 == 1) = true := by simp; omega
        have HR := Lib.hid (show Hid (downs (i + 1) c = down1 r) by show _ = _; rw [downs_snoc, hd.out])
        have hl := down1_lt hr
        clear hodd
        go_wp2
        go_round
        case rel => exact ⟨i + 1, down1 r, by go_num, rfl, by omega, hl, HR.out⟩
        case measure => simp [intOf]; omega
      · have hd1 : ((r : Int) % 2 == 1) = false := by simp; omega
        have HR := Lib.hid (show Hid (downs (i + 1) c = r / 2) by show _ = _; rw [downs_snoc, hd.out, down1, if_neg hodd])
        clear hodd
        go_wp2
        go_round
        case rel => exact ⟨i + 1, r / 2, by go_num, by go_num, by omega, by omega, HR.out⟩
        case measure => simp [intOf]; omega
    · obtain rfl : i = 8 := by omega
      go_wp2
      go_ret
      exact ⟨by rw [← hd.out]; rfl, rfl⟩
theorem goes_snoc (bs : List Int) (b : Int) (c : Nat) : goes (bs ++ [b]) c = down8 (goes bs c ^^^ b.toNat) := by rw [goes_append]; rfl
theorem take_snoc' {bs : List Int} {i : Nat} {x : Int} (hl : i < bs.length) (h : bs.getD i 0 = x) : bs.take (i + 1) = bs.take i ++ [x] := by
  rw [List.take_succ_eq_append_getElem hl]
  congr 2
  rw [← h]; simp [List.getD, List.getElem?_eq_getElem hl]
theorem refGo_any (A : Option Addr) (n cc : Nat) (bs : List Int) (c : Nat) (w : World) (hb : Bs w A n cc bs) (hn : n ≤ 65536) (hc : c < 4294967296) :
    Calls Try.prog 40 #[.int .u32 c, .slice A n cc] w fun e w' => e = .returned (.int .u32 (goes bs c)) ∧ w = w' := by
  have HB := Lib.hid hb
  clear hb
  go_enter Try.func40, Try.ntmps40
  go_wp2
  go_loop [0, 5] (fun x iv => ∃ (i r : Nat), iv = .int .i64 i ∧ x = .int .u32 r ∧ i ≤ n ∧ r < 4294967296 ∧ Hid (goes (bs.take i) c = r)) (fun _ iv => n - (intOf iv).toNat)
  case atStart => exact ⟨0, c, rfl, rfl, by omega, hc, rfl⟩
  case round =>
    obtain ⟨i, r, rfl, rfl, hi, hr, hd⟩ := hrel
    by_cases hlt : i < n
    · obtain ⟨b, off, x, rfl, hbl, hc1, x0, x1, _, hget⟩ := HB.out.look i hlt
      have hx : bits .xor .u32 (r : Int) x = ((r ^^^ x.toNat : Nat) : Int) := xor32 r x hr x0 (by omega)
      have hxl : r ^^^ x.toNat < 4294967296 := xor_lt hr (by omega)
      have HR := Lib.hid (show Hid (goes (bs.take (i + 1)) c = down8 (r ^^^ x.toNat)) by show _ = _; rw [take_snoc' (by have := HB.out.len; omega) hget, goes_snoc, hd.out])
      clear hget
      generalize r ^^^ x.toNat = y at *
      have hl := down8_lt hxl
      go_wp2_with fail
      refine (refDown_any y _ hxl).mono ?_; rintro e w' ⟨rfl, rfl⟩
      go_wp2_with fail
      go_round
      case rel => exact ⟨i + 1, down8 y, by go_num, rfl, by omega, hl, HR.out⟩
      case measure => simp [intOf]; omega
    · obtain rfl : i = n := by omega
      have e := HB.out.len
      have HE := Lib.hid (show goes bs c = r by rw [← hd.out, List.take_of_length_le (by omega)])
      clear e
      go_wp2
      go_ret
      exact ⟨by rw [HE.out]; rfl, rfl⟩
theorem refSum_any (A : Option Addr) (n cc : Nat) (bs : List Int) (w : World) (hb : Bs w A n cc bs) (hn : n ≤ 65536) :
    Calls Try.prog 25 #[.slice A n cc] w fun e w' => e = .returned (.int .u32 (sumS bs)) ∧ w = w' := by
  have P := refGo_any A n cc bs 4294967295 w hb hn (by decide)
  have hl := goes_lt bs 4294967295 hb.byte (by decide)
  have HS := Lib.hid (show 4294967295 - goes bs 4294967295 = sumS bs from rfl)
  generalize goes bs 4294967295 = g at *
  clear hb
  go_enter Try.func25, Try.ntmps25
  go_wp2_with fail
  refine P.mono ?_; rintro e w' ⟨rfl, rfl⟩
  clear P
  go_wp2_with fail
  go_ret
  exact ⟨ret_u32 (by rw [← HS.out]; omega), rfl⟩

theorem updates_append (t : List Int) : ∀ (xs ys : List Int) (c : Nat), updates t (xs ++ ys) c = updates t ys (updates t xs c)
  | [], _, _ => rfl
  | x :: xs, ys, c => by simp only [List.cons_append, updates]; exact updates_append t xs ys _
theorem updates_snoc (t : List Int) (bs : List Int) (b : Int) (c : Nat) : updates t (bs ++ [b]) c = (t.getD ((updates t bs c ^^^ b.toNat) % 256) 0).toNat ^^^ (updates t bs c / 256) := by rw [updates_append]; rfl
/-- the cells of a table. -/
def Words (t : List Int) : Prop := t.length = 256 ∧ ∀ x ∈ t, 0 ≤ x ∧ x < 4294967296
theorem Words.get {t : List Int} (h : Words t) (j : Nat) (hj : j < 256) : 0 ≤ t.getD j 0 ∧ t.getD j 0 < 4294967296 := by
  have : j < t.length := by rw [h.1]; exact hj
  exact h.2 _ (by simp [List.getD, List.getElem?_eq_getElem this])
theorem box_cell (w : World) (t : List Int) (e : TypeId) (h : Words t) (j : Nat) (hj : j < 256) :
    (w.alloc (.cells (t.map (Value.int .u32)).toArray e)).cell? ⟨w.heap.size, j, none⟩ = some (.int .u32 (t.getD j 0)) := by
  rw [cell_of_row _ w.heap.size j _ e (0, 0) (heap_alloc_new w _)]
  have : j < t.length := by rw [h.1]; exact hj
  simp [List.getD, List.getElem?_eq_getElem this]
/-- a function with one result, which lies in memory. -/
theorem results_cell1 {P : Program} {fn : Func} {tmps : Array Value} {a : Nat} {t : TypeId} {ad : Addr} {v : Value} {w : World} (h : fn.results = #[.cell a t]) (hp : tmps.getD a undef = .pointer (some ad))
    (hl : (loadVar t ad).run P w = .ok v w) : (results fn tmps).run P w = .ok v w := by
  unfold results
  rw [h]
  have hp2 : tmps[a]?.getD undef = .pointer (some ad) := by simpa using hp
  simp only [List.mapM_toArray, List.mapM_cons, List.mapM_nil]
  simp [Sem.run_bind, hp2]
  exact hl
/-- the table so far. -/
def tabL (i : Nat) : List Int := (List.range 256).map fun j => if j < i then (down8 j : Int) else 0
theorem tabL_len (i : Nat) : (tabL i).length = 256 := by simp [tabL]
set_option maxRecDepth 100000 in
theorem tabL_get (i j : Nat) (hj : j < 256) : (tabL i).getD j 0 = if j < i then (down8 j : Int) else 0 := by
  simp [tabL, List.getD, hj]
theorem tabL_words (i : Nat) : Words (tabL i) := by
  refine ⟨tabL_len i, fun x hx => ?_⟩
  simp only [tabL, List.mem_map, List.mem_range] at hx
  obtain ⟨j, hj, rfl⟩ := hx
  have := down8_lt (show j < 4294967296 by omega)
  split <;> omega
set_option maxRecDepth 100000 in
theorem tabL_set (i : Nat) : ((tabL i).map (Value.int .u32)).toArray.setIfInBounds i (.int .u32 (down8 i)) = ((tabL (i + 1)).map (Value.int .u32)).toArray := by
  apply Array.ext'
  simp only [Array.toList_setIfInBounds]
  apply List.ext_getElem
  · simp [tabL_len]
  · intro k h1 h2
    simp only [List.getElem_set, tabL, List.getElem_map, List.getElem_range]
    by_cases hk : i = k
    · subst hk; simp
    · rw [if_neg hk]
      congr 1
      by_cases h3 : k < i
      · rw [if_pos h3, if_pos (by omega)]
      · rw [if_neg h3, if_neg (by omega)]
/-- a table of zeros, as cells: a constant of its own (a great zero value is not to be written out). -/
@[irreducible] def tz : Array Value := ((tabL 0).map (Value.int .u32)).toArray
theorem zero24 : tz = ((tabL 0).map (Value.int .u32)).toArray := by unfold tz; rfl
set_option maxRecDepth 100000 in
theorem tz_val : Try.prog.info? 79 = some Try.t79 ∧ Try.t79.zero = some (.agg ((tabL 0).map (Value.int .u32)).toArray) := ⟨by kernel_rfl, by kernel_rfl⟩
@[simp] theorem tz_zero (w : World) : (zeroValue 79).run Try.prog w = .ok (.agg tz) w := by
  rw [zero24]
  unfold zeroValue typeInfo
  simp [Sem.run_bind, tz_val.1, tz_val.2]
@[simp] theorem tz_ne : ¬ tz = #[] := by
  intro h
  have h2 := congrArg Array.size h
  rw [zero24] at h2
  simp [tabL_len] at h2
/-- the table, as cells. -/
def tabC : List Value := (tabL 256).map (Value.int .u32)
theorem tabC_len : tabC.length = 256 := by rw [tabC, List.length_map, tabL_len]
theorem words_one {t : List Int} : ∀ v ∈ t.map (Value.int .u32), v.oneCell' = true := ints_oneCell _ _
theorem info24 : (Try.prog.info? 79).map (·.size) = some 256 := by kernel_rfl
/-- a variable that an array is laid into: what the store asks, and what is there behind it. -/
theorem var_words (w : World) (t : List Int) (ht : Words t) :
    (w.alloc (.cells tz 79)).there w.heap.size 0 (t.map (Value.int .u32)).toArray.size ∧
    (Try.prog.info? 79).map (·.size) = some (t.map (Value.int .u32)).toArray.size ∧ (t.map (Value.int .u32)).toArray.all (·.oneCell') = true ∧
    Below w.heap.size w ((w.alloc (.cells tz 79)).setCells w.heap.size 0 (t.map (Value.int .u32))) ∧
    ∀ j, j < 256 → ((w.alloc (.cells tz 79)).setCells w.heap.size 0 (t.map (Value.int .u32))).cell? ⟨w.heap.size, j, none⟩ = some (.int .u32 (t.getD j 0)) := by
  have hl : (t.map (Value.int .u32)).length = 256 := by rw [List.length_map]; exact ht.1
  have hth : (w.alloc (.cells tz 79)).there w.heap.size 0 (t.map (Value.int .u32)).toArray.size := by
    intro j hj
    have hj2 : j < 256 := by simpa [hl] using hj
    rw [Nat.zero_add, zero24, cell_of_row _ w.heap.size j _ 79 (0, 0) (heap_alloc_new w _)]
    refine ⟨by simp [tabL_len, hj2], frozen_of_row _ w.heap.size j _ 79 (heap_alloc_new w _)⟩
  refine ⟨hth, ?_, all_oneCell_toArray words_one, ((Below.refl _ _).alloc (Nat.le_refl _) _).trans (Lib.below_setCells_w (Nat.le_refl _) _ _ _), fun j hj => ?_⟩
  · have : (t.map (Value.int .u32)).toArray.size = 256 := by simpa using ht.1
    rw [this]; exact info24
  · have h := World.rangeAt_setCells_same (w.alloc (.cells tz 79)) w.heap.size 0 (t.map (Value.int .u32)) (by simpa using hth) j (.int .u32 (t.getD j 0))
      (by simp [List.getD, List.getElem?_eq_getElem (show j < t.length by rw [ht.1]; exact hj)])
    rwa [Nat.zero_add] at h
end Go.Proofs.Ytipjbgmikbbkoaa
