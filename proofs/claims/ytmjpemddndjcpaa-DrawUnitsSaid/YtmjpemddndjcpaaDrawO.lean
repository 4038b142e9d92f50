/- What the program's own calls of layer 6 answer; no condition. -/
import Derived.Test.YtmjpemddndjcpaaDrawC
import Derived.Laws.Cover2
namespace Go.Proofs.Ytmjpemddndjcpaa
set_option linter.unusedVariables false
set_option linter.unusedSimpArgs false
open Go.RowKit

theorem drawMixed_any (z : Nat) (w : World) (hz : z < M64) :
    Calls Try.prog 24 #[.int .u64 (z : Int)] w fun e w' => e = .returned (.int .u64 (wordN z : Nat)) ∧ w = w' := by
  have a0 := mixA_lt z
  have b0 := mixB_lt (mixA z)
  have h1 : bits .xor .u64 (z : Int) ((z : Int) / 1073741824) = ((z ^^^ z / 2 ^ 30 : Nat) : Int) := by
    rw [show (z : Int) / 1073741824 = ((z / 2 ^ 30 : Nat) : Int) by omega]; exact u64_shr_mix hz
  have h2 : bits .xor .u64 (mixA z : Int) ((mixA z : Int) / 134217728) = ((mixA z ^^^ mixA z / 2 ^ 27 : Nat) : Int) := by
    rw [show (mixA z : Int) / 134217728 = ((mixA z / 2 ^ 27 : Nat) : Int) by omega]; exact u64_shr_mix a0
  have h3 : bits .xor .u64 (mixB (mixA z) : Int) ((mixB (mixA z) : Int) / 2147483648) = ((wordN z : Nat) : Int) := by
    rw [show (mixB (mixA z) : Int) / 2147483648 = ((mixB (mixA z) / 2 ^ 31 : Nat) : Int) by omega]; exact u64_shr_mix b0
  have e1 : IntKind.u64.wrap (((z ^^^ z / 2 ^ 30 : Nat) : Int) * 13787848793156543929) = (mixA z : Nat) := by rw [wrap_u64']; unfold mixA M64; omega
  have e2 : IntKind.u64.wrap (((mixA z ^^^ mixA z / 2 ^ 27 : Nat) : Int) * 10723151780598845931) = (mixB (mixA z) : Nat) := by
    rw [wrap_u64', show mixB (mixA z) = (mixA z ^^^ mixA z / 2 ^ 27) * 10723151780598845931 % M64 from rfl]; unfold M64; omega
  generalize z ^^^ z / 2 ^ 30 = p at *
  generalize mixA z ^^^ mixA z / 2 ^ 27 = q at *
  generalize mixB (mixA z) = b at *
  generalize mixA z = a at *
  generalize wordN z = r at *
  unfold M64 at *
  go_enter Try.func24, Try.ntmps24
  go_wp2
  go_ret
  exact ⟨rfl, rfl⟩
theorem drawNext_any0 (s : Nat) (w : World) (hs : s < M64) :
    Calls Try.prog 10 #[.int .u64 (s : Int)] w fun e w' => e = .returned (.tuple #[.int .u64 (nextN s : Nat), .int .u64 (wordN (nextN s) : Nat)]) ∧ w = w' := by
  have hw := Lib.hid (fun w => drawMixed_any (nextN s) w (nextN_lt s))
  have e1 : IntKind.u64.wrap ((s : Int) + 11400714819323198485) = (nextN s : Nat) := by rw [wrap_u64']; unfold nextN M64; omega
  generalize wordN (nextN s) = v at *
  generalize nextN s = t at *
  go_enter Try.func10, Try.ntmps10
  go_wp2_with fail
  refine (hw.out _).mono ?_; rintro e w' ⟨rfl, rfl⟩
  go_wp2_with fail
  go_ret2
  exact ⟨rfl, rfl⟩
theorem drawNext_any (s : Nat) (w : World) (hs : s < M64) :
    Calls Try.prog 10 #[.int .u64 (s : Int)] w fun e w' => e = .returned (.tuple #[.int .u64 (nextN s : Nat), .int .u64 (wordN (nextN s) : Nat)]) ∧ Below w.heap.size w w' := by
  refine (drawNext_any0 s w hs).mono ?_; rintro e w' ⟨rfl, rfl⟩
  exact ⟨rfl, Below.refl _ _⟩
theorem drawBack_any (s : Nat) (w : World) (hs : s < M64) :
    Calls Try.prog 21 #[.int .u64 (s : Int)] w fun e w' => e = .returned (.int .u64 (backN s : Nat)) ∧ Below w.heap.size w w' := by
  have e0 : IntKind.u64.wrap ((s : Int) - 11400714819323198485) = (backN s : Nat) := by rw [wrap_u64']; unfold backN M64; omega
  generalize backN s = z at *
  go_enter Try.func21, Try.ntmps21
  go_wp2
  go_ret
  exact ⟨rfl, Below.refl _ _⟩
theorem u64_and_half (x : Nat) (hx : x < 18446744073709551616) : bits .and .u64 (x : Int) 4294967295 = ((x % 4294967296 : Nat) : Int) := by
  have h1 := u64_and_nat x 4294967295 hx (by decide)
  have h2 : x &&& 4294967295 = x % 4294967296 := Nat.and_two_pow_sub_one_eq_mod x 32
  rw [h2] at h1; exact h1
theorem ret_two {a b c : Int} (h : a = b) : Ending.returned (.tuple #[.int .u64 a, .int .u64 c]) = .returned (.tuple #[.int .u64 b, .int .u64 c]) := by rw [h]
theorem mul64_any (x k : Nat) (w : World) (hx : x < M64) (hk : k < 9223372036854775808) :
    Calls Try.prog 26 #[.int .u64 (x : Int), .int .u64 (k : Int)] w fun e w' => ∃ lo : Int, e = .returned (.tuple #[.int .u64 (belowN x k : Nat), .int .u64 lo]) ∧ w = w' := by
  obtain ⟨l1, l2, l3⟩ := below_halves hx hk
  have f1 := u64_and_half x hx
  have f2 := u64_and_half k (by omega)
  have ha : x / 4294967296 ≤ 4294967295 := by unfold M64 at hx; omega
  have hb : x % 4294967296 ≤ 4294967295 := by omega
  have hc : k / 4294967296 ≤ 2147483647 := by omega
  have hd : k % 4294967296 ≤ 4294967295 := by omega
  have e1 : (x : Int) / 4294967296 = ((x / 4294967296 : Nat) : Int) := by omega
  have e3 : (k : Int) / 4294967296 = ((k / 4294967296 : Nat) : Int) := by omega
  generalize x / 4294967296 = a at *
  generalize x % 4294967296 = b at *
  generalize k / 4294967296 = c at *
  generalize k % 4294967296 = d at *
  have p1 : a * d ≤ 4294967295 * 4294967295 := Nat.mul_le_mul ha hd
  have p2 : b * d ≤ 4294967295 * 4294967295 := Nat.mul_le_mul hb hd
  have p3 : b * c ≤ 4294967295 * 2147483647 := Nat.mul_le_mul hb hc
  have p4 : a * c ≤ 4294967295 * 2147483647 := Nat.mul_le_mul ha hc
  have q1 : (a : Int) * (d : Int) = ((a * d : Nat) : Int) := by rw [Int.natCast_mul]
  have q2 : (b : Int) * (d : Int) = ((b * d : Nat) : Int) := by rw [Int.natCast_mul]
  have q3 : (b : Int) * (c : Int) = ((b * c : Nat) : Int) := by rw [Int.natCast_mul]
  have q4 : (a : Int) * (c : Int) = ((a * c : Nat) : Int) := by rw [Int.natCast_mul]
  generalize a * d = P at *
  generalize b * d = U at *
  generalize b * c = Q at *
  generalize a * c = T at *
  unfold M64 at l1 l2 hx
  have f3 : bits .and .u64 ((P : Int) + (U : Int) / 4294967296) 4294967295 = ((P : Int) + (U : Int) / 4294967296) % 4294967296 := by
    have := u64_and_half (P + U / 4294967296) l1
    rw [show (P : Int) + (U : Int) / 4294967296 = ((P + U / 4294967296 : Nat) : Int) by omega, this]; omega
  clear ha hb hc hd
  generalize belowN x k = z at *
  go_enter Try.func26, Try.ntmps26
  go_wp2
  go_ret2
  refine ⟨IntKind.u64.wrap ((x : Int) * (k : Int)), ?_, rfl⟩
  refine ret_two (a := (T : Int) + ((P : Int) + (U : Int) / 4294967296) / 4294967296 + (((P : Int) + (U : Int) / 4294967296) % 4294967296 + (Q : Int)) / 4294967296) ?_
  omega
theorem drawBelow_any (x : Nat) (n : Int) (w : World) (hx : x < M64) (n1 : n ≤ 9223372036854775807) :
    Calls Try.prog 15 #[.int .u64 (x : Int), .int .i64 n] w fun e w' => e = .returned (.int .i64 (belowI x n : Nat)) ∧ Below w.heap.size w w' := by
  by_cases h : n < 1
  · have b1 : decide (n < 1) = true := by simpa using h
    have R := Lib.hid (show belowI x n = 0 by unfold belowI; rw [if_pos h])
    clear h
    go_enter Try.func15, Try.ntmps15
    go_wp2
    go_ret
    rw [R.out]
    exact ⟨rfl, Below.refl _ _⟩
  · have b1 : decide (n < 1) = false := by simpa using h
    obtain ⟨k, rfl⟩ : ∃ k : Nat, n = k := ⟨n.toNat, by omega⟩
    have hlt : belowN x k < k := below_lt hx (by omega)
    have R := Lib.hid (show belowI x k = belowN x k by unfold belowI; rw [if_neg h, Int.toNat_natCast])
    have M := Lib.hid (fun w => mul64_any x k w hx (by omega))
    clear h
    generalize belowN x k = z at *
    go_enter Try.func15, Try.ntmps15
    go_wp2_with fail
    refine (M.out _).mono ?_; rintro e w' ⟨lo, rfl, rfl⟩
    go_wp2_with fail
    go_ret
    rw [R.out]
    exact ⟨rfl, Below.refl _ _⟩
theorem drawUnit_any (x : Nat) (w : World) (hx : x < M64) :
    Calls Try.prog 17 #[.int .u64 (x : Int)] w fun e w' => e = .returned (.int .u64 (unitN x : Nat)) ∧ Below w.heap.size w w' := by
  have hx2 : x < 18446744073709551616 := hx
  have hu : x / 2048 < 9007199254740992 := by omega
  have e1 : (x : Int) / 2048 = ((x / 2048 : Nat) : Int) := by omega
  have hf : floatOfInt .f64 ((x / 2048 : Nat) : Int) = fromS ((x / 2048 : Nat) : Int) := fromInt_eq _ (by omega) (by omega)
  have hd : Ieee.double.div (fromS ((x / 2048 : Nat) : Int)) 4845873199050653696 = some (unitN x) := by
    unfold unitN
    by_cases h0 : x / 2048 = 0
    · rw [if_pos h0, h0, show fromS ((0 : Nat) : Int) = 0 from fromS_zero]; decide +kernel
    · rw [if_neg h0, fromS_pos (by omega), Int.natAbs_natCast]
      exact div_unit (by omega) hu
  have h1 := fun W => run_float_arith (P := Try.prog) W .quo 42 .f64 (fromS ((x / 2048 : Nat) : Int)) 4845873199050653696 (unitN x) hd
  have h2 := tobits (unitN x)
  generalize fromS ((x / 2048 : Nat) : Int) = f at *
  generalize unitN x = r at *
  generalize x / 2048 = u at *
  clear hd
  go_enter Try.func17, Try.ntmps17
  go_wp2
  go_ret
  exact ⟨rfl, Below.refl _ _⟩
theorem drawChance_any (x p : Nat) (w : World) (hx : x < M64) (hp : p < M64) :
    Calls Try.prog 19 #[.int .u64 (x : Int), .int .u64 (p : Int)] w fun e w' => e = .returned (.bool (lessN (unitN x) p)) ∧ Below w.heap.size w w' := by
  have U := Lib.hid (fun w => drawUnit_any x w hx)
  have L := fun w => realLess_any (unitN x) p w (Nat.lt_trans (unit_bounds hx) (by decide)) hp
  generalize lessN (unitN x) p = b at *
  generalize unitN x = u at *
  replace L := Lib.hid L
  go_enter Try.func19, Try.ntmps19
  go_wp2_with fail
  refine (U.out _).mono ?_; rintro e w' ⟨rfl, hb⟩
  go_wp2_with fail
  refine (L.out _).mono ?_; rintro e w'' ⟨rfl, hb2⟩
  have HB := Lib.hid (hb.trans (hb2.mono hb.size))
  clear hb hb2
  go_wp2_with fail
  go_ret
  exact ⟨rfl, HB.out⟩
theorem wordsN_len (s : Nat) : ∀ i, (wordsN s i).length = i
  | 0 => rfl
  | i + 1 => by show (wordsN s i ++ [_]).length = _; rw [List.length_append, wordsN_len s i]; rfl
/-- the row so far. -/
def rowSo (s k i : Nat) : List Nat := wordsN s i ++ List.replicate (k - i) 0
theorem rowSo_step {s k i : Nat} (h : i < k) : (U64s (rowSo s k i)).set i (.int .u64 ((wordN (statesN s (i + 1)) : Nat) : Int)) = U64s (rowSo s k (i + 1)) := by
  unfold U64s rowSo
  rw [← List.map_set, show k - i = (k - (i + 1)) + 1 by omega, List.replicate_succ, List.set_append_right _ _ (by rw [wordsN_len]; omega), wordsN_len, Nat.sub_self, List.set_cons_zero]
  show List.map _ (wordsN s i ++ ([wordN (statesN s (i + 1))] ++ List.replicate (k - (i + 1)) 0)) = List.map _ ((wordsN s i ++ [wordN (statesN s (i + 1))]) ++ List.replicate (k - (i + 1)) 0)
  rw [List.append_assoc]
theorem rowSo_end (s k : Nat) : rowSo s k k = wordsN s k := by unfold rowSo; rw [Nat.sub_self]; simp
theorem drawMany_any (s : Nat) (n : Int) (w : World) (hs : s < M64) (n0 : -9223372036854775808 ≤ n) (n1 : n ≤ 9223372036854775807) :
    Calls Try.prog 12 #[.int .u64 (s : Int), .int .i64 n] w (WordsPost w (wordsN s (manyK n)) (statesN s (manyK n))) := by
  obtain ⟨i5, hi5, hz0, hz1, hz2⟩ := info_any info64
  by_cases hr : 0 ≤ n ∧ n ≤ 1000
  · obtain ⟨k, rfl⟩ : ∃ k : Nat, n = k := ⟨n.toNat, by omega⟩
    have hk : manyK k = k := by unfold manyK; rw [if_pos hr]; rfl
    have hk0 : k ≤ 1000 := by omega
    have b1 : decide ((k : Int) < 0) = false := by simp
    have b2 : decide ((1000 : Int) < (k : Int)) = false := by simp; omega
    rw [hk]
    obtain ⟨w2, hmk, hown, hgr⟩ := run_make_full (P := Try.prog) w w.heap.size 26 22 i5 _ 1 Try.underlying26 hi5 hz0 hz1 .i64 .i64 k (by rw [hz2]; omega) (by unfold maxLen; omega) (Nat.le_refl _)
    have hcs : (madeCells (Value.int .u64 0).cells (k * 1)).toList = U64s (rowSo s k 0) := by
      rw [show (Value.int .u64 0).cells = #[Value.int .u64 0] from rfl, toList_madeCells_one, Nat.mul_one]
      unfold U64s rowSo
      show _ = List.map _ ([] ++ List.replicate (k - 0) 0)
      rw [List.nil_append, List.map_replicate]; rfl
    rw [hcs] at hown
    have hbl : Below w.heap.size w w2 := (Below.refl _ _).grown hgr (Nat.le_refl _) (by simp)
    have HO := Lib.hid hown; have HB := Lib.hid hbl
    have HS := Lib.hid hs
    generalize hq : w.heap.size = q at *
    clear hk hr n0 n1 hcs hown hbl hs hgr hi5 hz0 hz1 hz2
    go_enter Try.func12, Try.ntmps12
    go_wp2
    clear hmk
    go_loopw [0, 6, 17] (fun sv xv iv wr => ∃ (i : Nat), sv = .int .u64 ((statesN s i : Nat) : Int) ∧ iv = .int .i64 (i : Int) ∧ i ≤ k ∧ Hid (wr.ownsRow q 22 1 (.slice (some ⟨q, 0, none⟩) k k) k (U64s (rowSo s k i))) ∧ Hid (Below q w wr)) (fun _ _ iv _ => k - (intOf iv).toNat)
    case atStart => exact ⟨0, rfl, rfl, by omega, HO.out, HB.out⟩
    case round =>
      obtain ⟨i, rfl, rfl, hi, hown, hbl⟩ := hrel
      by_cases hlt : i < k
      · have b1 : decide ((i : Int) < (k : Int)) = true := by simpa using hlt
        have hw := fun w => drawNext_any0 (statesN s i) w (statesN_lt HS.out i)
        rw [show nextN (statesN s i) = statesN s (i + 1) from rfl] at hw
        replace hw := Lib.hid hw
        have c1 := hown.out.cellAt i (by omega)
        have c2 := hown.out.frozenAt i
        obtain ⟨hown4, hgr4⟩ := hown.out.stored i (.int .u64 ((wordN (statesN s (i + 1)) : Nat) : Int))
        rw [rowSo_step hlt] at hown4
        have HO4 := Lib.hid hown4
        have HB4 := Lib.hid (show Below q w (wr.setCell ⟨q, i, none⟩ (.int .u64 ((wordN (statesN s (i + 1)) : Nat) : Int))) from hbl.out.setCell (by simp) _)
        have c3 : ∃ u : Int, (U64s (rowSo s k i))[i]? = some (.int .u64 u) := by
          unfold U64s rowSo
          rw [List.getElem?_map, List.getElem?_append_right (by rw [wordsN_len]; omega), wordsN_len, Nat.sub_self, List.getElem?_replicate, if_pos (by omega)]
          exact ⟨_, rfl⟩
        obtain ⟨u, c3⟩ := c3
        rw [c3] at c1
        clear hown hbl hown4 hgr4 c3
        generalize wordN (statesN s (i + 1)) = v at hw HO4 HB4
        go_wp2_with fail
        refine (hw.out _).mono ?_; rintro e w2 ⟨rfl, rfl⟩
        clear hw
        go_wp2
        go_roundw
        case rel => exact ⟨i + 1, rfl, by go_num, by omega, HO4.out, HB4.out⟩
        case measure => simp [intOf]; omega
      · obtain rfl : i = k := by omega
        have b1 : decide ((i : Int) < (i : Int)) = false := by simp
        have ho := hown.out
        rw [rowSo_end] at ho
        obtain ⟨A5, c5, he, hb5⟩ := Es.of_own ho (U64s_one _)
        injection he with e1 e2 e3; subst e1; subst e3
        have HR := Lib.hid hb5
        have HB := Lib.hid hbl.out
        clear hb5 hown hbl hlt ho
        go_wp2
        go_ret2
        exact ⟨_, _, _, rfl, HR.out, by rw [hq]; exact HB.out⟩
  · have hk : manyK n = 0 := by unfold manyK; rw [if_neg hr]
    rw [hk]
    have fin : WordsPost w (wordsN s 0) (statesN s 0) (.returned (.tuple #[.slice none 0 0, .int .u64 (s : Int)])) w := ⟨_, _, _, rfl, Es.nil _ _ _ _, Below.refl _ _⟩
    have HF := Lib.hid fin
    clear fin hk
    by_cases h0 : n < 0
    · have b1 : decide (n < 0) = true := by simpa using h0
      go_enter Try.func12, Try.ntmps12
      go_wp2
      go_ret2
      exact HF.out
    · have b1 : decide (n < 0) = false := by simpa using h0
      have b2 : decide (1000 < n) = true := by simp; omega
      go_enter Try.func12, Try.ntmps12
      go_wp2
      go_ret2
      exact HF.out
end Go.Proofs.Ytmjpemddndjcpaa
