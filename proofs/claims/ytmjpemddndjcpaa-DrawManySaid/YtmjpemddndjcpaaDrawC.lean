/- What the document's own calls of layer 6 answer; no condition. -/
import Derived.Test.YtmjpemddndjcpaaDrawB
import Derived.Test.YtmjpemddndjcpaaRealO
import Derived.Test.YtmjpemddndjcpaaE
namespace Go.Proofs.Ytmjpemddndjcpaa
set_option linter.unusedVariables false
set_option linter.unusedSimpArgs false
open Go.RowKit

/-- words as cells. -/
def U64s (ws : List Nat) : List Value := ws.map fun v : Nat => .int .u64 (v : Int)
theorem U64s_one (ws : List Nat) : ∀ u ∈ U64s ws, u.oneCell' = true := by
  intro u hu
  obtain ⟨v, _, rfl⟩ := List.mem_map.1 hu
  rfl
theorem U64s_app (a b : List Nat) : U64s (a ++ b) = U64s a ++ U64s b := List.map_append
theorem U64s_len (a : List Nat) : (U64s a).length = a.length := List.length_map _
/-- the slice '.slice A n c' reads as the words ws. -/
def Ws (w : World) (A : Option Addr) (n c : Nat) (ws : List Nat) : Prop := Es w A n c 1 (U64s ws)
theorem Ws.len {w : World} {A : Option Addr} {n c : Nat} {ws : List Nat} (h : Ws w A n c ws) : ws.length = n := by
  have := Es.len h; rw [U64s_len] at this; omega
theorem Ws.look {w : World} {A : Option Addr} {n c : Nat} {ws : List Nat} (h : Ws w A n c ws) (i : Nat) (hi : i < n) :
    ∃ b off x, A = some ⟨b, off, none⟩ ∧ b < w.heap.size ∧ w.cell? ⟨b, off + i, none⟩ = some (.int .u64 ((x : Nat) : Int)) ∧ ws.drop i = x :: ws.drop (i + 1) := by
  obtain ⟨b, off, e, hb, hc⟩ := Es.mem h (by omega)
  have hl : i < ws.length := by have := h.len; omega
  refine ⟨b, off, ws[i], e, hb, hc i _ ?_, drop_at hl⟩
  unfold U64s
  rw [List.getElem?_map, List.getElem?_eq_getElem hl]
  rfl
def WordsPost (w : World) (ws : List Nat) (s : Nat) (e : Ending) (w' : World) : Prop :=
  ∃ A n c, e = .returned (.tuple #[.slice A n c, .int .u64 (s : Int)]) ∧ Ws w' A n c ws ∧ Below w.heap.size w w'
theorem info64 : (Try.prog.info? 22).map (fun i => (i.zero, i.size, i.bytes)) = some (some (.int .u64 0), 1, 8) := by kernel_rfl
theorem info_any {P : Program} {t : TypeId} {z : Option Value} {k b : Nat} (h : (P.info? t).map (fun i => (i.zero, i.size, i.bytes)) = some (z, k, b)) : ∃ i, P.info? t = some i ∧ i.zero = z ∧ i.size = k ∧ i.bytes = b := by
  cases hi : P.info? t with
  | none => rw [hi] at h; cases h
  | some i =>
    rw [hi] at h
    simp only [Option.map_some, Option.some.injEq, Prod.mk.injEq] at h
    exact ⟨i, rfl, h.1, h.2.1, h.2.2⟩
theorem u64_shr_mix {k z : Nat} (hz : z < M64) : bits .xor .u64 (z : Int) ((z / 2 ^ k : Nat) : Int) = ((z ^^^ z / 2 ^ k : Nat) : Int) :=
  u64_xor_nat z (z / 2 ^ k) hz (Nat.lt_of_le_of_lt (Nat.div_le_self _ _) hz)
theorem wrap_u64' (n : Int) : IntKind.u64.wrap n = n % 18446744073709551616 := by simp [IntKind.wrap, IntKind.bits, IntKind.signed]
theorem refWord_any (z : Nat) (w : World) (hz : z < M64) :
    Calls Try.prog 25 #[.int .u64 (z : Int)] w fun e w' => e = .returned (.int .u64 (wordN z : Nat)) ∧ w = w' := by
  have a0 := mixA_lt z
  have b0 := mixB_lt (mixA z)
  have h1 : bits .xor .u64 (z : Int) ((z : Int) / 1073741824) = ((z ^^^ z / 2 ^ 30 : Nat) : Int) := by
    rw [show (z : Int) / 1073741824 = ((z / 2 ^ 30 : Nat) : Int) by omega]; exact u64_shr_mix hz
  have h2 : bits .xor .u64 (mixA z : Int) ((mixA z : Int) / 134217728) = ((mixA z ^^^ mixA z / 2 ^ 27 : Nat) : Int) := by
    rw [show (mixA z : Int) / 134217728 = ((mixA z / 2 ^ 27 : Nat) : Int) by omega]; exact u64_shr_mix a0
  have h3 : bits .xor .u64 (mixB (mixA z) : Int) ((mixB (mixA z) : Int) / 2147483648) = ((wordN z : Nat) : Int) := by
    rw [show (mixB (mixA z) : Int) / 2147483648 = ((mixB (mixA z) / 2 ^ 31 : Nat) : Int) by omega]; exact u64_shr_mix b0
  have e1 : IntKind.u64.wrap (((z ^^^ z / 2 ^ 30 : Nat) : Int) * 13787848793156543929) = (mixA z : Nat) := by rw [wrap_u64']; unfold mixA M64; omega
  have e2 : IntKind.u64.wrap (((mixA z ^^^ mixA z / 2 ^ 27 : Nat) : Int) * 10723151780598845931) = (mixB (mixA z) : Nat) := by
    rw [wrap_u64', show mixB (mixA z) = (mixA z ^^^ mixA z / 2 ^ 27) * 10723151780598845931 % M64 from rfl]; unfold M64; omega
  generalize z ^^^ z / 2 ^ 30 = p at *
  generalize mixA z ^^^ mixA z / 2 ^ 27 = q at *
  generalize mixB (mixA z) = b at *
  generalize mixA z = a at *
  generalize wordN z = r at *
  unfold M64 at *
  go_enter Try.func25, Try.ntmps25
  go_wp2
  go_ret
  exact ⟨rfl, rfl⟩
theorem refNext_any (s : Nat) (w : World) (hs : s < M64) :
    Calls Try.prog 11 #[.int .u64 (s : Int)] w fun e w' => e = .returned (.tuple #[.int .u64 (nextN s : Nat), .int .u64 (wordN (nextN s) : Nat)]) ∧ w = w' := by
  have hw := Lib.hid (fun w => refWord_any (nextN s) w (nextN_lt s))
  have e1 : IntKind.u64.wrap ((s : Int) + 11400714819323198485) = (nextN s : Nat) := by rw [wrap_u64']; unfold nextN M64; omega
  generalize wordN (nextN s) = v at *
  generalize nextN s = t at *
  go_enter Try.func11, Try.ntmps11
  go_wp2_with fail
  refine (hw.out _).mono ?_; rintro e w' ⟨rfl, rfl⟩
  go_wp2_with fail
  go_ret2
  exact ⟨rfl, rfl⟩
/-- how many words. -/
def manyK (n : Int) : Nat := if 0 ≤ n ∧ n ≤ 1000 then n.toNat else 0
theorem refMany_any (s : Nat) (n : Int) (w : World) (hs : s < M64) (n0 : -9223372036854775808 ≤ n) (n1 : n ≤ 9223372036854775807) :
    Calls Try.prog 13 #[.int .u64 (s : Int), .int .i64 n] w (WordsPost w (wordsN s (manyK n)) (statesN s (manyK n))) := by
  obtain ⟨i5, hi5, hz0, hz1, hz2⟩ := info_any info64
  have HI := Lib.hid hi5; have HZ0 := Lib.hid hz0; have HZ1 := Lib.hid hz1; have HZ2 := Lib.hid hz2
  clear hi5 hz0 hz1 hz2
  obtain ⟨k, hk⟩ : ∃ k, manyK n = k := ⟨_, rfl⟩
  rw [hk]
  have hk2 : k ≤ 1000 ∧ (∀ i : Nat, i ≤ k → ((i : Int) < n ∧ n ≤ 1000 ↔ i < k)) := by
    unfold manyK at hk
    split at hk
    · exact ⟨by omega, fun i hi => by omega⟩
    · subst hk; exact ⟨by omega, fun i hi => by omega⟩
  obtain ⟨hk0, hk1⟩ := hk2
  clear hk
  have HK := Lib.hid hk1; clear hk1
  have HS := Lib.hid hs; clear hs
  go_enter Try.func13, Try.ntmps13
  go_wp2
  go_loopw [0, 6, 7] (fun sv ov iv wr => ∃ (i : Nat), sv = .int .u64 ((statesN s i : Nat) : Int) ∧ iv = .int .i64 (i : Int) ∧ i ≤ k ∧ Hid (wr.ownsRow w.heap.size 22 1 ov i (U64s (wordsN s i))) ∧ Hid (Below w.heap.size w wr)) (fun _ _ iv _ => k - (intOf iv).toNat)
  case atStart => exact ⟨0, rfl, rfl, by omega, World.ownsRow_nil _ _ _ _, Below.refl _ _⟩
  case round =>
    obtain ⟨i, rfl, rfl, hi, hown, hbl⟩ := hrel
    have hki := HK.out i hi
    by_cases hlt : i < k
    · obtain ⟨c1, c2⟩ := hki.2 hlt
      have b1 : decide ((i : Int) < n) = true := decide_eq_true c1
      have b2 : decide (n ≤ 1000) = true := decide_eq_true c2
      have hw := fun w => refNext_any (statesN s i) w (statesN_lt HS.out i)
      rw [show nextN (statesN s i) = statesN s (i + 1) from rfl] at hw
      obtain ⟨A4, c4, w4, hap4, hown4, hbel4⟩ := eapp_lit (P := Try.prog) (ty := 26) Try.underlying26 HI.out HZ0.out HZ1.out HZ2.out rfl (by decide) hown.out (U64s_one _) (U64s [wordN (statesN s (i + 1))]) (U64s_one _) (m := 1) rfl (by unfold maxLen; omega) (by omega) hbl.out hbl.out.size
      rw [← U64s_app, show wordsN s i ++ [wordN (statesN s (i + 1))] = wordsN s (i + 1) from rfl] at hown4
      have HO4 := Lib.hid hown4; have HB4 := Lib.hid hbel4
      replace hw := Lib.hid hw
      replace hap4 : (Builtin.append_ #[26, 26] 26 #[_, .slice (some ⟨wr.heap.size, 0, none⟩) 1 1]).run Try.prog (wr.alloc (.cells #[.int .u64 ((wordN (statesN s (i + 1)) : Nat) : Int)] 22)) = _ := hap4
      clear hown hbl hown4 hbel4 hki c1 c2
      generalize wordN (statesN s (i + 1)) = v at hw hap4
      go_wp2_with fail
      refine (hw.out _).mono ?_; rintro e w' ⟨rfl, rfl⟩
      clear hw
      go_wp2_with (at_builtin; refine wpl_app_run rfl rfl rfl rfl hap4 ?_)
      clear hap4
      go_roundw
      case rel => exact ⟨i + 1, rfl, by go_num, by omega, HO4.out, HB4.out⟩
      case measure => simp [intOf]; omega
    · obtain rfl : i = k := by omega
      have hn := fun h => hlt (hki.1 h)
      obtain ⟨A5, c5, rfl, hb5⟩ := Es.of_own hown.out (U64s_one _)
      have HR := Lib.hid hb5
      have HB := Lib.hid hbl.out
      clear hb5 hown hbl hki
      have tl : ∀ (b1 b2 : Bool), decide ((i : Int) < n) = b1 → decide (n ≤ 1000) = b2 → (b1 && b2) = false := by
        intro b1 b2 e1 e2
        subst e1; subst e2
        simp only [Bool.and_eq_false_iff, decide_eq_false_iff_not]
        by_cases h : (i : Int) < n
        · exact Or.inr fun h2 => hn ⟨h, h2⟩
        · exact Or.inl h
      clear hn hlt
      cases b1 : decide ((i : Int) < n)
      · go_wp2
        go_ret2
        exact ⟨_, _, _, rfl, HR.out, HB.out⟩
      · have b2 : decide (n ≤ 1000) = false := by
          have := tl _ _ b1 rfl; simpa using this
        go_wp2
        go_ret2
        exact ⟨_, _, _, rfl, HR.out, HB.out⟩
set_option maxHeartbeats 1000000 in
theorem refWords_any (A : Option Addr) (n c : Nat) (xs : List Nat) (B : Option Addr) (m d : Nat) (ys : List Nat) (w : World) (hx : Ws w A n c xs) (hy : Ws w B m d ys) (hn : n ≤ 16384) :
    Calls Try.prog 14 #[.slice A n c, .slice B m d] w fun e w' => e = .returned (.bool (decide (xs = ys))) ∧ Below w.heap.size w w' := by
  have HX := Lib.hid hx; have HY := Lib.hid hy
  obtain ⟨R, hR⟩ : ∃ R, decide (xs = ys) = R := ⟨_, rfl⟩
  rw [hR]
  have HR := Lib.hid hR
  clear hx hy hR
  by_cases hl : n = m
  · subst hl
    go_enter Try.func14, Try.ntmps14
    go_wp2
    go_loopw [5] (fun iv wr => ∃ (i : Nat), i ≤ n ∧ iv = .int .i64 (i : Int) ∧ Below w.heap.size w wr ∧ Hid (xs.take i = ys.take i)) (fun iv _ => n - (intOf iv).toNat)
    case atStart => exact ⟨0, by omega, rfl, Below.refl _ _, by simp [Hid]⟩
    case round =>
      obtain ⟨i, hi, rfl, hbl, hd⟩ := hrel
      have HBl := Lib.hid hbl; have HD := Lib.hid hd
      clear hbl hd
      by_cases hlt : i < n
      · have hd1 : decide ((i : Int) < (n : Int)) = true := by simpa using hlt
        obtain ⟨b, off, s, rfl, hb0, hc0, hdr⟩ := HX.out.look i hlt
        obtain ⟨b', off', s', rfl, hb0', hc0', hdr'⟩ := HY.out.look i hlt
        have h0 := (HBl.out.cell (p := ⟨_, _, none⟩) hb0).trans hc0
        have h0' := (HBl.out.cell (p := ⟨_, _, none⟩) hb0').trans hc0'
        have HDr := Lib.hid hdr; have HDr' := Lib.hid hdr'
        have hib1 : (0 : Int) ≤ (i : Int) := by omega
        have hib2 : (i : Int) < (n : Int) := by omega
        clear hb0 hc0 hdr hb0' hc0' hdr'
        have hfin : ∀ nq, Below w.heap.size w (wr.drewN nq) := fun nq => ⟨HBl.out.os, HBl.out.tape, HBl.out.output, HBl.out.size, HBl.out.block⟩
        have HF := Lib.hid hfin
        clear hfin
        by_cases ht : s = s'
        · subst ht
          have hne : ((s : Int) != (s : Int)) = false := by simp
          have HE := Lib.hid (show xs.take (i + 1) = ys.take (i + 1) by rw [take_step HDr.out, take_step HDr'.out, HD.out.out])
          go_wp2
          go_quiet (fail)
          go_wp2
          go_roundw
          case rel => exact ⟨i + 1, by omega, by go_num, HF.out _, HE.out⟩
          case measure => simp [intOf]; omega
        · have hne : ((s : Int) != (s' : Int)) = true := by simp; omega
          have HE := Lib.hid (show R = false by rw [← HR.out]; simp only [decide_eq_false_iff_not]; exact unlike_at HDr.out HDr'.out ht)
          clear ht
          go_wp2
          go_quiet (fail)
          go_wp2
          go_ret
          rw [HE.out]
          exact ⟨rfl, HF.out _⟩
      · obtain rfl : i = n := by omega
        have hd1 : decide ((i : Int) < (i : Int)) = false := by simp
        have HE := Lib.hid (show R = true by
          rw [← HR.out]
          have h1 := HX.out.len; have h2 := HY.out.len
          have h3 := HD.out.out
          rw [List.take_of_length_le (by omega), List.take_of_length_le (by omega)] at h3
          exact decide_eq_true h3)
        go_wp2
        go_ret
        rw [HE.out]
        exact ⟨rfl, HBl.out⟩
  · have HE := Lib.hid (show R = false by
      rw [← HR.out]
      have h1 := HX.out.len; have h2 := HY.out.len
      exact decide_eq_false fun h => hl (by rw [← h1, ← h2, h]))
    have hne : ((n : Int) != (m : Int)) = true := by simp; omega
    go_enter Try.func14, Try.ntmps14
    go_wp2
    go_ret
    rw [HE.out]
    exact ⟨rfl, Below.refl _ _⟩
/-- what is drawn below any number. -/
def belowI (w : Nat) (n : Int) : Nat := if n < 1 then 0 else belowN w n.toNat
theorem refBelow_any (x : Nat) (n : Int) (w : World) (hx : x < M64) (n1 : n ≤ 9223372036854775807) :
    Calls Try.prog 16 #[.int .u64 (x : Int), .int .i64 n] w fun e w' => e = .returned (.int .i64 (belowI x n : Nat)) ∧ w = w' := by
  by_cases h : n < 1
  · have b1 : decide (n < 1) = true := by simpa using h
    have R := Lib.hid (show belowI x n = 0 by unfold belowI; rw [if_pos h])
    clear h
    go_enter Try.func16, Try.ntmps16
    go_wp2
    go_ret
    rw [R.out]
    exact ⟨rfl, rfl⟩
  · have b1 : decide (n < 1) = false := by simpa using h
    obtain ⟨k, rfl⟩ : ∃ k : Nat, n = k := ⟨n.toNat, by omega⟩
    obtain ⟨l1, l2, l3⟩ := below_halves hx (show k < 9223372036854775808 by omega)
    have hlt : belowN x k < k := below_lt hx (by omega)
    have R := Lib.hid (show belowI x k = belowN x k by unfold belowI; rw [if_neg h, Int.toNat_natCast])
    rw [← l3] at hlt R
    have e1 : (x : Int) / 4294967296 = ((x / 4294967296 : Nat) : Int) := by omega
    have e2 : (x : Int) % 4294967296 = ((x % 4294967296 : Nat) : Int) := by omega
    have e3 : (k : Int) / 4294967296 = ((k / 4294967296 : Nat) : Int) := by omega
    have e4 : (k : Int) % 4294967296 = ((k % 4294967296 : Nat) : Int) := by omega
    have ha : x / 4294967296 ≤ 4294967295 := by unfold M64 at hx; omega
    have hb : x % 4294967296 ≤ 4294967295 := by omega
    have hc : k / 4294967296 ≤ 2147483647 := by omega
    have hd : k % 4294967296 ≤ 4294967295 := by omega
    have R2 := R.out
    clear R hx h
    generalize x / 4294967296 = a at *
    generalize x % 4294967296 = b at *
    generalize k / 4294967296 = c at *
    generalize k % 4294967296 = d at *
    have p1 : a * d ≤ 4294967295 * 4294967295 := Nat.mul_le_mul ha hd
    have p2 : b * d ≤ 4294967295 * 4294967295 := Nat.mul_le_mul hb hd
    have p3 : b * c ≤ 4294967295 * 2147483647 := Nat.mul_le_mul hb hc
    have p4 : a * c ≤ 4294967295 * 2147483647 := Nat.mul_le_mul ha hc
    have q1 : (a : Int) * (d : Int) = ((a * d : Nat) : Int) := by rw [Int.natCast_mul]
    have q2 : (b : Int) * (d : Int) = ((b * d : Nat) : Int) := by rw [Int.natCast_mul]
    have q3 : (b : Int) * (c : Int) = ((b * c : Nat) : Int) := by rw [Int.natCast_mul]
    have q4 : (a : Int) * (c : Int) = ((a * c : Nat) : Int) := by rw [Int.natCast_mul]
    generalize a * d = P at *
    generalize b * d = U at *
    generalize b * c = Q at *
    generalize a * c = T at *
    unfold M64 at l1 l2
    rw [R2]
    clear R2 l3 ha hb hc hd
    generalize belowN x k = z at *
    go_enter Try.func16, Try.ntmps16
    go_wp2
    go_ret
    refine ⟨?_, rfl⟩
    refine ret_i64i (b := ((T + (P + U / 4294967296) / 4294967296 + ((P + U / 4294967296) % 4294967296 + Q) / 4294967296 : Nat) : Int)) ?_
    omega
theorem refUnit_any (x : Nat) (w : World) (hx : x < M64) :
    Calls Try.prog 18 #[.int .u64 (x : Int)] w fun e w' => e = .returned (.int .u64 (unitN x : Nat)) ∧ Below w.heap.size w w' := by
  have hu : x / 2048 < 9007199254740992 := by unfold M64 at hx; omega
  have hx2 : x < 18446744073709551616 := hx
  have F := fun w => refFromInt_any ((x / 2048 : Nat) : Int) w (by omega) (by omega)
  by_cases h0 : x / 2048 = 0
  · have R := Lib.hid (show unitN x = 0 by unfold unitN; rw [if_pos h0])
    rw [h0, show fromS ((0 : Nat) : Int) = 0 from fromS_zero] at F
    have e1 : (x : Int) / 2048 = 0 := by omega
    replace F := Lib.hid F
    clear h0
    go_enter Try.func18, Try.ntmps18
    go_wp2_with fail
    refine (F.out _).mono ?_; rintro e w' ⟨rfl, hb⟩
    go_wp2_with fail
    go_ret
    rw [R.out]
    exact ⟨rfl, hb⟩
  · have hr := rungI_lt (u := x / 2048) (by omega) (by omega)
    obtain ⟨m, m1, m2, hl, hrm, _⟩ := rungI_parts (u := x / 2048) (by omega) hu
    have hlo : 238690780250636288 ≤ rungI (x / 2048) := by omega
    have R := Lib.hid (show unitN x = rungI (x / 2048) - 238690780250636288 by unfold unitN; rw [if_neg h0])
    rw [fromS_pos (by omega), Int.natAbs_natCast] at F
    have e1 : (x : Int) / 2048 = ((x / 2048 : Nat) : Int) := by omega
    clear h0 hrm m1 m2 hl
    generalize rungI (x / 2048) = r at *
    generalize x / 2048 = u at *
    have e2 : ((r : Int) == 0) = false := by simp; omega
    replace F := Lib.hid F
    go_enter Try.func18, Try.ntmps18
    go_wp2_with fail
    refine (F.out _).mono ?_; rintro e w' ⟨rfl, hb⟩
    go_wp2_with fail
    go_ret
    rw [R.out]
    refine ⟨?_, hb⟩
    go_num
theorem refChance_any (x p : Nat) (w : World) (hx : x < M64) (hp : p < M64) :
    Calls Try.prog 20 #[.int .u64 (x : Int), .int .u64 (p : Int)] w fun e w' => e = .returned (.bool (lessN (unitN x) p)) ∧ Below w.heap.size w w' := by
  have U := Lib.hid (fun w => refUnit_any x w hx)
  have L := fun w => refLess_any (unitN x) p w (Nat.lt_trans (unit_bounds hx) (by decide)) hp
  generalize lessN (unitN x) p = b at *
  generalize unitN x = u at *
  replace L := Lib.hid L
  go_enter Try.func20, Try.ntmps20
  go_wp2_with fail
  refine (U.out _).mono ?_; rintro e w' ⟨rfl, hb⟩
  go_wp2_with fail
  refine (L.out _).mono ?_; rintro e w' ⟨rfl, rfl⟩
  go_wp2_with fail
  go_ret
  exact ⟨rfl, hb⟩
end Go.Proofs.Ytmjpemddndjcpaa
