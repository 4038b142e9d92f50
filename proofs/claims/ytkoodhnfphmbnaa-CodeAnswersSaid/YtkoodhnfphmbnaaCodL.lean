/- What slices.Concat of two, and the landed code's own put, written and Append answer; for bytes up to 4096, and programs of up to 16384 of each. -/
import Derived.Test.YtkoodhnfphmbnaaCodK
import Derived.Test.YtkoodhnfphmbnaaCodE
import Derived.LoopTactic
import Derived.Lib.AppendZerosOnto
import Derived.Lib.AppendZeros
namespace Go.Proofs.Ytkoodhnfphmbnaa
set_option linter.unusedVariables false
set_option linter.unusedSimpArgs false
open Go.RowKit
/-- a row of the call's own as the answer. -/
def OwnPost (w : World) (bs : List Int) (e : Ending) (w' : World) : Prop :=
  ∃ v n, e = .returned v ∧ w'.ownsRow w.heap.size 5 1 v n (bs.map (Value.int .u8)) ∧ Below w.heap.size w w'
theorem grow_nil (n : Nat) (hn : n ≤ 65536) (w : World) :
    Calls Try.prog 41 #[.slice none 0 0, .int .i64 n] w (OwnPost w []) := by
  rcases Nat.eq_zero_or_pos n with h0 | h0
  · subst h0
    go_enter Try.func41, Try.ntmps41
    go_wp2
    go_ret
    exact ⟨_, 0, rfl, World.ownsRow_nil _ _ _ _, Below.refl _ _⟩
  · obtain ⟨i5, hi5, hz0, hz1, hz2⟩ := info_parts infoByte
    have hap := Lib.run_append_grow_zeros (P := Try.prog) w 28 3 28 5 i5 _ .i64 .i64 Try.underlying28 Try.underlying3 hi5 hz0 none 0 0 [] (run_firstCells_none w.drew i5.size 0 0 0) n h0 (by omega) (by omega) (by omega) (by rw [hz2]; omega)
      (by refine growslice_fits (by omega) ?_; rw [hz2]; omega)
    obtain ⟨G, hG⟩ : ∃ G, grownCap w (0 + n) 0 5 = G := ⟨_, rfl⟩
    have hGn : 0 + n ≤ G := by rw [← hG]; exact grownCap_ge w _ _ _
    have hGm : G ≤ maxLen := by rw [← hG]; exact grownCap_le_maxLen w _ _ _ (by unfold maxLen; omega)
    rw [hG] at hap
    have hown : (w.drew.alloc (.cells (([] : List Value).toArray ++ Builtin.zeroCells (Value.int .u8 0).cells n ++ Builtin.zeroCells (Value.int .u8 0).cells (G - (0 + n))) 5)).ownsRow w.drew.heap.size 5 1 (.slice (some ⟨w.drew.heap.size, 0, none⟩) 0 G) 0 [] :=
      World.ownsRow_made w.drew _ G (Nat.le_refl _) hGm (by simp [size_zeroCells, Value.cells]; omega)
    have hbel : Below w.heap.size w (w.drew.alloc (.cells (([] : List Value).toArray ++ Builtin.zeroCells (Value.int .u8 0).cells n ++ Builtin.zeroCells (Value.int .u8 0).cells (G - (0 + n))) 5)) := (Below.refl _ _).drew.alloc (Nat.le_refl _) _
    generalize w.drew.alloc (.cells (([] : List Value).toArray ++ Builtin.zeroCells (Value.int .u8 0).cells n ++ Builtin.zeroCells (Value.int .u8 0).cells (G - (0 + n))) 5) = w1 at *
    have HO := Lib.hid hown; have HB := Lib.hid hbel; have HG := Lib.hid hGn; have HGM := Lib.hid hGm
    have hg63 : (G : Int) ≤ 9223372036854775807 := by unfold maxLen at hGm; omega
    clear hown hbel hG hi5 hz0 hz1 hz2 hGn hGm
    go_enter Try.func41, Try.ntmps41
    go_wp2_with (at_builtin; refine Lib.wpList_append_run _ rfl _ _ _ _ rfl _ _ rfl rfl _ _ hap ?_)
    go_ret
    exact ⟨_, 0, rfl, HO.out, HB.out⟩
theorem concat_own (g : Nat) (A1 A2 : Option Addr) (n1 c1 n2 c2 : Nat) (xs ys : List Int) (w : World) (h : w.heap[g]? = some (.cells #[.slice A1 n1 c1, .slice A2 n2 c2] 28)) (h1 : Bs w A1 n1 c1 xs) (h2 : Bs w A2 n2 c2 ys) (hn : n1 + n2 ≤ 32768) :
    Calls Try.prog 19 #[.slice (some ⟨g, 0, none⟩) 2 2] w (BytesOwn w (xs ++ ys)) := by
  have p0 := (blk_cell h 0).trans rfl; have p1 := (blk_cell h 1).trans rfl
  have HG := Lib.hid (blk_lt h); have P0 := Lib.hid p0; have P1 := Lib.hid p1
  have H1 := Lib.hid h1; have H2 := Lib.hid h2
  have hb1 := Lib.hid h1.byte; have hb2 := Lib.hid h2.byte
  clear h h1 h2
  go_enter Try.func19, Try.ntmps19
  go_wp2
  go_loop [3, 11] (fun x iv => (iv = .int .i64 0 ∧ x = .int .i64 0) ∨ (iv = .int .i64 1 ∧ x = .int .i64 (n1 : Int)) ∨ (iv = .int .i64 2 ∧ x = .int .i64 ((n1 : Int) + (n2 : Int)))) (fun _ iv => 2 - (intOf iv).toNat)
  case atStart => exact Or.inl ⟨rfl, rfl⟩
  case round =>
    rcases hrel with ⟨rfl, rfl⟩ | ⟨rfl, rfl⟩ | ⟨rfl, rfl⟩
    · go_wp2
      go_round
      case rel => exact Or.inr (Or.inl ⟨rfl, by go_num⟩)
      case measure => simp [intOf]
    · go_wp2
      go_round
      case rel => exact Or.inr (Or.inr ⟨rfl, by go_num⟩)
      case measure => simp [intOf]
    · clear p0 p1
      obtain ⟨m, hm⟩ : ∃ m : Nat, (n1 : Int) + (n2 : Int) = (m : Int) := ⟨n1 + n2, by omega⟩
      rw [hm]
      have hm2 : m ≤ 65536 := by omega
      go_wp2_with fail
      refine (grow_nil m hm2 w).mono ?_; rintro e w1 ⟨v, nv, rfl, hown, hbel⟩
      have HO := Lib.hid hown; have HB := Lib.hid hbel
      clear hown hbel
      go_wp2
      go_loopw [6, 27] (fun v i wr => ∃ (k : Nat) (zs : List Int), ((i = .int .i64 0 ∧ zs = [] ∧ k = 0) ∨ (i = .int .i64 1 ∧ zs = xs ∧ k = n1) ∨ (i = .int .i64 2 ∧ zs = xs ++ ys ∧ k = n1 + n2)) ∧ wr.ownsRow w.heap.size 5 1 v k (zs.map (Value.int .u8)) ∧ Below w.heap.size w wr) (fun _ i _ => 2 - (intOf i).toNat)
      case atStart =>
        have h0 := HO.out.1
        simp at h0
        exact ⟨0, [], Or.inl ⟨rfl, rfl, rfl⟩, by rw [h0]; exact HO.out, HB.out⟩
      case round =>
        obtain ⟨k, zs, hcase, hown, hbel⟩ := hrel
        obtain ⟨i5, hi5, hz0, hz1, hz2⟩ := info_parts infoByte
        rcases hcase with ⟨rfl, rfl, rfl⟩ | ⟨rfl, rfl, rfl⟩ | ⟨rfl, rfl, rfl⟩
        · obtain ⟨v', w', hap, hown', hgr, hbase⟩ := app_own (P := Try.prog) wr w.heap.size 28 28 5 i5 _ Try.underlying28 hi5 hz0 hz1 hz2 rfl _ 0 [] hown A1 n1 c1 xs (H1.out.below hbel) (by omega) hbel.size
          have HO' := Lib.hid hown'; have HB' := Lib.hid (hbel.grown hgr hbel.size fun k hk => (hown.lt k hk).1)
          have q0 := (hbel.cell (p := ⟨g, 0, none⟩) HG.out).trans P0.out
          clear hown hbel hown' hgr hbase hi5 hz0 hz1 hz2
          go_wp2_with (at_builtin; refine wpl_app_run rfl rfl rfl rfl hap ?_)
          clear hap
          go_roundw
          case rel => exact ⟨n1, xs, Or.inr (Or.inl ⟨rfl, rfl, rfl⟩), by have := HO'.out; rw [Nat.zero_add, List.nil_append] at this; exact this, HB'.out⟩
          case measure => simp [intOf]
        · obtain ⟨v', w', hap, hown', hgr, hbase⟩ := app_own (P := Try.prog) wr w.heap.size 28 28 5 i5 _ Try.underlying28 hi5 hz0 hz1 hz2 rfl _ _ _ hown A2 n2 c2 ys (H2.out.below hbel) (by omega) hbel.size
          have HO' := Lib.hid hown'; have HB' := Lib.hid (hbel.grown hgr hbel.size fun k hk => (hown.lt k hk).1)
          have q1 := (hbel.cell (p := ⟨g, 1, none⟩) HG.out).trans P1.out
          clear hown hbel hown' hgr hbase hi5 hz0 hz1 hz2
          go_wp2_with (at_builtin; refine wpl_app_run rfl rfl rfl rfl hap ?_)
          clear hap
          go_roundw
          case rel => exact ⟨_, _, Or.inr (Or.inr ⟨rfl, rfl, rfl⟩), HO'.out, HB'.out⟩
          case measure => simp [intOf]
        · have hby : ∀ b ∈ xs ++ ys, 0 ≤ b ∧ b ≤ 255 := by
            intro b hb
            rcases List.mem_append.1 hb with h | h
            · exact hb1.out b h
            · exact hb2.out b h
          obtain ⟨A3, c3, rfl, hbs⟩ := Bs.of_own hown hby
          have hk0 := hown.1; rw [List.length_map, Nat.mul_one] at hk0; have hk1 := hbs.len
          have HOW := Lib.hid hown
          have HBS := Lib.hid hbs; have HB' := Lib.hid hbel
          clear hown hbel hby hbs hi5 hz0 hz1 hz2
          go_wp2
          go_ret
          exact ⟨_, _, _, rfl, HOW.out, HBS.out, HB'.out⟩
theorem bytesN_ten : ∀ (l : List Int), (∀ y ∈ l, B64 y) → (bytesN l).length ≤ 10 * l.length
  | [], _ => by simp [bytesN]
  | y :: l, h => by
    have h1 := vs_le10 (zig y).toNat (zig_nat (h y (by simp))).2
    have h2 := bytesN_ten l (fun z hz => h z (by simp [hz]))
    simp only [bytesN, List.length_append, vb_len, List.length_cons]
    omega
set_option maxRecDepth 100000 in
set_option maxHeartbeats 4000000 in
theorem put13_any (A : Option Addr) (n c : Nat) (bs : List Int) (B : Option Addr) (m d : Nat) (xs : List Int) (w : World) (hb : Bs w A n c bs) (hx : Is w B m d xs) (hn : n + 10 * m ≤ 16384) (h64 : ∀ y ∈ xs, B64 y) :
    Calls Try.prog 42 #[.slice A n c, .slice B m d] w (BytesOnly w (bs ++ bytesN xs)) := by
  have hlx : xs.length = m := hx.len
  have HLX := Lib.hid hlx
  have HX := Lib.hid hx; have HB := Lib.hid hb; have H64 := Lib.hid h64; have HNM := Lib.hid hn
  have hm63 : (m : Int) ≤ 9223372036854775807 := by omega
  clear hx hb h64 hn hlx
  go_enter Try.func42, Try.ntmps42
  go_wp2
  go_loopw [0, 9] (fun bv iv wr => ∃ (i n' c' : Nat) (A' : Option Addr), bv = .slice A' n' c' ∧ iv = .int .i64 (i : Int) ∧ i ≤ m ∧ Hid (n' ≤ n + 10 * i) ∧ Hid (Bs wr A' n' c' (bs ++ bytesN (xs.take i))) ∧ Hid (Below w.heap.size w wr)) (fun _ iv _ => m - (intOf iv).toNat)
  case atStart => exact ⟨0, n, c, A, rfl, rfl, by omega, Lib.hid (by omega), Lib.hid (by simpa [bytesN] using HB.out), Lib.hid (Below.refl _ _)⟩
  case round =>
    obtain ⟨i, n', c', A', rfl, rfl, hi, HN, HBS, HBL⟩ := hrel
    by_cases hlt : i < m
    · have c1 : decide ((i : Int) < (m : Int)) = true := by simpa using hlt
      have c1n : decide (i < m) = true := by simpa using hlt
      have i0 : (0 : Int) ≤ (i : Int) := by omega
      have i1 : (i : Int) < (m : Int) := by omega
      obtain ⟨lb, loff, y, rfl, hlb, hlc, hdr⟩ := Is.look (xs := xs) (Es.below HX.out (HBL.out : Below w.heap.size w wr)) i hlt
      have hy := H64.out y (mem_at hdr)
      have htk := take_step hdr
      have HA := Lib.hid (show (bs ++ bytesN (xs.take i)) ++ vb (zig y).toNat = bs ++ bytesN (xs.take (i + 1)) by rw [htk, bytesN_snoc, List.append_assoc])
      have hv10 := vs_le10 (zig y).toNat (zig_nat hy).2
      have AI := Lib.hid (appendInt_any A' n' c' _ y wr HBS.out (by have := HN.out; have := HNM.out; omega) hy.1 hy.2)
      have HLT := Lib.hid hlt
      clear hdr htk hlt hlb
      go_wp2_with fail
      refine AI.out.mono ?_
      rintro e w2 ⟨A2, n2, c2, rfl, hb2, hbel⟩
      have hl1 := HBS.out.len; have hl2 := hb2.len
      rw [List.length_append, vb_len, hl1] at hl2
      have HN2 := Lib.hid (show n2 ≤ n + 10 * (i + 1) by have := HN.out; omega)
      replace HBL := Lib.hid (HBL.out.trans (hbel.mono HBL.out.size))
      rw [HA.out] at hb2
      have HB2 := Lib.hid hb2
      clear hl1 hl2 hv10 hy hb2 hbel AI HA HN HBS
      go_wp2
      go_roundw
      case rel => exact ⟨i + 1, n2, c2, A2, rfl, by go_num, by have := HLT.out; omega, HN2, HB2, HBL⟩
      case measure => have := HLT.out; simp [intOf]; omega
    · have en : i = m := by omega
      have c1 : decide ((i : Int) < (m : Int)) = false := by simp; omega
      have c1n : decide (i < m) = false := by simp; omega
      have HB2 := Lib.hid (show Bs wr A' n' c' (bs ++ bytesN xs) by have h := HBS.out; rwa [en, ← HLX.out, List.take_length] at h)
      clear en hlt hi HBS
      go_wp2
      go_ret
      exact ⟨_, _, _, rfl, HB2.out, HBL.out⟩
/-- numbers that are laid right ahead of the call. -/
theorem put_lit (A : Option Addr) (n c : Nat) (bs : List Int) (xs : List Int) (m : Nat) (hm : m = xs.length) (W : World) (g : Nat) (hg : W.heap.size = g) (hb : Bs W A n c bs) (hn : n + 10 * m ≤ 16384) (h64 : ∀ y ∈ xs, B64 y) :
    Calls Try.prog 42 #[.slice A n c, .slice (some ⟨g, 0, none⟩) m m] (W.alloc (.cells (intC xs).toArray 3)) (fun e w' => ∃ A2 n2 c2, e = .returned (.slice A2 n2 c2) ∧ Hid (n2 ≤ n + 10 * m) ∧ Hid (Bs w' A2 n2 c2 (bs ++ bytesN xs)) ∧ Below W.heap.size W w') := by
  subst hg
  have hlb := hb.len
  refine (put13_any A n c bs _ m m xs _ (hb.below ((Below.refl _ _).alloc (Nat.le_refl _) _)) (is_lit W xs hm) hn h64).mono ?_
  rintro e w' ⟨A2, n2, c2, rfl, h1, h2⟩
  have hl := h1.len
  have h3 := bytesN_ten xs h64
  rw [List.length_append, hlb] at hl
  exact ⟨A2, n2, c2, rfl, Lib.hid (by omega), Lib.hid h1, ((Below.refl _ _).alloc (Nat.le_refl _) _).trans (h2.mono (by simp))⟩
theorem put_lit1 (A : Option Addr) (n c : Nat) (bs : List Int) (x0 : Int) (W : World) (g : Nat) (hg : W.heap.size = g) (hb : Bs W A n c bs) (hn : n + 10 * 1 ≤ 16384) (h64 : ∀ y ∈ [x0], B64 y) :
    Calls Try.prog 42 #[.slice A n c, .slice (some ⟨g, 0, none⟩) 1 1] (W.alloc (.cells #[.int .i64 x0] 3)) (fun e w' => ∃ A2 n2 c2, e = .returned (.slice A2 n2 c2) ∧ Hid (n2 ≤ n + 10 * 1) ∧ Hid (Bs w' A2 n2 c2 (bs ++ bytesN [x0])) ∧ Below W.heap.size W w') := put_lit A n c bs [x0] 1 rfl W g hg hb hn h64
theorem put_lit2 (A : Option Addr) (n c : Nat) (bs : List Int) (x0 x1 : Int) (W : World) (g : Nat) (hg : W.heap.size = g) (hb : Bs W A n c bs) (hn : n + 10 * 2 ≤ 16384) (h64 : ∀ y ∈ [x0, x1], B64 y) :
    Calls Try.prog 42 #[.slice A n c, .slice (some ⟨g, 0, none⟩) 2 2] (W.alloc (.cells #[.int .i64 x0, .int .i64 x1] 3)) (fun e w' => ∃ A2 n2 c2, e = .returned (.slice A2 n2 c2) ∧ Hid (n2 ≤ n + 10 * 2) ∧ Hid (Bs w' A2 n2 c2 (bs ++ bytesN [x0, x1])) ∧ Below W.heap.size W w') := put_lit A n c bs [x0, x1] 2 rfl W g hg hb hn h64
theorem put_lit3 (A : Option Addr) (n c : Nat) (bs : List Int) (x0 x1 x2 : Int) (W : World) (g : Nat) (hg : W.heap.size = g) (hb : Bs W A n c bs) (hn : n + 10 * 3 ≤ 16384) (h64 : ∀ y ∈ [x0, x1, x2], B64 y) :
    Calls Try.prog 42 #[.slice A n c, .slice (some ⟨g, 0, none⟩) 3 3] (W.alloc (.cells #[.int .i64 x0, .int .i64 x1, .int .i64 x2] 3)) (fun e w' => ∃ A2 n2 c2, e = .returned (.slice A2 n2 c2) ∧ Hid (n2 ≤ n + 10 * 3) ∧ Hid (Bs w' A2 n2 c2 (bs ++ bytesN [x0, x1, x2])) ∧ Below W.heap.size W w') := put_lit A n c bs [x0, x1, x2] 3 rfl W g hg hb hn h64
theorem put_lit4 (A : Option Addr) (n c : Nat) (bs : List Int) (x0 x1 x2 x3 : Int) (W : World) (g : Nat) (hg : W.heap.size = g) (hb : Bs W A n c bs) (hn : n + 10 * 4 ≤ 16384) (h64 : ∀ y ∈ [x0, x1, x2, x3], B64 y) :
    Calls Try.prog 42 #[.slice A n c, .slice (some ⟨g, 0, none⟩) 4 4] (W.alloc (.cells #[.int .i64 x0, .int .i64 x1, .int .i64 x2, .int .i64 x3] 3)) (fun e w' => ∃ A2 n2 c2, e = .returned (.slice A2 n2 c2) ∧ Hid (n2 ≤ n + 10 * 4) ∧ Hid (Bs w' A2 n2 c2 (bs ++ bytesN [x0, x1, x2, x3])) ∧ Below W.heap.size W w') := put_lit A n c bs [x0, x1, x2, x3] 4 rfl W g hg hb hn h64
theorem bytesN_pre (a b : List Int) : bytesN a ++ bytesN b = bytesN (a ++ b) := (bytesN_app a b).symm
theorem nums_parts (p : Pg) : numsP p = (([(p.code.length : Int)] ++ codeN p.code) ++ ([(p.kinds.length : Int)] ++ objsN p.kinds p.sizes)) ++ [p.cells, p.recs, p.pat] := by
  rw [nums_eq]; simp only [List.append_assoc]
set_option maxRecDepth 100000 in
set_option maxHeartbeats 16000000 in
theorem written13_any (A : Option Addr) (n c : Nat) (B : Option Addr) (m d : Nat) (C : Option Addr) (k f : Nat) (co : List I4) (ki si : List Int) (ce re pa : Int) (w : World) (hx : I4s w A n c co) (hy : Is w B m d ki) (hz : Is w C k f si) (hn : n ≤ 16384) (hm : m ≤ 16384) (hk : k ≤ 16384) (hr : RightPg ⟨co, ki, si, ce, re, pa⟩) (hpb : PB ⟨co, ki, si, ce, re, pa⟩) :
    Calls Try.prog 20 #[.agg #[.slice A n c, .slice B m d, .slice C k f, .int .i64 ce, .int .i64 re, .int .i64 pa]] w (BytesOnly w (bytesN (numsP ⟨co, ki, si, ce, re, pa⟩))) := by
  have HLN := Lib.hid (show co.length = n from hx.len); have HLM := Lib.hid (show ki.length = m from hy.len); have HLK := Lib.hid (show si.length = k from hz.len)
  have RX := Lib.hid hx; have RY := Lib.hid hy; have RZ := Lib.hid hz
  have HT := Lib.hid (show n ≤ 60 ∧ m ≤ 8 ∧ k = m by have h1 := hr.n60; have h2 := hr.k8; have h3 := hr.ks; simp only at h1 h2 h3; have := HLN.out; have := HLM.out; have := HLK.out; omega)
  obtain ⟨g1, g2, g3, g4, g5⟩ := nums_b64 hr hpb
  have HPC := Lib.hid hpb.code; have HPK := Lib.hid hpb.kinds; have HPS := Lib.hid hpb.sizes
  have G5 := Lib.hid g5
  have HNE := Lib.hid (nums_parts ⟨co, ki, si, ce, re, pa⟩)
  clear hx hy hz hr hpb g1 g2 g3 g4 g5 hn hm hk
  obtain ⟨v1, hv1⟩ : ∃ W, w.alloc (.cells #[.slice A n c, .slice B m d, .slice C k f, .int .i64 ce, .int .i64 re, .int .i64 pa] 25) = W := ⟨_, rfl⟩
  have fr1 : Fr w v1 w.heap.size [.cells #[.slice A n c, .slice B m d, .slice C k f, .int .i64 ce, .int .i64 re, .int .i64 pa] 25] := hv1 ▸ Fr.first w _
  have z1 : v1.heap.size = w.heap.size + 1 := by rw [← hv1, Fr.size1]
  generalize hq : w.heap.size = q at *
  have FR := Lib.hid fr1
  clear fr1
  have b1 : ∀ y ∈ [(n : Int)], B64 y := by intro y hy; simp at hy; subst hy; exact b64_small (by have := HT.out; omega)
  have b2 : ∀ y ∈ [(m : Int)], B64 y := by intro y hy; simp at hy; subst hy; exact b64_small (by have := HT.out; omega)
  have B1 := Lib.hid b1; have B2 := Lib.hid b2
  clear b1 b2
  have P1 := Lib.hid (put_lit1 none 0 0 [] (n : Int) v1 _ z1 (Bs.nil _ _ _) (by omega) B1.out)
  have hm63 : (m : Int) ≤ 9223372036854775807 := by have := HT.out; omega
  have hn63 : (n : Int) ≤ 9223372036854775807 := by have := HT.out; omega
  go_enter Try.func20, Try.ntmps20
  have c00 : v1.cell? ⟨q, 0, none⟩ = some (.slice A n c) := FR.out.cell 0 0 rfl rfl rfl
  have c01 : v1.cell? ⟨q, 1, none⟩ = some (.slice B m d) := FR.out.cell 0 1 rfl rfl rfl
  have c02 : v1.cell? ⟨q, 2, none⟩ = some (.slice C k f) := FR.out.cell 0 2 rfl rfl rfl
  have c03 : v1.cell? ⟨q, 3, none⟩ = some (.int .i64 ce) := FR.out.cell 0 3 rfl rfl rfl
  have c04 : v1.cell? ⟨q, 4, none⟩ = some (.int .i64 re) := FR.out.cell 0 4 rfl rfl rfl
  have c05 : v1.cell? ⟨q, 5, none⟩ = some (.int .i64 pa) := FR.out.cell 0 5 rfl rfl rfl
  go_wp2_with fail
  refine P1.out.mono ?_
  rintro e w2 ⟨A2, n2, c2, rfl, HN, HB, hb⟩
  clear c00 c01 c02 c03 c04 c05
  replace FR := Lib.hid (FR.out.step hb)
  clear hb P1 hv1 z1
  have c00 : w2.cell? ⟨q, 0, none⟩ = some (.slice A n c) := FR.out.cell 0 0 rfl rfl rfl
  have c01 : w2.cell? ⟨q, 1, none⟩ = some (.slice B m d) := FR.out.cell 0 1 rfl rfl rfl
  have c02 : w2.cell? ⟨q, 2, none⟩ = some (.slice C k f) := FR.out.cell 0 2 rfl rfl rfl
  have c03 : w2.cell? ⟨q, 3, none⟩ = some (.int .i64 ce) := FR.out.cell 0 3 rfl rfl rfl
  have c04 : w2.cell? ⟨q, 4, none⟩ = some (.int .i64 re) := FR.out.cell 0 4 rfl rfl rfl
  have c05 : w2.cell? ⟨q, 5, none⟩ = some (.int .i64 pa) := FR.out.cell 0 5 rfl rfl rfl
  go_wp2
  clear c00 c01 c02 c03 c04 c05
  go_loopw [3, 16] (fun bv iv wr => ∃ (i n2 c2 : Nat) (A2 : Option Addr), bv = .slice A2 n2 c2 ∧ iv = .int .i64 (i : Int) ∧ i ≤ n ∧ Hid (n2 ≤ 10 + 40 * i) ∧ Hid (Bs wr A2 n2 c2 (bytesN ([(n : Int)] ++ codeN (co.take i)))) ∧ Hid (Fr w wr q [.cells #[.slice A n c, .slice B m d, .slice C k f, .int .i64 ce, .int .i64 re, .int .i64 pa] 25])) (fun _ iv _ => n - (intOf iv).toNat)
  case atStart => exact ⟨0, n2, c2, A2, rfl, rfl, by omega, Lib.hid (by have := HN.out; omega), Lib.hid (by have h := HB.out; rw [List.nil_append] at h; simpa [codeN] using h), FR⟩
  case round =>
    clear FR HN HB
    obtain ⟨i, n3, c3, A3, rfl, rfl, hi, HN, HB, FR⟩ := hrel
    by_cases hlt : i < n
    · have c1 : decide ((i : Int) < (n : Int)) = true := by simpa using hlt
      have c1n : decide (i < n) = true := by simpa using hlt
      have i0 : (0 : Int) ≤ (i : Int) := by omega
      have i1 : (i : Int) < (n : Int) := by omega
      obtain ⟨b, off, rfl, hbw, k0, k1, k2, k3⟩ := I4s.look (l := co) (FR.out.es RX.out) i hlt
      have h9 : i < co.length := by have := HLN.out; omega
      have hmem : inAt co i ∈ co := by rw [show inAt co i = co[i] by simp [inAt, List.getD, h9]]; exact List.getElem_mem _
      clear h9
      have hpi := HPC.out _ hmem
      have htk := take_i4 (l := co) (i := i) (by have := HLN.out; omega)
      obtain ⟨⟨o, a, bb, x⟩, hxx⟩ : ∃ z, inAt co i = z := ⟨_, rfl⟩
      rw [hxx] at hpi htk k0 k1 k2 k3
      simp only at k0 k1 k2 k3 hpi
      have HA := Lib.hid (show bytesN ([(n : Int)] ++ codeN (co.take i)) ++ bytesN [o, a, bb, x] = bytesN ([(n : Int)] ++ codeN (co.take (i + 1))) by rw [htk, codeN_app, bytesN_pre, List.append_assoc]; rfl)
      have B4 := Lib.hid (show ∀ y ∈ [o, a, bb, x], B64 y from by intro y hy; simp at hy; rcases hy with rfl | rfl | rfl | rfl; exact hpi.1; exact hpi.2.1; exact hpi.2.2.1; exact hpi.2.2.2)
      have HLT := Lib.hid hlt
      clear hmem hpi htk hxx hlt hbw
      have ac00 : wr.cell? ⟨q, 0, none⟩ = some (.slice (some ⟨b, off, none⟩) n c) := FR.out.cell 0 0 rfl rfl rfl
      have ac01 : wr.cell? ⟨q, 1, none⟩ = some (.slice B m d) := FR.out.cell 0 1 rfl rfl rfl
      have ac02 : wr.cell? ⟨q, 2, none⟩ = some (.slice C k f) := FR.out.cell 0 2 rfl rfl rfl
      have ac03 : wr.cell? ⟨q, 3, none⟩ = some (.int .i64 ce) := FR.out.cell 0 3 rfl rfl rfl
      have ac04 : wr.cell? ⟨q, 4, none⟩ = some (.int .i64 re) := FR.out.cell 0 4 rfl rfl rfl
      have ac05 : wr.cell? ⟨q, 5, none⟩ = some (.int .i64 pa) := FR.out.cell 0 5 rfl rfl rfl
      have gex := FR.out.sz
      simp only [List.length_cons, List.length_nil] at gex
      obtain ⟨w2, hw2⟩ : ∃ W, wr.alloc (.cells #[.int .i64 o, .int .i64 a, .int .i64 bb, .int .i64 x] 40) = W := ⟨_, rfl⟩
      have hb : Below wr.heap.size wr w2 := hw2 ▸ (Below.refl _ _).alloc (Nat.le_refl _) _
      have hv : w2.heap[wr.heap.size]? = some (.cells #[.int .i64 o, .int .i64 a, .int .i64 bb, .int .i64 x] 40) := hw2 ▸ heap_alloc_new _ _
      replace FR := Lib.hid (FR.out.step hb)
      have Vx := Lib.hid hv
      generalize hsx : wr.heap.size = sx at *
      clear hb hv
      have hb0 : Below wr.heap.size wr w2 := hw2 ▸ (Below.refl _ _).alloc (Nat.le_refl _) _
      have P4 := Lib.hid (put_lit4 A3 n3 c3 _ o a bb x w2 _ rfl (HB.out.below hb0) (by have := HN.out; have := HT.out; have := HLT.out; omega) B4.out)
      clear hb0
      have c00 : w2.cell? ⟨q, 0, none⟩ = some (.slice (some ⟨b, off, none⟩) n c) := FR.out.cell 0 0 rfl rfl rfl
      have c01 : w2.cell? ⟨q, 1, none⟩ = some (.slice B m d) := FR.out.cell 0 1 rfl rfl rfl
      have c02 : w2.cell? ⟨q, 2, none⟩ = some (.slice C k f) := FR.out.cell 0 2 rfl rfl rfl
      have c03 : w2.cell? ⟨q, 3, none⟩ = some (.int .i64 ce) := FR.out.cell 0 3 rfl rfl rfl
      have c04 : w2.cell? ⟨q, 4, none⟩ = some (.int .i64 re) := FR.out.cell 0 4 rfl rfl rfl
      have c05 : w2.cell? ⟨q, 5, none⟩ = some (.int .i64 pa) := FR.out.cell 0 5 rfl rfl rfl
      have cx0 : w2.cell? ⟨sx, 0, none⟩ = some (.int .i64 o) := (blk_cell Vx.out 0).trans rfl
      have cx1 : w2.cell? ⟨sx, 1, none⟩ = some (.int .i64 a) := (blk_cell Vx.out 1).trans rfl
      have cx2 : w2.cell? ⟨sx, 2, none⟩ = some (.int .i64 bb) := (blk_cell Vx.out 2).trans rfl
      have cx3 : w2.cell? ⟨sx, 3, none⟩ = some (.int .i64 x) := (blk_cell Vx.out 3).trans rfl
      go_wp2_with fail
      refine P4.out.mono ?_
      rintro e w5 ⟨A5, n5, c5, rfl, HN5, HB5, hb⟩
      clear c00 c01 c02 c03 c04 c05 cx0 cx1 cx2 cx3
      replace FR := Lib.hid (FR.out.step hb)
      replace Vx := Lib.hid (blk_below Vx.out hb (blk_lt Vx.out))
      clear hb P4 ac00 ac01 ac02 ac03 ac04 ac05
      rw [HA.out] at HB5
      have HN6 := Lib.hid (show n5 ≤ 10 + 40 * (i + 1) by have := HN.out; have := HN5.out; omega)
      clear HA HN HB HN5 k0 k1 k2 k3
      have c00 : w5.cell? ⟨q, 0, none⟩ = some (.slice (some ⟨b, off, none⟩) n c) := FR.out.cell 0 0 rfl rfl rfl
      have c01 : w5.cell? ⟨q, 1, none⟩ = some (.slice B m d) := FR.out.cell 0 1 rfl rfl rfl
      have c02 : w5.cell? ⟨q, 2, none⟩ = some (.slice C k f) := FR.out.cell 0 2 rfl rfl rfl
      have c03 : w5.cell? ⟨q, 3, none⟩ = some (.int .i64 ce) := FR.out.cell 0 3 rfl rfl rfl
      have c04 : w5.cell? ⟨q, 4, none⟩ = some (.int .i64 re) := FR.out.cell 0 4 rfl rfl rfl
      have c05 : w5.cell? ⟨q, 5, none⟩ = some (.int .i64 pa) := FR.out.cell 0 5 rfl rfl rfl
      have cx0 : w5.cell? ⟨sx, 0, none⟩ = some (.int .i64 o) := (blk_cell Vx.out 0).trans rfl
      have cx1 : w5.cell? ⟨sx, 1, none⟩ = some (.int .i64 a) := (blk_cell Vx.out 1).trans rfl
      have cx2 : w5.cell? ⟨sx, 2, none⟩ = some (.int .i64 bb) := (blk_cell Vx.out 2).trans rfl
      have cx3 : w5.cell? ⟨sx, 3, none⟩ = some (.int .i64 x) := (blk_cell Vx.out 3).trans rfl
      go_wp2
      go_roundw
      case rel => exact ⟨i + 1, n5, c5, A5, rfl, by go_num, by have := HLT.out; omega, HN6, HB5, FR⟩
      case measure => have := HLT.out; simp [intOf]; omega
    · have en : i = n := by omega
      have c1 : decide ((i : Int) < (n : Int)) = false := by simp; omega
      have c1n : decide (i < n) = false := by simp; omega
      have HBC := Lib.hid (show Bs wr A3 n3 c3 (bytesN ([(n : Int)] ++ codeN co)) by have h := HB.out; rwa [en, ← HLN.out, List.take_length, HLN.out] at h)
      have HNC := Lib.hid (show n3 ≤ 2410 by have := HN.out; have := HT.out; omega)
      clear en hlt hi HB HN
      have P1 := Lib.hid (put_lit1 A3 n3 c3 _ (m : Int) wr _ rfl HBC.out (by have := HNC.out; omega) B2.out)
      have c00 : wr.cell? ⟨q, 0, none⟩ = some (.slice A n c) := FR.out.cell 0 0 rfl rfl rfl
      have c01 : wr.cell? ⟨q, 1, none⟩ = some (.slice B m d) := FR.out.cell 0 1 rfl rfl rfl
      have c02 : wr.cell? ⟨q, 2, none⟩ = some (.slice C k f) := FR.out.cell 0 2 rfl rfl rfl
      have c03 : wr.cell? ⟨q, 3, none⟩ = some (.int .i64 ce) := FR.out.cell 0 3 rfl rfl rfl
      have c04 : wr.cell? ⟨q, 4, none⟩ = some (.int .i64 re) := FR.out.cell 0 4 rfl rfl rfl
      have c05 : wr.cell? ⟨q, 5, none⟩ = some (.int .i64 pa) := FR.out.cell 0 5 rfl rfl rfl
      go_wp2_with fail
      refine P1.out.mono ?_
      rintro e w6 ⟨A6, n6, c6, rfl, HN6, HB6, hb⟩
      clear c00 c01 c02 c03 c04 c05
      replace FR := Lib.hid (FR.out.step hb)
      clear hb P1
      rw [bytesN_pre] at HB6
      have HN7 := Lib.hid (show n6 ≤ 2420 by have := HNC.out; have := HN6.out; omega)
      clear HN6 HNC HBC
      have c00 : w6.cell? ⟨q, 0, none⟩ = some (.slice A n c) := FR.out.cell 0 0 rfl rfl rfl
      have c01 : w6.cell? ⟨q, 1, none⟩ = some (.slice B m d) := FR.out.cell 0 1 rfl rfl rfl
      have c02 : w6.cell? ⟨q, 2, none⟩ = some (.slice C k f) := FR.out.cell 0 2 rfl rfl rfl
      have c03 : w6.cell? ⟨q, 3, none⟩ = some (.int .i64 ce) := FR.out.cell 0 3 rfl rfl rfl
      have c04 : w6.cell? ⟨q, 4, none⟩ = some (.int .i64 re) := FR.out.cell 0 4 rfl rfl rfl
      have c05 : w6.cell? ⟨q, 5, none⟩ = some (.int .i64 pa) := FR.out.cell 0 5 rfl rfl rfl
      go_wp2
      clear c00 c01 c02 c03 c04 c05
      obtain ⟨wo, hwo⟩ : ∃ x, x = wr := ⟨_, rfl⟩
      subst hwo
      go_loopw [3, 41] (fun bv iv wr => ∃ (i n2 c2 : Nat) (A2 : Option Addr), bv = .slice A2 n2 c2 ∧ iv = .int .i64 (i : Int) ∧ i ≤ m ∧ Hid (n2 ≤ 2420 + 20 * i) ∧ Hid (Bs wr A2 n2 c2 (bytesN (([(n : Int)] ++ codeN co) ++ ([(m : Int)] ++ objsN (ki.take i) (si.take i))))) ∧ Hid (Fr w wr q [.cells #[.slice A n c, .slice B m d, .slice C k f, .int .i64 ce, .int .i64 re, .int .i64 pa] 25])) (fun _ iv _ => m - (intOf iv).toNat)
      case atStart => exact ⟨0, n6, c6, A6, rfl, rfl, by omega, HN7, Lib.hid (by have h := HB6.out; simpa [objsN] using h), FR⟩
      case round =>
        clear FR HN7 HB6
        obtain ⟨j, n7, c7, A7, rfl, rfl, hj, HN, HB, FR⟩ := hrel
        by_cases hlt : j < m
        · have d1 : decide ((j : Int) < (m : Int)) = true := by simpa using hlt
          have d1n : decide (j < m) = true := by simpa using hlt
          have i0 : (0 : Int) ≤ (j : Int) := by omega
          have i1 : (j : Int) < (m : Int) := by omega
          have i2 : (j : Int) < (k : Int) := by have := HT.out.2.2; omega
          obtain ⟨b, off, kv, rfl, hlb, hlc, hdr⟩ := RY.out.look j hlt
          obtain ⟨b2, off2, sv, rfl, hlb2, hlc2, hdr2⟩ := RZ.out.look j (by have := HT.out.2.2; omega)
          have hkv := HPK.out kv (mem_at hdr); have hsv := HPS.out sv (mem_at hdr2)
          replace hlc := (FR.out.out.cell (p := ⟨b, off + j, none⟩) hlb).trans hlc
          replace hlc2 := (FR.out.out.cell (p := ⟨b2, off2 + j, none⟩) hlb2).trans hlc2
          have hk1 := getD_at hdr; have hs1 := getD_at hdr2
          have hot := objsN_take (ks := ki) (ss := si) (i := j) (by have := HLM.out; have := HLK.out; have := HT.out; omega) (by have := HLM.out; omega)
          rw [hk1, hs1] at hot
          have HA := Lib.hid (show bytesN (([(n : Int)] ++ codeN co) ++ ([(m : Int)] ++ objsN (ki.take j) (si.take j))) ++ bytesN [kv, sv] = bytesN (([(n : Int)] ++ codeN co) ++ ([(m : Int)] ++ objsN (ki.take (j + 1)) (si.take (j + 1)))) by rw [hot, bytesN_pre]; simp only [List.append_assoc])
          have B3 := Lib.hid (show ∀ y ∈ [kv, sv], B64 y from by intro y hy; simp at hy; rcases hy with rfl | rfl; exact hkv; exact hsv)
          have HLT := Lib.hid hlt
          have P2 := Lib.hid (put_lit2 A7 n7 c7 _ kv sv wr _ rfl HB.out (by have := HN.out; have := HT.out; have := HLT.out; omega) B3.out)
          clear hdr hdr2 hlb hlb2 hlt hkv hsv hk1 hs1 hot
          have c00 : wr.cell? ⟨q, 0, none⟩ = some (.slice A n c) := FR.out.cell 0 0 rfl rfl rfl
          have c01 : wr.cell? ⟨q, 1, none⟩ = some (.slice (some ⟨b, off, none⟩) m d) := FR.out.cell 0 1 rfl rfl rfl
          have c02 : wr.cell? ⟨q, 2, none⟩ = some (.slice (some ⟨b2, off2, none⟩) k f) := FR.out.cell 0 2 rfl rfl rfl
          have c03 : wr.cell? ⟨q, 3, none⟩ = some (.int .i64 ce) := FR.out.cell 0 3 rfl rfl rfl
          have c04 : wr.cell? ⟨q, 4, none⟩ = some (.int .i64 re) := FR.out.cell 0 4 rfl rfl rfl
          have c05 : wr.cell? ⟨q, 5, none⟩ = some (.int .i64 pa) := FR.out.cell 0 5 rfl rfl rfl
          go_wp2_with fail
          refine P2.out.mono ?_
          rintro e w8 ⟨A8, n8, c8, rfl, HN8, HB8, hb⟩
          clear c00 c01 c02 c03 c04 c05
          replace FR := Lib.hid (FR.out.step hb)
          clear hb P2
          rw [HA.out] at HB8
          have HN9 := Lib.hid (show n8 ≤ 2420 + 20 * (j + 1) by have := HN.out; have := HN8.out; omega)
          clear HA HN HB HN8 hlc hlc2
          have c00 : w8.cell? ⟨q, 0, none⟩ = some (.slice A n c) := FR.out.cell 0 0 rfl rfl rfl
          have c01 : w8.cell? ⟨q, 1, none⟩ = some (.slice (some ⟨b, off, none⟩) m d) := FR.out.cell 0 1 rfl rfl rfl
          have c02 : w8.cell? ⟨q, 2, none⟩ = some (.slice (some ⟨b2, off2, none⟩) k f) := FR.out.cell 0 2 rfl rfl rfl
          have c03 : w8.cell? ⟨q, 3, none⟩ = some (.int .i64 ce) := FR.out.cell 0 3 rfl rfl rfl
          have c04 : w8.cell? ⟨q, 4, none⟩ = some (.int .i64 re) := FR.out.cell 0 4 rfl rfl rfl
          have c05 : w8.cell? ⟨q, 5, none⟩ = some (.int .i64 pa) := FR.out.cell 0 5 rfl rfl rfl
          go_wp2
          go_roundw
          case rel => exact ⟨j + 1, n8, c8, A8, rfl, by go_num, by have := HLT.out; omega, HN9, HB8, FR⟩
          case measure => have := HLT.out; simp [intOf]; omega
        · have en : j = m := by omega
          have d1 : decide ((j : Int) < (m : Int)) = false := by simp; omega
          have d1n : decide (j < m) = false := by simp; omega
          have HBC := Lib.hid (show Bs wr A7 n7 c7 (bytesN (([(n : Int)] ++ codeN co) ++ ([(m : Int)] ++ objsN ki si))) by have h := HB.out; rw [en, List.take_of_length_le (by have := HLM.out; omega), List.take_of_length_le (by have := HLK.out; have := HT.out; omega)] at h; exact h)
          have HNC := Lib.hid (show n7 ≤ 2580 by have := HN.out; have := HT.out; omega)
          clear en hlt hj HB HN
          have P3 := Lib.hid (put_lit3 A7 n7 c7 _ ce re pa wr _ rfl HBC.out (by have := HNC.out; omega) G5.out)
          have c00 : wr.cell? ⟨q, 0, none⟩ = some (.slice A n c) := FR.out.cell 0 0 rfl rfl rfl
          have c01 : wr.cell? ⟨q, 1, none⟩ = some (.slice B m d) := FR.out.cell 0 1 rfl rfl rfl
          have c02 : wr.cell? ⟨q, 2, none⟩ = some (.slice C k f) := FR.out.cell 0 2 rfl rfl rfl
          have c03 : wr.cell? ⟨q, 3, none⟩ = some (.int .i64 ce) := FR.out.cell 0 3 rfl rfl rfl
          have c04 : wr.cell? ⟨q, 4, none⟩ = some (.int .i64 re) := FR.out.cell 0 4 rfl rfl rfl
          have c05 : wr.cell? ⟨q, 5, none⟩ = some (.int .i64 pa) := FR.out.cell 0 5 rfl rfl rfl
          go_wp2_with fail
          refine P3.out.mono ?_
          rintro e w9 ⟨A9, n9, c9, rfl, HN9, HB9, hb⟩
          clear c00 c01 c02 c03 c04 c05
          replace FR := Lib.hid (FR.out.step hb)
          clear hb P3
          have HBZ := Lib.hid (show Bs w9 A9 n9 c9 (bytesN (numsP ⟨co, ki, si, ce, re, pa⟩)) by have h := HB9.out; rw [bytesN_pre] at h; rw [HNE.out]; have h1 := HLN.out; have h2 := HLM.out; simp only [h1, h2]; exact h)
          clear HB9 HN9 HBC HNC
          have c00 : w9.cell? ⟨q, 0, none⟩ = some (.slice A n c) := FR.out.cell 0 0 rfl rfl rfl
          have c01 : w9.cell? ⟨q, 1, none⟩ = some (.slice B m d) := FR.out.cell 0 1 rfl rfl rfl
          have c02 : w9.cell? ⟨q, 2, none⟩ = some (.slice C k f) := FR.out.cell 0 2 rfl rfl rfl
          have c03 : w9.cell? ⟨q, 3, none⟩ = some (.int .i64 ce) := FR.out.cell 0 3 rfl rfl rfl
          have c04 : w9.cell? ⟨q, 4, none⟩ = some (.int .i64 re) := FR.out.cell 0 4 rfl rfl rfl
          have c05 : w9.cell? ⟨q, 5, none⟩ = some (.int .i64 pa) := FR.out.cell 0 5 rfl rfl rfl
          go_wp2
          go_ret
          exact ⟨_, _, _, rfl, HBZ.out, FR.out.out⟩
set_option maxRecDepth 100000 in
set_option maxHeartbeats 16000000 in
theorem appendL_any (A : Option Addr) (n c : Nat) (B : Option Addr) (m d : Nat) (C : Option Addr) (k f : Nat) (co : List I4) (ki si : List Int) (ce re pa : Int) (w : World) (hx : I4s w A n c co) (hy : Is w B m d ki) (hz : Is w C k f si) (hn : n ≤ 16384) (hm : m ≤ 16384) (hk : k ≤ 16384) (E : Option Addr) (u v : Nat) (bs : List Int) (hb : Bs w E u v bs) (hu : u ≤ 4096) (hpb : PB ⟨co, ki, si, ce, re, pa⟩) :
    Calls Try.prog 9 #[.slice E u v, .agg #[.slice A n c, .slice B m d, .slice C k f, .int .i64 ce, .int .i64 re, .int .i64 pa]] w (AppC w (appendPg bs ⟨co, ki, si, ce, re, pa⟩)) := by
  have RX := Lib.hid hx; have RY := Lib.hid hy; have RZ := Lib.hid hz; have RB := Lib.hid hb; have HPB := Lib.hid hpb
  have RT := fun (W : World) (h1 : I4s W A n c co) (h2 : Is W B m d ki) (h3 : Is W C k f si) => rightL_any A n c B m d C k f co ki si ce re pa W h1 h2 h3 hn hm hk
  obtain ⟨R, hR⟩ : ∃ R, appendPg bs ⟨co, ki, si, ce, re, pa⟩ = R := ⟨_, rfl⟩
  rw [hR]
  clear hx hy hz hb hpb
  obtain ⟨v1, hv1⟩ : ∃ W, w.alloc (.cells #[.slice A n c, .slice B m d, .slice C k f, .int .i64 ce, .int .i64 re, .int .i64 pa] 25) = W := ⟨_, rfl⟩
  have fr1 : Fr w v1 w.heap.size [.cells #[.slice A n c, .slice B m d, .slice C k f, .int .i64 ce, .int .i64 re, .int .i64 pa] 25] := hv1 ▸ Fr.first w _
  have z1 : v1.heap.size = w.heap.size + 1 := by rw [← hv1, Fr.size1]
  generalize hq : w.heap.size = q at *
  have FR := Lib.hid fr1
  clear fr1
  cases hr : rightPg ⟨co, ki, si, ce, re, pa⟩
  · rw [hr] at RT
    replace RT := Lib.hid RT
    have HE := Lib.hid (show R = ([], 1) by rw [← hR]; unfold appendPg; rw [if_neg (by rw [hr]; simp)])
    clear hr hR
    go_enter Try.func9, Try.ntmps9
    have c00 : v1.cell? ⟨q, 0, none⟩ = some (.slice A n c) := FR.out.cell 0 0 rfl rfl rfl
    have c01 : v1.cell? ⟨q, 1, none⟩ = some (.slice B m d) := FR.out.cell 0 1 rfl rfl rfl
    have c02 : v1.cell? ⟨q, 2, none⟩ = some (.slice C k f) := FR.out.cell 0 2 rfl rfl rfl
    have c03 : v1.cell? ⟨q, 3, none⟩ = some (.int .i64 ce) := FR.out.cell 0 3 rfl rfl rfl
    have c04 : v1.cell? ⟨q, 4, none⟩ = some (.int .i64 re) := FR.out.cell 0 4 rfl rfl rfl
    have c05 : v1.cell? ⟨q, 5, none⟩ = some (.int .i64 pa) := FR.out.cell 0 5 rfl rfl rfl
    go_wp2_with fail
    refine ((RT.out _ (FR.out.es RX.out) (FR.out.es RY.out) (FR.out.es RZ.out))).mono ?_
    rintro e w2 ⟨rfl, hb⟩
    clear c00 c01 c02 c03 c04 c05
    replace FR := Lib.hid (FR.out.step hb)
    clear hb
    have c00 : w2.cell? ⟨q, 0, none⟩ = some (.slice A n c) := FR.out.cell 0 0 rfl rfl rfl
    have c01 : w2.cell? ⟨q, 1, none⟩ = some (.slice B m d) := FR.out.cell 0 1 rfl rfl rfl
    have c02 : w2.cell? ⟨q, 2, none⟩ = some (.slice C k f) := FR.out.cell 0 2 rfl rfl rfl
    have c03 : w2.cell? ⟨q, 3, none⟩ = some (.int .i64 ce) := FR.out.cell 0 3 rfl rfl rfl
    have c04 : w2.cell? ⟨q, 4, none⟩ = some (.int .i64 re) := FR.out.cell 0 4 rfl rfl rfl
    have c05 : w2.cell? ⟨q, 5, none⟩ = some (.int .i64 pa) := FR.out.cell 0 5 rfl rfl rfl
    go_wp2
    go_ret2
    rw [HE.out]
    exact ⟨none, 0, 0, rfl, World.ownsRow_nil _ _ _ _, FR.out.out⟩
  · rw [hr] at RT
    replace RT := Lib.hid RT
    have HE := Lib.hid (show R = (bs ++ bytesN (numsP ⟨co, ki, si, ce, re, pa⟩), 0) by rw [← hR]; unfold appendPg; rw [if_pos hr])
    have hri : RightPg ⟨co, ki, si, ce, re, pa⟩ := rightPg_iff.1 hr
    have hnl := nums_len hri
    have hbl := bytesN_ten _ (nums_all hri HPB.out)
    have WR := Lib.hid (fun (W : World) (h1 : I4s W A n c co) (h2 : Is W B m d ki) (h3 : Is W C k f si) => written13_any A n c B m d C k f co ki si ce re pa W h1 h2 h3 hn hm hk hri HPB.out)
    obtain ⟨Z, hZ⟩ : ∃ Z, bytesN (numsP ⟨co, ki, si, ce, re, pa⟩) = Z := ⟨_, rfl⟩
    rw [hZ] at HE WR hbl
    have HZL := Lib.hid (show Z.length ≤ 3000 by omega)
    clear hr hR hri hnl hbl hZ
    go_enter Try.func9, Try.ntmps9
    have c00 : v1.cell? ⟨q, 0, none⟩ = some (.slice A n c) := FR.out.cell 0 0 rfl rfl rfl
    have c01 : v1.cell? ⟨q, 1, none⟩ = some (.slice B m d) := FR.out.cell 0 1 rfl rfl rfl
    have c02 : v1.cell? ⟨q, 2, none⟩ = some (.slice C k f) := FR.out.cell 0 2 rfl rfl rfl
    have c03 : v1.cell? ⟨q, 3, none⟩ = some (.int .i64 ce) := FR.out.cell 0 3 rfl rfl rfl
    have c04 : v1.cell? ⟨q, 4, none⟩ = some (.int .i64 re) := FR.out.cell 0 4 rfl rfl rfl
    have c05 : v1.cell? ⟨q, 5, none⟩ = some (.int .i64 pa) := FR.out.cell 0 5 rfl rfl rfl
    go_wp2_with fail
    refine ((RT.out _ (FR.out.es RX.out) (FR.out.es RY.out) (FR.out.es RZ.out))).mono ?_
    rintro e w2 ⟨rfl, hb⟩
    clear c00 c01 c02 c03 c04 c05
    replace FR := Lib.hid (FR.out.step hb)
    clear hb
    have c00 : w2.cell? ⟨q, 0, none⟩ = some (.slice A n c) := FR.out.cell 0 0 rfl rfl rfl
    have c01 : w2.cell? ⟨q, 1, none⟩ = some (.slice B m d) := FR.out.cell 0 1 rfl rfl rfl
    have c02 : w2.cell? ⟨q, 2, none⟩ = some (.slice C k f) := FR.out.cell 0 2 rfl rfl rfl
    have c03 : w2.cell? ⟨q, 3, none⟩ = some (.int .i64 ce) := FR.out.cell 0 3 rfl rfl rfl
    have c04 : w2.cell? ⟨q, 4, none⟩ = some (.int .i64 re) := FR.out.cell 0 4 rfl rfl rfl
    have c05 : w2.cell? ⟨q, 5, none⟩ = some (.int .i64 pa) := FR.out.cell 0 5 rfl rfl rfl
    go_wp2_with fail
    refine ((WR.out _ (FR.out.es RX.out) (FR.out.es RY.out) (FR.out.es RZ.out))).mono ?_
    rintro e w3 ⟨A2, n2, c2, rfl, hb2, hb⟩
    clear c00 c01 c02 c03 c04 c05
    replace FR := Lib.hid (FR.out.step hb)
    have HB2 := Lib.hid hb2
    have HNL := Lib.hid (show n2 ≤ 3000 by have := hb2.len; have := HZL.out; omega)
    clear hb2 hb
    have CC := Lib.hid (concat_own w3.heap.size E A2 u v n2 c2 bs Z (w3.alloc (.cells #[.slice E u v, .slice A2 n2 c2] 28)) (heap_alloc_new _ _) ((RB.out.below FR.out.out).below ((Below.refl _ _).alloc (Nat.le_refl _) _)) (HB2.out.below ((Below.refl _ _).alloc (Nat.le_refl _) _)) (by have := HNL.out; omega))
    have c00 : w3.cell? ⟨q, 0, none⟩ = some (.slice A n c) := FR.out.cell 0 0 rfl rfl rfl
    have c01 : w3.cell? ⟨q, 1, none⟩ = some (.slice B m d) := FR.out.cell 0 1 rfl rfl rfl
    have c02 : w3.cell? ⟨q, 2, none⟩ = some (.slice C k f) := FR.out.cell 0 2 rfl rfl rfl
    have c03 : w3.cell? ⟨q, 3, none⟩ = some (.int .i64 ce) := FR.out.cell 0 3 rfl rfl rfl
    have c04 : w3.cell? ⟨q, 4, none⟩ = some (.int .i64 re) := FR.out.cell 0 4 rfl rfl rfl
    have c05 : w3.cell? ⟨q, 5, none⟩ = some (.int .i64 pa) := FR.out.cell 0 5 rfl rfl rfl
    go_wp2_with fail
    refine CC.out.mono ?_
    rintro e w9 ⟨A9, n9, c9, rfl, hown, _, hb⟩
    replace hb : Below w3.heap.size w3 w9 := ((Below.refl _ _).alloc (Nat.le_refl _) _).trans (hb.mono (by simp))
    have OW := Lib.hid (own_base hown (show w.heap.size ≤ (w3.alloc (.cells #[.slice E u v, .slice A2 n2 c2] 28)).heap.size from Nat.le_trans FR.out.out.size (by simp)))
    clear c00 c01 c02 c03 c04 c05
    replace FR := Lib.hid (FR.out.step hb)
    clear hb hown CC
    have c00 : w9.cell? ⟨q, 0, none⟩ = some (.slice A n c) := FR.out.cell 0 0 rfl rfl rfl
    have c01 : w9.cell? ⟨q, 1, none⟩ = some (.slice B m d) := FR.out.cell 0 1 rfl rfl rfl
    have c02 : w9.cell? ⟨q, 2, none⟩ = some (.slice C k f) := FR.out.cell 0 2 rfl rfl rfl
    have c03 : w9.cell? ⟨q, 3, none⟩ = some (.int .i64 ce) := FR.out.cell 0 3 rfl rfl rfl
    have c04 : w9.cell? ⟨q, 4, none⟩ = some (.int .i64 re) := FR.out.cell 0 4 rfl rfl rfl
    have c05 : w9.cell? ⟨q, 5, none⟩ = some (.int .i64 pa) := FR.out.cell 0 5 rfl rfl rfl
    go_wp2
    go_ret2
    rw [HE.out]
    exact ⟨_, _, _, rfl, OW.out, FR.out.out⟩
end Go.Proofs.Ytkoodhnfphmbnaa
