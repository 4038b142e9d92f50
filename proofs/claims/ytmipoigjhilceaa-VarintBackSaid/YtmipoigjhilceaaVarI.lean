/- VarintBack walked to its end: it answers true, over any world; no condition. -/
import Derived.Test.YtmipoigjhilceaaVarG
namespace Go.Proofs.Ytmipoigjhilceaa
set_option linter.unusedVariables false
set_option linter.unusedSimpArgs false
open Go.RowKit

theorem zag_range {x : Int} (x0 : 0 ≤ x) (x1 : x ≤ 18446744073709551615) : -9223372036854775808 ≤ zag x ∧ zag x ≤ 9223372036854775807 := by unfold zag; split <;> omega
set_option maxHeartbeats 4000000 in
set_option maxRecDepth 100000 in
theorem back_walk (A : Option Addr) (n c : Nat) (xs : List Int) (B : Option Addr) (m d : Nat) (bs : List Int) (x : Int) (w : World) (ha : Bs w A n c xs) (hb : Bs w B m d bs) (x0 : (Lit.int .u64 x).wf = true) :
    Calls Try.prog 5 #[.slice A n c, .slice B m d, .int .u64 x] w fun e w' => e = .returned (.bool true) ∧ Below w.heap.size w w' := by
  have hx := bounds_u64 x0
  have HA := Lib.hid ha
  have HB := Lib.hid hb
  clear x0 ha hb
  obtain ⟨x0, x1⟩ := hx
  by_cases hn : (500 : Int) < n
  · have hd : decide ((500 : Int) < n) = true := by simpa using hn
    go_enter Try.func5, Try.ntmps5
    go_wp2_with fail
    refine (varAlive_any _).mono ?_; rintro e w1 ⟨rfl, hw1⟩
    go_wp2_with fail
    go_ret
    exact ⟨rfl, hw1⟩
  · have hd : decide ((500 : Int) < n) = false := by simpa using hn
    by_cases hm : (500 : Int) < m
    · go_enter Try.func5, Try.ntmps5
      go_wp2_with fail
      refine (varAlive_any _).mono ?_; rintro e w1 ⟨rfl, hw1⟩
      go_wp2_with fail
      go_ret
      exact ⟨rfl, hw1⟩
    · obtain ⟨i5, hi5, hz0, hz1, hz2⟩ := info_parts infoByte
      have hv10 := vs_le10 x.toNat (by omega)
      have HI := Lib.hid hi5; have HZ0 := Lib.hid hz0; have HZ1 := Lib.hid hz1; have HZ2 := Lib.hid hz2; clear hi5 hz0 hz1 hz2
      have HlA := Lib.hid HA.out.len
      go_enter Try.func5, Try.ntmps5
      go_wp2_with fail
      refine (varAlive_any _).mono ?_; rintro e w1 ⟨rfl, hw1⟩
      have HW1 := Lib.hid hw1
      have HA1 := Lib.hid (HA.out.below hw1)
      have HB1 := Lib.hid (HB.out.below hw1); clear hw1
      go_wp2_with fail
      refine (varAppend_any A n c xs x _ HA1.out (by omega) x0 x1).mono ?_; rintro e w2 ⟨C, k, cc, rfl, hc2, hw2⟩
      have hk : k = n + vs x.toNat := by have h1 := hc2.len; have h2 := HlA.out; rw [List.length_append, vb_len] at h1; omega
      obtain ⟨C1, c1, hsl, hc1⟩ := hc2.sliceh 22 undBytes sizeByte (n : Int) n rfl (by omega)
      have ht : (xs ++ vb x.toNat).take n = xs := by rw [List.take_append_of_le_length (by rw [HlA.out]; exact Nat.le_refl _), List.take_of_length_le (by rw [HlA.out]; exact Nat.le_refl _)]
      rw [ht] at hc1
      have HC2 := Lib.hid hc2; have HA2 := Lib.hid (HA1.out.below hw2); have HB2 := Lib.hid (HB1.out.below hw2); have HW2 := Lib.hid (HW1.out.trans (hw2.mono HW1.out.size)); have HT2 := Lib.hid hc1
      have hk2 : ((k : Nat) : Int) = (n : Int) + (vs x.toNat : Int) := by omega
      have hd1 : IntKind.i64.wrap ((n : Int) + (vs x.toNat : Int)) = (k : Int) := by rw [IntKind.wrap_i64]; omega
      have HK := Lib.hid hk
      have hk510 : k ≤ 510 := by omega
      clear hc2 hc1 hw2 ht hk2 hk
      go_wp2_with fail
      refine wp_region_noPanic ?_
      refine wp_region_held_drew (S := (fun wv => Below w2.heap.size w2 wv)) (by kernel_rfl) ((Below.refl w2.heap.size w2).drew) (fun hS => ?_)
      refine wpAnyH_take (i := 0) (oi := ({ dst := some 28, op := Op.move (Operand.tmp 7), type := 22, pos := "law.go:56", after := #[], guard := none } : Oper)) (v := ?_) rfl (by kernel_rfl) (by kernel_rfl) (by kernel_rfl) (fun _ _ _ h => h) (Or.inl ⟨by rfl, ?_⟩) hS ?_
      rotate_left
      · intro wv _; go_simp; try with_reducible rfl
      try simp only [Act.put, List.setIfInBounds_toArray, List.set_cons_zero, List.set_cons_succ]
      refine wpAnyH_take (i := 1) (oi := ({ dst := some 29, op := Op.call { callee := Callee.builtin Builtin.len, args := #[Operand.tmp 28], argTypes := #[22] }, type := 3, pos := "law.go:56", after := #[{ on := 0, ground := Ground.data }], guard := none } : Oper)) (v := ?_) rfl (by kernel_rfl) (by kernel_rfl) (by kernel_rfl) (fun _ _ _ h => h) (Or.inl ⟨by rfl, ?_⟩) hS ?_
      rotate_left
      · intro wv _; go_simp; try with_reducible rfl
      try simp only [Act.put, List.setIfInBounds_toArray, List.set_cons_zero, List.set_cons_succ]
      refine wpAnyH_take (i := 2) (oi := ({ dst := some 30, op := Op.move (Operand.tmp 0), type := 22, pos := "law.go:56", after := #[], guard := none } : Oper)) (v := ?_) rfl (by kernel_rfl) (by kernel_rfl) (by kernel_rfl) (fun _ _ _ h => h) (Or.inl ⟨by rfl, ?_⟩) hS ?_
      rotate_left
      · intro wv _; go_simp; try with_reducible rfl
      try simp only [Act.put, List.setIfInBounds_toArray, List.set_cons_zero, List.set_cons_succ]
      refine wpAnyH_take (i := 3) (oi := ({ dst := some 31, op := Op.call { callee := Callee.builtin Builtin.len, args := #[Operand.tmp 30], argTypes := #[22] }, type := 3, pos := "law.go:56", after := #[{ on := 2, ground := Ground.data }], guard := none } : Oper)) (v := ?_) rfl (by kernel_rfl) (by kernel_rfl) (by kernel_rfl) (fun _ _ _ h => h) (Or.inl ⟨by rfl, ?_⟩) hS ?_
      rotate_left
      · intro wv _; go_simp; try with_reducible rfl
      try simp only [Act.put, List.setIfInBounds_toArray, List.set_cons_zero, List.set_cons_succ]
      refine wpAnyH_take (i := 4) (oi := ({ dst := some 32, op := Op.move (Operand.tmp 2), type := 23, pos := "law.go:56", after := #[], guard := none } : Oper)) (v := ?_) rfl (by kernel_rfl) (by kernel_rfl) (by kernel_rfl) (fun _ _ _ h => h) (Or.inl ⟨by rfl, ?_⟩) hS ?_
      rotate_left
      · intro wv _; go_simp; try with_reducible rfl
      try simp only [Act.put, List.setIfInBounds_toArray, List.set_cons_zero, List.set_cons_succ]
      refine wpAnyH_ready (rs := [5]) (by kernel_rfl) (by simp) (AllReadyH.cons (o := ({ dst := some 33, op := Op.call { callee := Callee.value (Operand.func 11), args := #[Operand.tmp 32], argTypes := #[23] }, type := 3, pos := "law.go:56", after := #[{ on := 4, ground := Ground.data }], guard := none } : Oper)) rfl (fun K hK => ?_) AllReadyH.nil)
      go_simp
      refine (varSize_any _ _ (by omega) (by omega)).mono ?_; rintro e w' ⟨rfl, rfl⟩
      go_wp2_with fail
      refine Shut.out hK _ _ (by first | trivial | exact hS) (fun _ => ?_)
      clear hK K
      try simp only [Act.put, List.setIfInBounds_toArray, List.set_cons_zero, List.set_cons_succ]
      refine wpAnyH_take (i := 6) (oi := ({ dst := some 34, op := Op.binOp BinOp.add 3 (Operand.tmp 31) (Operand.tmp 33) 3, type := 3, pos := "law.go:56", after := #[{ on := 3, ground := Ground.data }, { on := 5, ground := Ground.data }], guard := none } : Oper)) (v := ?_) rfl (by kernel_rfl) (by kernel_rfl) (by kernel_rfl) (fun _ _ _ h => h) (Or.inl ⟨by rfl, ?_⟩) hS ?_
      rotate_left
      · intro wv _; go_simp; try with_reducible rfl
      try simp only [Act.put, List.setIfInBounds_toArray, List.set_cons_zero, List.set_cons_succ]
      refine wpAnyH_take (i := 7) (oi := ({ dst := some 35, op := Op.binOp BinOp.neq 3 (Operand.tmp 29) (Operand.tmp 34) 3, type := 4, pos := "law.go:56", after := #[{ on := 1, ground := Ground.data }, { on := 6, ground := Ground.data }], guard := none } : Oper)) (v := ?_) rfl (by kernel_rfl) (by kernel_rfl) (by kernel_rfl) (fun _ _ _ h => h) (Or.inl ⟨by rfl, ?_⟩) hS ?_
      rotate_left
      · intro wv _; go_simp; try with_reducible rfl
      try simp only [Act.put, List.setIfInBounds_toArray, List.set_cons_zero, List.set_cons_succ]
      refine wpAnyH_take (i := 8) (oi := ({ dst := some 36, op := Op.move (Operand.tmp 35), type := 4, pos := "law.go:56", after := #[{ on := 7, ground := Ground.data }, { on := 5, ground := Ground.chain }], guard := none } : Oper)) (v := ?_) rfl (by kernel_rfl) (by kernel_rfl) (by kernel_rfl) (fun _ _ _ h => h) (Or.inl ⟨by rfl, ?_⟩) hS ?_
      rotate_left
      · intro wv _; go_simp; try with_reducible rfl
      try simp only [Act.put, List.setIfInBounds_toArray, List.set_cons_zero, List.set_cons_succ]
      refine wpAnyH_take (i := 9) (oi := ({ dst := some 37, op := Op.move (Operand.tmp 7), type := 22, pos := "law.go:56", after := #[{ on := 8, ground := Ground.guard }], guard := some (8, false) } : Oper)) (v := ?_) rfl (by kernel_rfl) (by kernel_rfl) (by kernel_rfl) (fun _ _ _ h => h) (Or.inl ⟨by rfl, ?_⟩) hS ?_
      rotate_left
      · intro wv _; go_simp; try with_reducible rfl
      try simp only [Act.put, List.setIfInBounds_toArray, List.set_cons_zero, List.set_cons_succ]
      refine wpAnyH_take (i := 10) (oi := ({ dst := some 38, op := Op.move (Operand.tmp 0), type := 22, pos := "law.go:56", after := #[{ on := 8, ground := Ground.guard }], guard := some (8, false) } : Oper)) (v := ?_) rfl (by kernel_rfl) (by kernel_rfl) (by kernel_rfl) (fun _ _ _ h => h) (Or.inl ⟨by rfl, ?_⟩) hS ?_
      rotate_left
      · intro wv _; go_simp; try with_reducible rfl
      try simp only [Act.put, List.setIfInBounds_toArray, List.set_cons_zero, List.set_cons_succ]
      refine wpAnyH_take (i := 11) (oi := ({ dst := some 39, op := Op.call { callee := Callee.builtin Builtin.len, args := #[Operand.tmp 38], argTypes := #[22] }, type := 3, pos := "law.go:56", after := #[{ on := 10, ground := Ground.data }, { on := 8, ground := Ground.guard }], guard := some (8, false) } : Oper)) (v := ?_) rfl (by kernel_rfl) (by kernel_rfl) (by kernel_rfl) (fun _ _ _ h => h) (Or.inl ⟨by rfl, ?_⟩) hS ?_
      rotate_left
      · intro wv _; go_simp; try with_reducible rfl
      try simp only [Act.put, List.setIfInBounds_toArray, List.set_cons_zero, List.set_cons_succ]
      refine wpAnyH_take (i := 12) (oi := ({ dst := some 40, op := Op.slice 22 (Operand.tmp 37) none (some (Operand.tmp 39)) none, type := 22, pos := "law.go:56", after := #[{ on := 9, ground := Ground.data }, { on := 11, ground := Ground.data }, { on := 8, ground := Ground.guard }], guard := some (8, false) } : Oper)) (v := ?_) rfl (by kernel_rfl) (by kernel_rfl) (by kernel_rfl) (fun _ _ _ h => h) (Or.inl ⟨by rfl, ?_⟩) hS ?_
      rotate_left
      · intro wv _; go_simp; try with_reducible rfl
      try simp only [Act.put, List.setIfInBounds_toArray, List.set_cons_zero, List.set_cons_succ]
      refine wpAnyH_take (i := 13) (oi := ({ dst := some 41, op := Op.convert 22 9 (Operand.tmp 40), type := 9, pos := "law.go:56", after := #[{ on := 12, ground := Ground.data }, { on := 8, ground := Ground.guard }], guard := some (8, false) } : Oper)) (v := ?_) rfl (by kernel_rfl) (by kernel_rfl) (by kernel_rfl) (fun _ _ _ h => h) (Or.inl ⟨by rfl, ?_⟩) hS ?_
      rotate_left
      · intro wv hS; have hrun := (HT2.out.below hS).text; go_simp; try with_reducible rfl
      try simp only [Act.put, List.setIfInBounds_toArray, List.set_cons_zero, List.set_cons_succ]
      refine wpAnyH_take (i := 14) (oi := ({ dst := some 42, op := Op.move (Operand.tmp 0), type := 22, pos := "law.go:56", after := #[{ on := 8, ground := Ground.guard }], guard := some (8, false) } : Oper)) (v := ?_) rfl (by kernel_rfl) (by kernel_rfl) (by kernel_rfl) (fun _ _ _ h => h) (Or.inl ⟨by rfl, ?_⟩) hS ?_
      rotate_left
      · intro wv _; go_simp; try with_reducible rfl
      try simp only [Act.put, List.setIfInBounds_toArray, List.set_cons_zero, List.set_cons_succ]
      refine wpAnyH_take (i := 15) (oi := ({ dst := some 43, op := Op.convert 22 9 (Operand.tmp 42), type := 9, pos := "law.go:56", after := #[{ on := 14, ground := Ground.data }, { on := 8, ground := Ground.guard }], guard := some (8, false) } : Oper)) (v := ?_) rfl (by kernel_rfl) (by kernel_rfl) (by kernel_rfl) (fun _ _ _ h => h) (Or.inl ⟨by rfl, ?_⟩) hS ?_
      rotate_left
      · intro wv hS; have hrun := (HA2.out.below hS).text; go_simp; try with_reducible rfl
      try simp only [Act.put, List.setIfInBounds_toArray, List.set_cons_zero, List.set_cons_succ]
      refine wpAnyH_take (i := 16) (oi := ({ dst := some 44, op := Op.binOp BinOp.neq 9 (Operand.tmp 41) (Operand.tmp 43) 9, type := 4, pos := "law.go:56", after := #[{ on := 13, ground := Ground.data }, { on := 15, ground := Ground.data }, { on := 8, ground := Ground.guard }], guard := some (8, false) } : Oper)) (v := ?_) rfl (by kernel_rfl) (by kernel_rfl) (by kernel_rfl) (fun _ _ _ h => h) (Or.inl ⟨by rfl, ?_⟩) hS ?_
      rotate_left
      · intro wv _; go_simp; try with_reducible rfl
      try simp only [Act.put, List.setIfInBounds_toArray, List.set_cons_zero, List.set_cons_succ]
      refine wpAnyH_take (i := 17) (oi := ({ dst := some 45, op := Op.pick (Operand.tmp 36) (Operand.const (Value.bool true)) (Operand.tmp 44), type := 4, pos := "law.go:56", after := #[{ on := 8, ground := Ground.data }, { on := 16, ground := Ground.data }], guard := none } : Oper)) (v := ?_) rfl (by kernel_rfl) (by kernel_rfl) (by kernel_rfl) (fun _ _ _ h => h) (Or.inl ⟨by rfl, ?_⟩) hS ?_
      rotate_left
      · intro wv _; go_simp; try with_reducible rfl
      try simp only [Act.put, List.setIfInBounds_toArray, List.set_cons_zero, List.set_cons_succ]
      refine wpAnyH_done (by kernel_rfl) ?_ _
      refine NoPanic.normal ?_
      obtain ⟨D1, d1, w3, hap3, hown3, hb3, hbel3⟩ := app_lit0 (P := Try.prog) w2.drew 22 22 5 i5 _ Try.underlying22 HI.out HZ0.out HZ1.out HZ2.out rfl C k cc _ HC2.out.drew (by omega)
      obtain ⟨v4, w4, hap4, hown4, hgr4, hbase4⟩ := app_own (P := Try.prog) w3 w2.drew.heap.size 22 22 5 i5 _ Try.underlying22 HI.out HZ0.out HZ1.out HZ2.out rfl _ k _ hown3 B m d bs (HB2.out.drew.below hbel3) (by omega) hbel3.size
      obtain ⟨D4, d4, rfl, hb4⟩ := Bs.of_own hown4 (fun b hb => by
        rcases List.mem_append.1 hb with h | h
        · exact HC2.out.byte b h
        · exact HB.out.byte b h)
      have hbel4 : Below w2.drew.heap.size w2.drew w4 := hbel3.grown hgr4 hbel3.size (fun k hk => (hown3.lt k hk).1)
      have P4 := varRead_any D4 _ d4 _ n w4 hb4 (by omega)
      have hrb := readS_back xs bs x.toNat (by omega)
      rw [HlA.out] at hrb
      have hlk : (xs ++ vb x.toNat).length = k := HC2.out.len
      rw [hrb, hlk] at P4
      have ex : ((x.toNat : Nat) : Int) = x := by omega
      rw [ex] at P4
      have HP4 := Lib.hid P4
      have HW4 := Lib.hid (HW2.out.drew.trans (hbel4.mono HW2.out.size)); have HC4 := Lib.hid (HC2.out.drew.below hbel4); have HA4 := Lib.hid (HA2.out.drew.below hbel4)
      clear hown3 hb3 hbel3 hown4 hgr4 hbase4 hb4 hbel4 P4 hrb hlk ex hsl
      go_wp2_with (first | (at_builtin; refine wpl_app_run rfl rfl rfl rfl hap3 ?_) | (at_builtin; refine wpl_app_run rfl rfl rfl rfl hap4 ?_))
      refine HP4.out.mono ?_; rintro e w5 ⟨rfl, rfl⟩
      clear hap3 hap4 HP4
      go_wp2_with fail
      have hlk : (xs ++ vb x.toNat).length = k := HC4.out.len
      have hkv := HK.out
      have HLK := Lib.hid hlk; clear hlk hkv
      have hnk : n ≤ k := by have := HK.out; omega
      go_loop [11] (fun iv => ∃ i : Nat, iv = .int .i64 i ∧ n ≤ i ∧ i ≤ k) (fun iv => k - (intOf iv).toNat)
      case atStart => exact ⟨n, rfl, Nat.le_refl _, hnk⟩
      case round =>
        obtain ⟨i, rfl, hi0, hi1⟩ := hrel
        by_cases hik : i < k
        · obtain ⟨E, e1, hsl, he⟩ := HC4.out.sliceh 22 undBytes sizeByte (i : Int) i rfl hi1
          have P5 := varRead_any E _ e1 _ n w4 he (by have := HK.out; omega)
          have hcut := readS_cut xs x.toNat i (by omega) (by rw [HlA.out]; exact hi0) (by rw [HlA.out, ← HK.out]; exact hik)
          rw [HlA.out] at hcut
          rw [hcut] at P5
          have HN := Lib.hid (show n ≤ i + 1 ∧ i + 1 ≤ k by omega)
          clear he hcut
          go_wp2_with fail
          refine P5.mono ?_; rintro e w5 ⟨rfl, rfl⟩
          clear P5
          go_wp2_with fail
          go_round
          case rel => exact ⟨i + 1, by go_num, HN.out.1, HN.out.2⟩
          case measure => have := HN.out; simp [intOf]; omega
        · have hz := zag_range x0 x1
          have hw0 : -9223372036854775808 ≤ wrap64 x := by unfold wrap64; omega
          have hw1 : wrap64 x ≤ 9223372036854775807 := by unfold wrap64; omega
          have hzz := zig_range hw0 hw1
          have e1 := Lib.hid (zig_zag x x0)
          have e2 := Lib.hid (zag_zig (wrap64 x))
          go_wp2_with fail
          refine (zag_any _ _ x0 x1).mono ?_; rintro e w5 ⟨rfl, rfl⟩
          go_wp2_with fail
          refine (zig_any _ _ hz.1 hz.2).mono ?_; rintro e w5 ⟨rfl, rfl⟩
          rw [e1.out]
          go_wp2_with fail
          refine (zig_any _ _ hw0 hw1).mono ?_; rintro e w5 ⟨rfl, rfl⟩
          go_wp2_with fail
          refine (zag_any _ _ hzz.1 hzz.2).mono ?_; rintro e w5 ⟨rfl, rfl⟩
          rw [e2.out]
          go_wp2_with fail
          go_ret
          exact ⟨rfl, HW4.out⟩
end Go.Proofs.Ytmipoigjhilceaa
