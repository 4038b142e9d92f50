/- The walk of RwTurns, one of its arms: it answers true, over any world; no condition. -/
import Derived.Test.YtpkegfochfkkcaaRwXS
import Derived.Deep.Cut
import Derived.Deep.CutRange
namespace Go.Proofs.Ytpkegfochfkkcaa
set_option linter.unusedVariables false
set_option linter.unusedSimpArgs false
open Go.RowKit
set_option maxRecDepth 100000 in
set_option maxHeartbeats 16000000 in
theorem turns16_6 : turns16_skel.2.2.2.2.2.1 := by
  intro nn n c ps B m d bs w NX AL N28 N29 N30 N31 b0 b0n hn1 b1 b1n hm1 k hr hw1 hw2 mn hw3 HMN zz0 w1 zz1 zz2 w2 sO sR sW sI sD sF wr i bg n1 k1 n2 k2 n3 k3 C1 C2 C3 F D I W x0 x1 x2 x3 x4 x5 r1 r2 r3 hi tf HFX c1 i0 i1 b0_ off0 y hcy y0 zz3 zz4 zz5 PX t htm hwy hwt hm0 hm0n hm0m HTT t5 t6 t0 t1 HLT HWT wx1 sf gf wx2 zz6 zz7 zz8 wc zz9 v19 zz10 zz11 zz12 zz13 zz14 bg2 D2 HB2 tf2 wx5 su gu wc3 zz15 zz16 zz17 zz18 zz19 zz20 z0 z4 z5 ghd ggv tf3 wx8 wc4 zz21 zz22 zz23 zz24 zz25 zz26 y1 y2 y3 F3 W3 m1 j1 m2 j2 m3 j3 E1 E2 E3 s1 s2 s3 HW5 HBD tf4 zz27 zz28 wc5 v18 v20 v21 v22 v23 v24 F4 D4 I4 HT HR HM tf5
  go_upto_region 65 with fail
  refine wp_loop (fun a' wr2 => ∃ (v22 v23 v24 : Value) (k2 : Nat), Fra a' 25 [.int .u8 nn, .slice (some ⟨b0_, off0, none⟩) n c, .slice B m d, undef, undef, undef, .bool false, .int .i64 (mn : Int), .pointer (some ⟨sF, 0, none⟩), .pointer (some ⟨sD, 0, none⟩), .pointer (some ⟨sI, 0, none⟩), .pointer (some ⟨sW, 0, none⟩), .pointer (some ⟨sR, 0, none⟩), .pointer (some ⟨sO, 0, none⟩), .int .i64 (bg2 : Int), .int .i64 (i : Int), .int .i64 (t : Int), .pointer (some ⟨sf, 0, none⟩), v18, .pointer (some ⟨su, 0, none⟩), v20, v21, v22, v23, v24] ∧ Hid (v22 = .int .i64 ((ctR F4 D4 I4 3 k2 : Nat) : Int) ∧ v23 = .int .i64 ((ctR F4 D4 I4 10 k2 : Nat) : Int) ∧ v24 = .int .i64 (k2 : Int)) ∧ k2 ≤ mn ∧ Hid (wr2 = wc5)) (fun a' _ => mn - (intOf (a'.tmps.getD 24 undef)).toNat) ?atStart ?round
  case atStart => exact ⟨_, _, _, 0, ⟨by kernel_rfl, rfl, rfl⟩, Lib.hid ⟨rfl, rfl, rfl⟩, by omega, Lib.hid rfl⟩
  case round =>
    skip
    rintro a6 wr2 ⟨w22, w23, w24, k2, hfr, hv, hk2, hwe⟩
    obtain ⟨rfl, rfl, rfl⟩ := hv.out
    clear hv
    obtain rfl := hwe.out
    clear hwe
    obtain ⟨tf6, rfl⟩ := frame25 hfr
    clear hfr
    by_cases hlk : k2 < mn
    rotate_left
    · have en : k2 = mn := by omega
      subst en
      have y1_ : decide ((k2 : Int) < (k2 : Int)) = false := by simp
      have y2_ : decide (k2 < k2) = false := by simp
      obtain ⟨h1, h2⟩ := HM.out.inside (k := k2) (by have := HMN.out; omega)
      obtain ⟨c3, hc3⟩ : ∃ x, ctR F4 D4 I4 3 k2 = x := ⟨_, rfl⟩
      obtain ⟨c10, hc10⟩ : ∃ x, ctR F4 D4 I4 10 k2 = x := ⟨_, rfl⟩
      rw [hc3, hc10] at h2
      rw [hc10] at h1
      rw [hc3, hc10]
      clear hc3 hc10 hlk hk2
      have d1 : decide ((1 : Int) < (c10 : Int)) = false := by simp; omega
      have d1n : decide (1 < c10) = false := by simp; omega
      by_cases hc : c10 = 1
      · have e1 : ((c10 : Int) == 1) = true := by simp [hc]
        have e1n : (c10 == 1) = true := by simp [hc]
        have e3 : decide ((0 : Int) < (c3 : Int)) = false := by have := h2 hc; simp; omega
        have e3n : decide (0 < c3) = false := by have := h2 hc; simp; omega
        clear hc h1 h2
        go_wp2
        refine ⟨?rel, ?measure⟩
        case rel => have := HLT.out; have := HBD.out; have HM2 := HM; have := HB2.out; unfold Rel16; exact ⟨_, _, i + 1, bg2, m1, j1, m2, j2, m3, j3, E1, E2, E3, F4, D4, I4, W3, z0, y1, y2, y3, z4, z5, s1, s2, s3, ⟨by kernel_rfl, rfl, rfl⟩, Lib.hid ⟨rfl, by go_num⟩, by omega, by omega, by omega, by omega, by omega, Lib.hid (by first | exact HW5.out | exact (updN_ne (by have := t5.out; omega)).trans HW5.out), HT, HR, HM2⟩
        case measure => have := HLT.out; simp [intOf]; omega
      · have e1 : ((c10 : Int) == 1) = false := by simp; omega
        have e1n : (c10 == 1) = false := by simp; omega
        clear hc h1 h2
        go_wp2
        refine ⟨?rel, ?measure⟩
        case rel => have := HLT.out; have := HBD.out; have HM2 := HM; have := HB2.out; unfold Rel16; exact ⟨_, _, i + 1, bg2, m1, j1, m2, j2, m3, j3, E1, E2, E3, F4, D4, I4, W3, z0, y1, y2, y3, z4, z5, s1, s2, s3, ⟨by kernel_rfl, rfl, rfl⟩, Lib.hid ⟨rfl, by go_num⟩, by omega, by omega, by omega, by omega, by omega, Lib.hid (by first | exact HW5.out | exact (updN_ne (by have := t5.out; omega)).trans HW5.out), HT, HR, HM2⟩
        case measure => have := HLT.out; simp [intOf]; omega
    have y1_ : decide ((k2 : Int) < (mn : Int)) = true := by simpa using hlk
    have y2_ : decide (k2 < mn) = true := by simpa using hlk
    have k0 : (0 : Int) ≤ (k2 : Int) := by omega
    have k1 : (k2 : Int) < 5 := by have := HMN.out; omega
    have k25 := Lib.hid (show k2 < 5 from by have := HMN.out; omega)
    have HLK := Lib.hid hlk
    clear hlk hk2
    have HC3 := Lib.hid (ctR_k F4 D4 I4 3 k2)
    have HC10 := Lib.hid (ctR_k F4 D4 I4 10 k2)
    have hs3 : ctR F4 D4 I4 3 (k2 + 1) = ctR F4 D4 I4 3 k2 + (if clR (F4 k2) (D4 k2) (I4 k2) = 3 then 1 else 0) := rfl
    have hs10 : ctR F4 D4 I4 10 (k2 + 1) = ctR F4 D4 I4 10 k2 + (if clR (F4 k2) (D4 k2) (I4 k2) = 10 then 1 else 0) := rfl
    have hin := (HM.out.ok k2 (by have := k25.out; omega)).inn
    have p3 := cl3 (F4 k2) (D4 k2) (I4 k2)
    have p10 := cl10 (F4 k2) (D4 k2) (I4 k2)
    have ci := HT.out.ins k25.out
    have cf := (HT.out.frame k25.out).2.1
    have cd := HT.out.doe k25.out
    obtain ⟨st2, hst2⟩ : ∃ x, (F4 k2).stage = x := ⟨_, rfl⟩
    obtain ⟨dd2, hdd2⟩ : ∃ x, D4 k2 = x := ⟨_, rfl⟩
    obtain ⟨ii2, hii2⟩ : ∃ x, I4 k2 = x := ⟨_, rfl⟩
    rw [hst2] at cf
    rw [hdd2] at cd
    rw [hii2] at ci
    rw [hst2, hdd2, hii2] at p3 p10
    rw [hdd2, hii2] at hin
    skip
    cases ii2
    · skip
      have q3 : ctR F4 D4 I4 3 (k2 + 1) = ctR F4 D4 I4 3 k2 := by rw [hs3, if_neg (by rw [hii2, hdd2, p3]; simp_all), Nat.add_zero]
      have q10 : ctR F4 D4 I4 10 (k2 + 1) = ctR F4 D4 I4 10 k2 := by rw [hs10, if_neg (by rw [hii2, hdd2, p10]; simp_all), Nat.add_zero]
      have Q3 := Lib.hid q3; have Q10 := Lib.hid q10
      clear q3 q10 hs3 hs10 p3 p10 hin hst2 hdd2 hii2
      obtain ⟨c3, hc3⟩ : ∃ x, ctR F4 D4 I4 3 k2 = x := ⟨_, rfl⟩
      obtain ⟨c10, hc10⟩ : ∃ x, ctR F4 D4 I4 10 k2 = x := ⟨_, rfl⟩
      rw [hc3] at HC3 Q3
      rw [hc10] at HC10 Q10
      rw [hc3, hc10]
      clear hc3 hc10
      have c3a : (0 : Int) ≤ (c3 : Int) := by omega
      have c3b : (c3 : Int) < 6 := by have := HC3.out; have := k25.out; omega
      have c10a : (0 : Int) ≤ (c10 : Int) := by omega
      have c10b : (c10 : Int) < 6 := by have := HC10.out; have := k25.out; omega
      go_wp2
      refine ⟨?rel, ?measure⟩
      case rel => have := HLK.out; have := HC3.out; have := HC10.out; have := k25.out; exact ⟨_, _, _, k2 + 1, ⟨by kernel_rfl, rfl, rfl⟩, Lib.hid ⟨by rw [Q3.out] <;> go_num, by rw [Q10.out] <;> go_num, by go_num⟩, by omega, Lib.hid (by first | rfl | trivial)⟩
      case measure => have := HLK.out; simp [intOf]; omega
    · by_cases hz : st2 = 0
      rotate_left
      · have s1 : (st2 == 0) = false := by simp [hz]
        have q3 : ctR F4 D4 I4 3 (k2 + 1) = ctR F4 D4 I4 3 k2 := by rw [hs3, if_neg (by rw [hii2, hdd2, p3]; simp_all), Nat.add_zero]
        have q10 : ctR F4 D4 I4 10 (k2 + 1) = ctR F4 D4 I4 10 k2 := by rw [hs10, if_neg (by rw [hii2, hdd2, p10]; simp_all), Nat.add_zero]
        have Q3 := Lib.hid q3; have Q10 := Lib.hid q10
        clear q3 q10 hs3 hs10 p3 p10 hin hst2 hdd2 hii2
        obtain ⟨c3, hc3⟩ : ∃ x, ctR F4 D4 I4 3 k2 = x := ⟨_, rfl⟩
        obtain ⟨c10, hc10⟩ : ∃ x, ctR F4 D4 I4 10 k2 = x := ⟨_, rfl⟩
        rw [hc3] at HC3 Q3
        rw [hc10] at HC10 Q10
        rw [hc3, hc10]
        clear hc3 hc10
        have c3a : (0 : Int) ≤ (c3 : Int) := by omega
        have c3b : (c3 : Int) < 6 := by have := HC3.out; have := k25.out; omega
        have c10a : (0 : Int) ≤ (c10 : Int) := by omega
        have c10b : (c10 : Int) < 6 := by have := HC10.out; have := k25.out; omega
        go_wp2
        refine ⟨?rel, ?measure⟩
        case rel => have := HLK.out; have := HC3.out; have := HC10.out; have := k25.out; exact ⟨_, _, _, k2 + 1, ⟨by kernel_rfl, rfl, rfl⟩, Lib.hid ⟨by rw [Q3.out] <;> go_num, by rw [Q10.out] <;> go_num, by go_num⟩, by omega, Lib.hid (by first | rfl | trivial)⟩
        case measure => have := HLK.out; simp [intOf]; omega
      · have s1 : (st2 == 0) = true := by simp [hz]
        rcases (hin rfl).1 with h9 | h9
        · subst h9
          have q3 : ctR F4 D4 I4 3 (k2 + 1) = ctR F4 D4 I4 3 k2 + 1 := by rw [hs3, if_pos (by rw [hii2, hdd2, p3]; simp_all)]
          have q10 : ctR F4 D4 I4 10 (k2 + 1) = ctR F4 D4 I4 10 k2 := by rw [hs10, if_neg (by rw [hii2, hdd2, p10]; simp_all), Nat.add_zero]
          have Q3 := Lib.hid q3; have Q10 := Lib.hid q10
          clear q3 q10 hs3 hs10 p3 p10 hin hst2 hdd2 hii2
          obtain ⟨c3, hc3⟩ : ∃ x, ctR F4 D4 I4 3 k2 = x := ⟨_, rfl⟩
          obtain ⟨c10, hc10⟩ : ∃ x, ctR F4 D4 I4 10 k2 = x := ⟨_, rfl⟩
          rw [hc3] at HC3 Q3
          rw [hc10] at HC10 Q10
          rw [hc3, hc10]
          clear hc3 hc10
          have c3a : (0 : Int) ≤ (c3 : Int) := by omega
          have c3b : (c3 : Int) < 6 := by have := HC3.out; have := k25.out; omega
          have c10a : (0 : Int) ≤ (c10 : Int) := by omega
          have c10b : (c10 : Int) < 6 := by have := HC10.out; have := k25.out; omega
          go_wp2
          refine ⟨?rel, ?measure⟩
          case rel => have := HLK.out; have := HC3.out; have := HC10.out; have := k25.out; exact ⟨_, _, _, k2 + 1, ⟨by kernel_rfl, rfl, rfl⟩, Lib.hid ⟨by rw [Q3.out] <;> go_num, by rw [Q10.out] <;> go_num, by go_num⟩, by omega, Lib.hid (by first | rfl | trivial)⟩
          case measure => have := HLK.out; simp [intOf]; omega
        · subst h9
          have q3 : ctR F4 D4 I4 3 (k2 + 1) = ctR F4 D4 I4 3 k2 := by rw [hs3, if_neg (by rw [hii2, hdd2, p3]; simp_all), Nat.add_zero]
          have q10 : ctR F4 D4 I4 10 (k2 + 1) = ctR F4 D4 I4 10 k2 + 1 := by rw [hs10, if_pos (by rw [hii2, hdd2, p10]; simp_all)]
          have Q3 := Lib.hid q3; have Q10 := Lib.hid q10
          clear q3 q10 hs3 hs10 p3 p10 hin hst2 hdd2 hii2
          obtain ⟨c3, hc3⟩ : ∃ x, ctR F4 D4 I4 3 k2 = x := ⟨_, rfl⟩
          obtain ⟨c10, hc10⟩ : ∃ x, ctR F4 D4 I4 10 k2 = x := ⟨_, rfl⟩
          rw [hc3] at HC3 Q3
          rw [hc10] at HC10 Q10
          rw [hc3, hc10]
          clear hc3 hc10
          have c3a : (0 : Int) ≤ (c3 : Int) := by omega
          have c3b : (c3 : Int) < 6 := by have := HC3.out; have := k25.out; omega
          have c10a : (0 : Int) ≤ (c10 : Int) := by omega
          have c10b : (c10 : Int) < 6 := by have := HC10.out; have := k25.out; omega
          go_wp2
          refine ⟨?rel, ?measure⟩
          case rel => have := HLK.out; have := HC3.out; have := HC10.out; have := k25.out; exact ⟨_, _, _, k2 + 1, ⟨by kernel_rfl, rfl, rfl⟩, Lib.hid ⟨by rw [Q3.out] <;> go_num, by rw [Q10.out] <;> go_num, by go_num⟩, by omega, Lib.hid (by first | rfl | trivial)⟩
          case measure => have := HLK.out; simp [intOf]; omega
end Go.Proofs.Ytpkegfochfkkcaa
