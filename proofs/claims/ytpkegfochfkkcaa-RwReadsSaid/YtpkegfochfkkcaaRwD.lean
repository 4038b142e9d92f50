/- Layer 16: what the document's own RLock and RUnlock answer; no condition. -/
import Derived.Test.YtpkegfochfkkcaaRwB
namespace Go.Proofs.Ytpkegfochfkkcaa
set_option linter.unusedVariables false
set_option linter.unusedSimpArgs false
open Go.RowKit
set_option maxRecDepth 100000 in
set_option maxHeartbeats 16000000 in
theorem rlock16_any (kd o0 o1 o2 o3 o4 o5 wa to : Int) (A : Option Addr) (n c : Nat) (B : Option Addr) (m d : Nat) (f : MFr) (w : World) : Calls Try.prog 10 #[obV kd o0 o1 o2 o3 o4 o5 wa to A n c B m d, frV f] w (StepR w kd o1 o2 o3 wa to A n c B m d (rlockW o0 o4 o5 f)) := by
  obtain ⟨op, stage, phase, old, since, left, awoke, starve, need, front⟩ := f
  unfold obV frV frC
  simp only
  obtain ⟨v1, hv1, z1, v2, hv2, z2, v3, hv3, z3, v4, hv4, z4, v5, hv5, z5, F⟩ := boxes5 w (.cells #[.int .i64 kd, .int .i64 o0, .int .i64 o1, .int .i64 o2, .int .i64 o3, .int .i64 o4, .int .i64 o5, .int .u32 wa, .int .u32 to, .slice A n c, .slice B m d] 29) (.cells #[.int .i64 op, .int .i64 stage, .int .i64 phase, .int .i64 old, .int .i64 since, .int .i64 left, .bool awoke, .bool starve, .int .i64 need, .bool front] 31) (.cells #[.int .i64 0, .int .i64 0, .int .i64 0, .int .i64 0, .int .i64 0, .int .i64 0, .int .i64 0, .int .u32 0, .int .u32 0, .slice none 0 0, .slice none 0 0] 29) (.cells #[.int .i64 0, .int .i64 0, .int .i64 0, .int .i64 0, .int .i64 0, .int .i64 0, .bool false, .bool false, .int .i64 0, .bool false] 31) (.cells #[.bool false, .bool false, .bool false, .int .i64 0, .int .i64 0, .int .u64 0, .slice none 0 0] 38)
  generalize hq : w.heap.size = q at *
  have FR := Lib.hid F
  clear F
  by_cases s1 : stage = 1
  · subst s1
    have HE := Lib.hid (show rlockW o0 o4 o5 ⟨op, 1, phase, old, since, left, awoke, starve, need, front⟩ = ((o0, o4, o5), noF, doneA) from by
      unfold rlockW
      exact if_pos rfl)
    go_enter Try.func10, Try.ntmps10
    have ac0 := row11 (b := q) (FR.out.at 0 rfl rfl)
    have ac1 := row10 (b := q + 1) (FR.out.at 1 rfl rfl)
    go_wp2_with fail
    refine (over16_any _ _ _ _ _ _ _ _ _ _ _ _ _ _ _ _).mono ?_
    rintro e w7 ⟨rfl, hb⟩
    clear ac0 ac1
    replace FR := Lib.hid (FR.out.step hb)
    clear hb
    obtain ⟨mw6r, w6r, hw6r, hse, F⟩ := FR.out.put11 2 rfl (b := q + 2) rfl (.int .i64 kd) (.int .i64 o0) (.int .i64 o1) (.int .i64 o2) (.int .i64 o3) (.int .i64 o4) (.int .i64 o5) (.int .u32 wa) (.int .u32 to) (.slice A n c) (.slice B m d)
    replace FR := F
    clear F hse
    obtain ⟨mw7r, w7r, hw7r, hse, F⟩ := FR.out.put10 3 rfl (b := q + 3) rfl (.int .i64 0) (.int .i64 0) (.int .i64 0) (.int .i64 0) (.int .i64 0) (.int .i64 0) (.bool false) (.bool false) (.int .i64 0) (.bool false)
    replace FR := F
    clear F hse
    obtain ⟨mw8r, w8r, hw8r, hse, F⟩ := FR.out.put7 4 rfl (b := q + 4) rfl (.bool true) (.bool false) (.bool false) (.int .i64 0) (.int .i64 0) (.int .u64 0) (.slice none 0 0)
    replace FR := F
    clear F hse
    go_wp2
    refine bodyPost_ret (res_ccc Try.results10 (by rfl) (by rfl) (by rfl) (FR.out.load 2 rfl rfl Try.underlying29 (by kernel_rfl)) (FR.out.load 3 rfl rfl Try.underlying31 (by kernel_rfl)) (FR.out.load 4 rfl rfl Try.underlying38 (by kernel_rfl))) rfl ?_
    rw [HE.out]
    exact ⟨rfl, FR.out.out⟩
  have n1 : (stage == 1) = false := by simp [s1]
  by_cases s0 : stage = 0
  rotate_left
  · have n0 : (stage != 0) = true := by simp [s0]
    have HE := Lib.hid (show rlockW o0 o4 o5 ⟨op, stage, phase, old, since, left, awoke, starve, need, front⟩ = ((o0, o4, o5), ⟨op, stage, phase, old, since, left, awoke, starve, need, front⟩, noA) from by
      unfold rlockW
      rw [if_neg s1, if_pos s0])
    clear s0 s1
    go_enter Try.func10, Try.ntmps10
    have ac0 := row11 (b := q) (FR.out.at 0 rfl rfl)
    have ac1 := row10 (b := q + 1) (FR.out.at 1 rfl rfl)
    go_wp2_with fail
    refine (on16_any _ _ _ _ _ _ _ _ _ _ _ _ _ _ _ _ _ _ _ _ _ _ _ _ _ _).mono ?_
    rintro e w7 ⟨rfl, hb⟩
    clear ac0 ac1
    replace FR := Lib.hid (FR.out.step hb)
    clear hb
    obtain ⟨mw6r, w6r, hw6r, hse, F⟩ := FR.out.put11 2 rfl (b := q + 2) rfl (.int .i64 kd) (.int .i64 o0) (.int .i64 o1) (.int .i64 o2) (.int .i64 o3) (.int .i64 o4) (.int .i64 o5) (.int .u32 wa) (.int .u32 to) (.slice A n c) (.slice B m d)
    replace FR := F
    clear F hse
    obtain ⟨mw7r, w7r, hw7r, hse, F⟩ := FR.out.put10 3 rfl (b := q + 3) rfl (.int .i64 op) (.int .i64 stage) (.int .i64 phase) (.int .i64 old) (.int .i64 since) (.int .i64 left) (.bool awoke) (.bool starve) (.int .i64 need) (.bool front)
    replace FR := F
    clear F hse
    obtain ⟨mw8r, w8r, hw8r, hse, F⟩ := FR.out.put7 4 rfl (b := q + 4) rfl (.bool false) (.bool false) (.bool false) (.int .i64 0) (.int .i64 0) (.int .u64 0) (.slice none 0 0)
    replace FR := F
    clear F hse
    go_wp2
    refine bodyPost_ret (res_ccc Try.results10 (by rfl) (by rfl) (by rfl) (FR.out.load 2 rfl rfl Try.underlying29 (by kernel_rfl)) (FR.out.load 3 rfl rfl Try.underlying31 (by kernel_rfl)) (FR.out.load 4 rfl rfl Try.underlying38 (by kernel_rfl))) rfl ?_
    rw [HE.out]
    exact ⟨rfl, FR.out.out⟩
  · subst s0
    obtain ⟨x, hx⟩ : ∃ x, IntKind.i64.wrap (o4 + 1) = x := ⟨_, rfl⟩
    have HO : rlockW o0 o4 o5 ⟨op, 0, phase, old, since, left, awoke, starve, need, front⟩ = (if x < 0 then ((o0, x, o5), ⟨op, 1, phase, old, since, left, awoke, starve, 4, front⟩, noA) else ((o0, x, o5), noF, doneA)) := by
      unfold rlockW
      rw [if_neg (show ¬ ((0 : Int) = 1) by decide), if_neg (fun h => h rfl), hx]
    clear s1 n1
    by_cases hx0 : x < 0
    · have c0 : decide (x < 0) = true := decide_eq_true hx0
      have HE := Lib.hid (HO.trans (if_pos hx0))
      clear HO hx0
      go_enter Try.func10, Try.ntmps10
      have ac0 := row11 (b := q) (FR.out.at 0 rfl rfl)
      have af05 : v5.frozen? ⟨q, 5, none⟩ = false := FR.out.frozen 0 5 rfl rfl
      have ac1 := row10 (b := q + 1) (FR.out.at 1 rfl rfl)
      obtain ⟨w6p, hw6p⟩ : ∃ W, (v5.setCell ⟨q, 5, none⟩ (.int .i64 x)) = W := ⟨_, rfl⟩
      replace FR := Lib.hid (((FR.out.set 0 5 rfl rfl (.int .i64 x))).eqw hw6p)
      have bc0 := row11 (b := q) (FR.out.at 0 rfl rfl)
      have bc1 := row10 (b := q + 1) (FR.out.at 1 rfl rfl)
      have bf11 : w6p.frozen? ⟨q + 1, 1, none⟩ = false := FR.out.frozen 1 1 rfl rfl
      have bf18 : w6p.frozen? ⟨q + 1, 8, none⟩ = false := FR.out.frozen 1 8 rfl rfl
      obtain ⟨w7p, hw7p⟩ : ∃ W, ((w6p.setCell ⟨q + 1, 1, none⟩ (.int .i64 1)).setCell ⟨q + 1, 8, none⟩ (.int .i64 4)) = W := ⟨_, rfl⟩
      replace FR := Lib.hid ((((FR.out.set 1 1 rfl rfl (.int .i64 1)).set 1 8 rfl rfl (.int .i64 4))).eqw hw7p)
      have cc0 := row11 (b := q) (FR.out.at 0 rfl rfl)
      have cc1 := row10 (b := q + 1) (FR.out.at 1 rfl rfl)
      go_wp2_with fail
      refine (on16_any _ _ _ _ _ _ _ _ _ _ _ _ _ _ _ _ _ _ _ _ _ _ _ _ _ _).mono ?_
      rintro e w7 ⟨rfl, hb⟩
      clear ac0 af05 ac1 bc0 bc1 bf11 bf18 cc0 cc1
      clear hw6p hw7p
      replace FR := Lib.hid (FR.out.step hb)
      clear hb
      obtain ⟨mw8r, w8r, hw8r, hse, F⟩ := FR.out.put11 2 rfl (b := q + 2) rfl (.int .i64 kd) (.int .i64 o0) (.int .i64 o1) (.int .i64 o2) (.int .i64 o3) (.int .i64 x) (.int .i64 o5) (.int .u32 wa) (.int .u32 to) (.slice A n c) (.slice B m d)
      replace FR := F
      clear F hse
      obtain ⟨mw9r, w9r, hw9r, hse, F⟩ := FR.out.put10 3 rfl (b := q + 3) rfl (.int .i64 op) (.int .i64 1) (.int .i64 phase) (.int .i64 old) (.int .i64 since) (.int .i64 left) (.bool awoke) (.bool starve) (.int .i64 4) (.bool front)
      replace FR := F
      clear F hse
      obtain ⟨mw10r, w10r, hw10r, hse, F⟩ := FR.out.put7 4 rfl (b := q + 4) rfl (.bool false) (.bool false) (.bool false) (.int .i64 0) (.int .i64 0) (.int .u64 0) (.slice none 0 0)
      replace FR := F
      clear F hse
      go_wp2
      refine bodyPost_ret (res_ccc Try.results10 (by rfl) (by rfl) (by rfl) (FR.out.load 2 rfl rfl Try.underlying29 (by kernel_rfl)) (FR.out.load 3 rfl rfl Try.underlying31 (by kernel_rfl)) (FR.out.load 4 rfl rfl Try.underlying38 (by kernel_rfl))) rfl ?_
      rw [HE.out]
      exact ⟨rfl, FR.out.out⟩
    · have c0 : decide (x < 0) = false := decide_eq_false hx0
      have HE := Lib.hid (HO.trans (if_neg hx0))
      clear HO hx0
      go_enter Try.func10, Try.ntmps10
      have ac0 := row11 (b := q) (FR.out.at 0 rfl rfl)
      have af05 : v5.frozen? ⟨q, 5, none⟩ = false := FR.out.frozen 0 5 rfl rfl
      have ac1 := row10 (b := q + 1) (FR.out.at 1 rfl rfl)
      obtain ⟨w6p, hw6p⟩ : ∃ W, (v5.setCell ⟨q, 5, none⟩ (.int .i64 x)) = W := ⟨_, rfl⟩
      replace FR := Lib.hid (((FR.out.set 0 5 rfl rfl (.int .i64 x))).eqw hw6p)
      have bc0 := row11 (b := q) (FR.out.at 0 rfl rfl)
      have bc1 := row10 (b := q + 1) (FR.out.at 1 rfl rfl)
      go_wp2_with fail
      refine (over16_any _ _ _ _ _ _ _ _ _ _ _ _ _ _ _ _).mono ?_
      rintro e w7 ⟨rfl, hb⟩
      clear ac0 af05 ac1 bc0 bc1
      clear hw6p
      replace FR := Lib.hid (FR.out.step hb)
      clear hb
      obtain ⟨mw7r, w7r, hw7r, hse, F⟩ := FR.out.put11 2 rfl (b := q + 2) rfl (.int .i64 kd) (.int .i64 o0) (.int .i64 o1) (.int .i64 o2) (.int .i64 o3) (.int .i64 x) (.int .i64 o5) (.int .u32 wa) (.int .u32 to) (.slice A n c) (.slice B m d)
      replace FR := F
      clear F hse
      obtain ⟨mw8r, w8r, hw8r, hse, F⟩ := FR.out.put10 3 rfl (b := q + 3) rfl (.int .i64 0) (.int .i64 0) (.int .i64 0) (.int .i64 0) (.int .i64 0) (.int .i64 0) (.bool false) (.bool false) (.int .i64 0) (.bool false)
      replace FR := F
      clear F hse
      obtain ⟨mw9r, w9r, hw9r, hse, F⟩ := FR.out.put7 4 rfl (b := q + 4) rfl (.bool true) (.bool false) (.bool false) (.int .i64 0) (.int .i64 0) (.int .u64 0) (.slice none 0 0)
      replace FR := F
      clear F hse
      go_wp2
      refine bodyPost_ret (res_ccc Try.results10 (by rfl) (by rfl) (by rfl) (FR.out.load 2 rfl rfl Try.underlying29 (by kernel_rfl)) (FR.out.load 3 rfl rfl Try.underlying31 (by kernel_rfl)) (FR.out.load 4 rfl rfl Try.underlying38 (by kernel_rfl))) rfl ?_
      rw [HE.out]
      exact ⟨rfl, FR.out.out⟩
set_option maxRecDepth 100000 in
set_option maxHeartbeats 16000000 in
theorem runlock16_any (kd o0 o1 o2 o3 o4 o5 wa to : Int) (A : Option Addr) (n c : Nat) (B : Option Addr) (m d : Nat) (f : MFr) (w : World) : Calls Try.prog 12 #[obV kd o0 o1 o2 o3 o4 o5 wa to A n c B m d, frV f] w (StepR w kd o1 o2 o3 wa to A n c B m d (runlockW o0 o4 o5 f)) := by
  obtain ⟨op, stage, phase, old, since, left, awoke, starve, need, front⟩ := f
  unfold obV frV frC
  simp only
  obtain ⟨v1, hv1, z1, v2, hv2, z2, v3, hv3, z3, v4, hv4, z4, v5, hv5, z5, F⟩ := boxes5 w (.cells #[.int .i64 kd, .int .i64 o0, .int .i64 o1, .int .i64 o2, .int .i64 o3, .int .i64 o4, .int .i64 o5, .int .u32 wa, .int .u32 to, .slice A n c, .slice B m d] 29) (.cells #[.int .i64 op, .int .i64 stage, .int .i64 phase, .int .i64 old, .int .i64 since, .int .i64 left, .bool awoke, .bool starve, .int .i64 need, .bool front] 31) (.cells #[.int .i64 0, .int .i64 0, .int .i64 0, .int .i64 0, .int .i64 0, .int .i64 0, .int .i64 0, .int .u32 0, .int .u32 0, .slice none 0 0, .slice none 0 0] 29) (.cells #[.int .i64 0, .int .i64 0, .int .i64 0, .int .i64 0, .int .i64 0, .int .i64 0, .bool false, .bool false, .int .i64 0, .bool false] 31) (.cells #[.bool false, .bool false, .bool false, .int .i64 0, .int .i64 0, .int .u64 0, .slice none 0 0] 38)
  generalize hq : w.heap.size = q at *
  have FR := Lib.hid F
  clear F
  by_cases s0 : stage = 0
  · subst s0
    obtain ⟨x, hx⟩ : ∃ x, IntKind.i64.wrap (o4 - 1) = x := ⟨_, rfl⟩
    have HO : runlockW o0 o4 o5 ⟨op, 0, phase, old, since, left, awoke, starve, need, front⟩ = (if o4 = 0 ∨ o4 = -1048576 then ((o0, o4, o5), noF, faultA) else if x < 0 then ((o0, x, o5), ⟨op, 1, phase, old, since, left, awoke, starve, need, front⟩, noA) else ((o0, x, o5), noF, doneA)) := by
      unfold runlockW
      rw [if_pos rfl, hx]
    by_cases h0 : o4 = 0
    · have c0 : (o4 == 0) = true := by simp [h0]
      have HE := Lib.hid (HO.trans (if_pos (Or.inl h0)))
      clear HO h0
      go_enter Try.func12, Try.ntmps12
      have ac0 := row11 (b := q) (FR.out.at 0 rfl rfl)
      have ac1 := row10 (b := q + 1) (FR.out.at 1 rfl rfl)
      go_wp2_with fail
      refine (fault16_any _ _ _ _ _ _ _ _ _ _ _ _ _ _ _ _).mono ?_
      rintro e w7 ⟨rfl, hb⟩
      clear ac0 ac1
      replace FR := Lib.hid (FR.out.step hb)
      clear hb
      obtain ⟨mw6r, w6r, hw6r, hse, F⟩ := FR.out.put11 2 rfl (b := q + 2) rfl (.int .i64 kd) (.int .i64 o0) (.int .i64 o1) (.int .i64 o2) (.int .i64 o3) (.int .i64 o4) (.int .i64 o5) (.int .u32 wa) (.int .u32 to) (.slice A n c) (.slice B m d)
      replace FR := F
      clear F hse
      obtain ⟨mw7r, w7r, hw7r, hse, F⟩ := FR.out.put10 3 rfl (b := q + 3) rfl (.int .i64 0) (.int .i64 0) (.int .i64 0) (.int .i64 0) (.int .i64 0) (.int .i64 0) (.bool false) (.bool false) (.int .i64 0) (.bool false)
      replace FR := F
      clear F hse
      obtain ⟨mw8r, w8r, hw8r, hse, F⟩ := FR.out.put7 4 rfl (b := q + 4) rfl (.bool false) (.bool false) (.bool false) (.int .i64 0) (.int .i64 1) (.int .u64 0) (.slice none 0 0)
      replace FR := F
      clear F hse
      go_wp2
      refine bodyPost_ret (res_ccc Try.results12 (by rfl) (by rfl) (by rfl) (FR.out.load 2 rfl rfl Try.underlying29 (by kernel_rfl)) (FR.out.load 3 rfl rfl Try.underlying31 (by kernel_rfl)) (FR.out.load 4 rfl rfl Try.underlying38 (by kernel_rfl))) rfl ?_
      rw [HE.out]
      exact ⟨rfl, FR.out.out⟩
    · have c0 : (o4 == 0) = false := by simp [h0]
      by_cases h1 : o4 = -1048576
      · have c1 : (o4 == -1048576) = true := by simp [h1]
        have HE := Lib.hid (HO.trans (if_pos (Or.inr h1)))
        clear HO h0 h1
        go_enter Try.func12, Try.ntmps12
        have ac0 := row11 (b := q) (FR.out.at 0 rfl rfl)
        have ac1 := row10 (b := q + 1) (FR.out.at 1 rfl rfl)
        go_wp2_with fail
        refine (fault16_any _ _ _ _ _ _ _ _ _ _ _ _ _ _ _ _).mono ?_
        rintro e w7 ⟨rfl, hb⟩
        clear ac0 ac1
        replace FR := Lib.hid (FR.out.step hb)
        clear hb
        obtain ⟨mw6r, w6r, hw6r, hse, F⟩ := FR.out.put11 2 rfl (b := q + 2) rfl (.int .i64 kd) (.int .i64 o0) (.int .i64 o1) (.int .i64 o2) (.int .i64 o3) (.int .i64 o4) (.int .i64 o5) (.int .u32 wa) (.int .u32 to) (.slice A n c) (.slice B m d)
        replace FR := F
        clear F hse
        obtain ⟨mw7r, w7r, hw7r, hse, F⟩ := FR.out.put10 3 rfl (b := q + 3) rfl (.int .i64 0) (.int .i64 0) (.int .i64 0) (.int .i64 0) (.int .i64 0) (.int .i64 0) (.bool false) (.bool false) (.int .i64 0) (.bool false)
        replace FR := F
        clear F hse
        obtain ⟨mw8r, w8r, hw8r, hse, F⟩ := FR.out.put7 4 rfl (b := q + 4) rfl (.bool false) (.bool false) (.bool false) (.int .i64 0) (.int .i64 1) (.int .u64 0) (.slice none 0 0)
        replace FR := F
        clear F hse
        go_wp2
        refine bodyPost_ret (res_ccc Try.results12 (by rfl) (by rfl) (by rfl) (FR.out.load 2 rfl rfl Try.underlying29 (by kernel_rfl)) (FR.out.load 3 rfl rfl Try.underlying31 (by kernel_rfl)) (FR.out.load 4 rfl rfl Try.underlying38 (by kernel_rfl))) rfl ?_
        rw [HE.out]
        exact ⟨rfl, FR.out.out⟩
      · have c1 : (o4 == -1048576) = false := by simp [h1]
        replace HO := HO.trans (if_neg (fun h => by rcases h with h | h; exact h0 h; exact h1 h))
        clear h0 h1
        by_cases hx0 : x < 0
        · have c2 : decide (x < 0) = true := decide_eq_true hx0
          have HE := Lib.hid (HO.trans (if_pos hx0))
          clear HO hx0
          go_enter Try.func12, Try.ntmps12
          have ac0 := row11 (b := q) (FR.out.at 0 rfl rfl)
          have af05 : v5.frozen? ⟨q, 5, none⟩ = false := FR.out.frozen 0 5 rfl rfl
          have ac1 := row10 (b := q + 1) (FR.out.at 1 rfl rfl)
          obtain ⟨w6p, hw6p⟩ : ∃ W, (v5.setCell ⟨q, 5, none⟩ (.int .i64 x)) = W := ⟨_, rfl⟩
          replace FR := Lib.hid (((FR.out.set 0 5 rfl rfl (.int .i64 x))).eqw hw6p)
          have bc0 := row11 (b := q) (FR.out.at 0 rfl rfl)
          have bc1 := row10 (b := q + 1) (FR.out.at 1 rfl rfl)
          have bf11 : w6p.frozen? ⟨q + 1, 1, none⟩ = false := FR.out.frozen 1 1 rfl rfl
          obtain ⟨w7p, hw7p⟩ : ∃ W, (w6p.setCell ⟨q + 1, 1, none⟩ (.int .i64 1)) = W := ⟨_, rfl⟩
          replace FR := Lib.hid (((FR.out.set 1 1 rfl rfl (.int .i64 1))).eqw hw7p)
          have cc0 := row11 (b := q) (FR.out.at 0 rfl rfl)
          have cc1 := row10 (b := q + 1) (FR.out.at 1 rfl rfl)
          go_wp2_with fail
          refine (on16_any _ _ _ _ _ _ _ _ _ _ _ _ _ _ _ _ _ _ _ _ _ _ _ _ _ _).mono ?_
          rintro e w7 ⟨rfl, hb⟩
          clear ac0 af05 ac1 bc0 bc1 bf11 cc0 cc1
          clear hw6p hw7p
          replace FR := Lib.hid (FR.out.step hb)
          clear hb
          obtain ⟨mw8r, w8r, hw8r, hse, F⟩ := FR.out.put11 2 rfl (b := q + 2) rfl (.int .i64 kd) (.int .i64 o0) (.int .i64 o1) (.int .i64 o2) (.int .i64 o3) (.int .i64 x) (.int .i64 o5) (.int .u32 wa) (.int .u32 to) (.slice A n c) (.slice B m d)
          replace FR := F
          clear F hse
          obtain ⟨mw9r, w9r, hw9r, hse, F⟩ := FR.out.put10 3 rfl (b := q + 3) rfl (.int .i64 op) (.int .i64 1) (.int .i64 phase) (.int .i64 old) (.int .i64 since) (.int .i64 left) (.bool awoke) (.bool starve) (.int .i64 need) (.bool front)
          replace FR := F
          clear F hse
          obtain ⟨mw10r, w10r, hw10r, hse, F⟩ := FR.out.put7 4 rfl (b := q + 4) rfl (.bool false) (.bool false) (.bool false) (.int .i64 0) (.int .i64 0) (.int .u64 0) (.slice none 0 0)
          replace FR := F
          clear F hse
          go_wp2
          refine bodyPost_ret (res_ccc Try.results12 (by rfl) (by rfl) (by rfl) (FR.out.load 2 rfl rfl Try.underlying29 (by kernel_rfl)) (FR.out.load 3 rfl rfl Try.underlying31 (by kernel_rfl)) (FR.out.load 4 rfl rfl Try.underlying38 (by kernel_rfl))) rfl ?_
          rw [HE.out]
          exact ⟨rfl, FR.out.out⟩
        · have c2 : decide (x < 0) = false := decide_eq_false hx0
          have HE := Lib.hid (HO.trans (if_neg hx0))
          clear HO hx0
          go_enter Try.func12, Try.ntmps12
          have ac0 := row11 (b := q) (FR.out.at 0 rfl rfl)
          have af05 : v5.frozen? ⟨q, 5, none⟩ = false := FR.out.frozen 0 5 rfl rfl
          have ac1 := row10 (b := q + 1) (FR.out.at 1 rfl rfl)
          obtain ⟨w6p, hw6p⟩ : ∃ W, (v5.setCell ⟨q, 5, none⟩ (.int .i64 x)) = W := ⟨_, rfl⟩
          replace FR := Lib.hid (((FR.out.set 0 5 rfl rfl (.int .i64 x))).eqw hw6p)
          have bc0 := row11 (b := q) (FR.out.at 0 rfl rfl)
          have bc1 := row10 (b := q + 1) (FR.out.at 1 rfl rfl)
          go_wp2_with fail
          refine (over16_any _ _ _ _ _ _ _ _ _ _ _ _ _ _ _ _).mono ?_
          rintro e w7 ⟨rfl, hb⟩
          clear ac0 af05 ac1 bc0 bc1
          clear hw6p
          replace FR := Lib.hid (FR.out.step hb)
          clear hb
          obtain ⟨mw7r, w7r, hw7r, hse, F⟩ := FR.out.put11 2 rfl (b := q + 2) rfl (.int .i64 kd) (.int .i64 o0) (.int .i64 o1) (.int .i64 o2) (.int .i64 o3) (.int .i64 x) (.int .i64 o5) (.int .u32 wa) (.int .u32 to) (.slice A n c) (.slice B m d)
          replace FR := F
          clear F hse
          obtain ⟨mw8r, w8r, hw8r, hse, F⟩ := FR.out.put10 3 rfl (b := q + 3) rfl (.int .i64 0) (.int .i64 0) (.int .i64 0) (.int .i64 0) (.int .i64 0) (.int .i64 0) (.bool false) (.bool false) (.int .i64 0) (.bool false)
          replace FR := F
          clear F hse
          obtain ⟨mw9r, w9r, hw9r, hse, F⟩ := FR.out.put7 4 rfl (b := q + 4) rfl (.bool true) (.bool false) (.bool false) (.int .i64 0) (.int .i64 0) (.int .u64 0) (.slice none 0 0)
          replace FR := F
          clear F hse
          go_wp2
          refine bodyPost_ret (res_ccc Try.results12 (by rfl) (by rfl) (by rfl) (FR.out.load 2 rfl rfl Try.underlying29 (by kernel_rfl)) (FR.out.load 3 rfl rfl Try.underlying31 (by kernel_rfl)) (FR.out.load 4 rfl rfl Try.underlying38 (by kernel_rfl))) rfl ?_
          rw [HE.out]
          exact ⟨rfl, FR.out.out⟩
  have n0 : (stage == 0) = false := by simp [s0]
  by_cases s1 : stage = 1
  · subst s1
    obtain ⟨x, hx⟩ : ∃ x, IntKind.i64.wrap (o5 - 1) = x := ⟨_, rfl⟩
    have HO : runlockW o0 o4 o5 ⟨op, 1, phase, old, since, left, awoke, starve, need, front⟩ = (if x = 0 then ((o0, o4, x), ⟨op, 2, phase, old, since, left, awoke, starve, need, front⟩, noA) else ((o0, o4, x), noF, doneA)) := by
      unfold runlockW
      rw [if_neg (show ¬ ((1 : Int) = 0) by decide), if_pos rfl, hx]
    clear s0 n0
    by_cases hx0 : x = 0
    · have c0 : (x == 0) = true := by simp [hx0]
      have HE := Lib.hid (HO.trans (if_pos hx0))
      clear HO hx0
      go_enter Try.func12, Try.ntmps12
      have ac0 := row11 (b := q) (FR.out.at 0 rfl rfl)
      have af06 : v5.frozen? ⟨q, 6, none⟩ = false := FR.out.frozen 0 6 rfl rfl
      have ac1 := row10 (b := q + 1) (FR.out.at 1 rfl rfl)
      obtain ⟨w6p, hw6p⟩ : ∃ W, (v5.setCell ⟨q, 6, none⟩ (.int .i64 x)) = W := ⟨_, rfl⟩
      replace FR := Lib.hid (((FR.out.set 0 6 rfl rfl (.int .i64 x))).eqw hw6p)
      have bc0 := row11 (b := q) (FR.out.at 0 rfl rfl)
      have bc1 := row10 (b := q + 1) (FR.out.at 1 rfl rfl)
      have bf11 : w6p.frozen? ⟨q + 1, 1, none⟩ = false := FR.out.frozen 1 1 rfl rfl
      obtain ⟨w7p, hw7p⟩ : ∃ W, (w6p.setCell ⟨q + 1, 1, none⟩ (.int .i64 2)) = W := ⟨_, rfl⟩
      replace FR := Lib.hid (((FR.out.set 1 1 rfl rfl (.int .i64 2))).eqw hw7p)
      have cc0 := row11 (b := q) (FR.out.at 0 rfl rfl)
      have cc1 := row10 (b := q + 1) (FR.out.at 1 rfl rfl)
      go_wp2_with fail
      refine (on16_any _ _ _ _ _ _ _ _ _ _ _ _ _ _ _ _ _ _ _ _ _ _ _ _ _ _).mono ?_
      rintro e w7 ⟨rfl, hb⟩
      clear ac0 af06 ac1 bc0 bc1 bf11 cc0 cc1
      clear hw6p hw7p
      replace FR := Lib.hid (FR.out.step hb)
      clear hb
      obtain ⟨mw8r, w8r, hw8r, hse, F⟩ := FR.out.put11 2 rfl (b := q + 2) rfl (.int .i64 kd) (.int .i64 o0) (.int .i64 o1) (.int .i64 o2) (.int .i64 o3) (.int .i64 o4) (.int .i64 x) (.int .u32 wa) (.int .u32 to) (.slice A n c) (.slice B m d)
      replace FR := F
      clear F hse
      obtain ⟨mw9r, w9r, hw9r, hse, F⟩ := FR.out.put10 3 rfl (b := q + 3) rfl (.int .i64 op) (.int .i64 2) (.int .i64 phase) (.int .i64 old) (.int .i64 since) (.int .i64 left) (.bool awoke) (.bool starve) (.int .i64 need) (.bool front)
      replace FR := F
      clear F hse
      obtain ⟨mw10r, w10r, hw10r, hse, F⟩ := FR.out.put7 4 rfl (b := q + 4) rfl (.bool false) (.bool false) (.bool false) (.int .i64 0) (.int .i64 0) (.int .u64 0) (.slice none 0 0)
      replace FR := F
      clear F hse
      go_wp2
      refine bodyPost_ret (res_ccc Try.results12 (by rfl) (by rfl) (by rfl) (FR.out.load 2 rfl rfl Try.underlying29 (by kernel_rfl)) (FR.out.load 3 rfl rfl Try.underlying31 (by kernel_rfl)) (FR.out.load 4 rfl rfl Try.underlying38 (by kernel_rfl))) rfl ?_
      rw [HE.out]
      exact ⟨rfl, FR.out.out⟩
    · have c0 : (x == 0) = false := by simp [hx0]
      have HE := Lib.hid (HO.trans (if_neg hx0))
      clear HO hx0
      go_enter Try.func12, Try.ntmps12
      have ac0 := row11 (b := q) (FR.out.at 0 rfl rfl)
      have af06 : v5.frozen? ⟨q, 6, none⟩ = false := FR.out.frozen 0 6 rfl rfl
      have ac1 := row10 (b := q + 1) (FR.out.at 1 rfl rfl)
      obtain ⟨w6p, hw6p⟩ : ∃ W, (v5.setCell ⟨q, 6, none⟩ (.int .i64 x)) = W := ⟨_, rfl⟩
      replace FR := Lib.hid (((FR.out.set 0 6 rfl rfl (.int .i64 x))).eqw hw6p)
      have bc0 := row11 (b := q) (FR.out.at 0 rfl rfl)
      have bc1 := row10 (b := q + 1) (FR.out.at 1 rfl rfl)
      go_wp2_with fail
      refine (over16_any _ _ _ _ _ _ _ _ _ _ _ _ _ _ _ _).mono ?_
      rintro e w7 ⟨rfl, hb⟩
      clear ac0 af06 ac1 bc0 bc1
      clear hw6p
      replace FR := Lib.hid (FR.out.step hb)
      clear hb
      obtain ⟨mw7r, w7r, hw7r, hse, F⟩ := FR.out.put11 2 rfl (b := q + 2) rfl (.int .i64 kd) (.int .i64 o0) (.int .i64 o1) (.int .i64 o2) (.int .i64 o3) (.int .i64 o4) (.int .i64 x) (.int .u32 wa) (.int .u32 to) (.slice A n c) (.slice B m d)
      replace FR := F
      clear F hse
      obtain ⟨mw8r, w8r, hw8r, hse, F⟩ := FR.out.put10 3 rfl (b := q + 3) rfl (.int .i64 0) (.int .i64 0) (.int .i64 0) (.int .i64 0) (.int .i64 0) (.int .i64 0) (.bool false) (.bool false) (.int .i64 0) (.bool false)
      replace FR := F
      clear F hse
      obtain ⟨mw9r, w9r, hw9r, hse, F⟩ := FR.out.put7 4 rfl (b := q + 4) rfl (.bool true) (.bool false) (.bool false) (.int .i64 0) (.int .i64 0) (.int .u64 0) (.slice none 0 0)
      replace FR := F
      clear F hse
      go_wp2
      refine bodyPost_ret (res_ccc Try.results12 (by rfl) (by rfl) (by rfl) (FR.out.load 2 rfl rfl Try.underlying29 (by kernel_rfl)) (FR.out.load 3 rfl rfl Try.underlying31 (by kernel_rfl)) (FR.out.load 4 rfl rfl Try.underlying38 (by kernel_rfl))) rfl ?_
      rw [HE.out]
      exact ⟨rfl, FR.out.out⟩
  have n1 : (stage == 1) = false := by simp [s1]
  by_cases s2 : stage = 2
  · subst s2
    have HE := Lib.hid (show runlockW o0 o4 o5 ⟨op, 2, phase, old, since, left, awoke, starve, need, front⟩ = ((o0, o4, o5), noF, ⟨true, 3, false, 0⟩) from by
      unfold runlockW
      rw [if_neg (show ¬ ((2 : Int) = 0) by decide), if_neg (show ¬ ((2 : Int) = 1) by decide), if_pos rfl])
    clear s0 s1 n0 n1
    go_enter Try.func12, Try.ntmps12
    have ac0 := row11 (b := q) (FR.out.at 0 rfl rfl)
    have ac1 := row10 (b := q + 1) (FR.out.at 1 rfl rfl)
    obtain ⟨mw6r, w6r, hw6r, hse, F⟩ := FR.out.put11 2 rfl (b := q + 2) rfl (.int .i64 kd) (.int .i64 o0) (.int .i64 o1) (.int .i64 o2) (.int .i64 o3) (.int .i64 o4) (.int .i64 o5) (.int .u32 wa) (.int .u32 to) (.slice A n c) (.slice B m d)
    replace FR := F
    clear F hse
    obtain ⟨mw7r, w7r, hw7r, hse, F⟩ := FR.out.put10 3 rfl (b := q + 3) rfl (.int .i64 0) (.int .i64 0) (.int .i64 0) (.int .i64 0) (.int .i64 0) (.int .i64 0) (.bool false) (.bool false) (.int .i64 0) (.bool false)
    replace FR := F
    clear F hse
    obtain ⟨mw8r, w8r, hw8r, hse, F⟩ := FR.out.put7 4 rfl (b := q + 4) rfl (.bool true) (.bool false) (.bool false) (.int .i64 3) (.int .i64 0) (.int .u64 0) (.slice none 0 0)
    replace FR := F
    clear F hse
    go_wp2
    refine bodyPost_ret (res_ccc Try.results12 (by rfl) (by rfl) (by rfl) (FR.out.load 2 rfl rfl Try.underlying29 (by kernel_rfl)) (FR.out.load 3 rfl rfl Try.underlying31 (by kernel_rfl)) (FR.out.load 4 rfl rfl Try.underlying38 (by kernel_rfl))) rfl ?_
    rw [HE.out]
    exact ⟨rfl, FR.out.out⟩
  have n2 : (stage == 2) = false := by simp [s2]
  have HE := Lib.hid (show runlockW o0 o4 o5 ⟨op, stage, phase, old, since, left, awoke, starve, need, front⟩ = ((o0, o4, o5), ⟨op, stage, phase, old, since, left, awoke, starve, need, front⟩, noA) from by
    unfold runlockW
    rw [if_neg s0, if_neg s1, if_neg s2])
  clear s0 s1 s2
  go_enter Try.func12, Try.ntmps12
  have ac0 := row11 (b := q) (FR.out.at 0 rfl rfl)
  have ac1 := row10 (b := q + 1) (FR.out.at 1 rfl rfl)
  go_wp2_with fail
  refine (on16_any _ _ _ _ _ _ _ _ _ _ _ _ _ _ _ _ _ _ _ _ _ _ _ _ _ _).mono ?_
  rintro e w7 ⟨rfl, hb⟩
  clear ac0 ac1
  replace FR := Lib.hid (FR.out.step hb)
  clear hb
  obtain ⟨mw6r, w6r, hw6r, hse, F⟩ := FR.out.put11 2 rfl (b := q + 2) rfl (.int .i64 kd) (.int .i64 o0) (.int .i64 o1) (.int .i64 o2) (.int .i64 o3) (.int .i64 o4) (.int .i64 o5) (.int .u32 wa) (.int .u32 to) (.slice A n c) (.slice B m d)
  replace FR := F
  clear F hse
  obtain ⟨mw7r, w7r, hw7r, hse, F⟩ := FR.out.put10 3 rfl (b := q + 3) rfl (.int .i64 op) (.int .i64 stage) (.int .i64 phase) (.int .i64 old) (.int .i64 since) (.int .i64 left) (.bool awoke) (.bool starve) (.int .i64 need) (.bool front)
  replace FR := F
  clear F hse
  obtain ⟨mw8r, w8r, hw8r, hse, F⟩ := FR.out.put7 4 rfl (b := q + 4) rfl (.bool false) (.bool false) (.bool false) (.int .i64 0) (.int .i64 0) (.int .u64 0) (.slice none 0 0)
  replace FR := F
  clear F hse
  go_wp2
  refine bodyPost_ret (res_ccc Try.results12 (by rfl) (by rfl) (by rfl) (FR.out.load 2 rfl rfl Try.underlying29 (by kernel_rfl)) (FR.out.load 3 rfl rfl Try.underlying31 (by kernel_rfl)) (FR.out.load 4 rfl rfl Try.underlying38 (by kernel_rfl))) rfl ?_
  rw [HE.out]
  exact ⟨rfl, FR.out.out⟩
end Go.Proofs.Ytpkegfochfkkcaa
