/- Layer 17: what the landed group's own small functions answer; no condition but a stage. -/
import Derived.Test.YtglldhmdifnobaaGrA
import Derived.Test.YtglldhmdifnobaaStp
namespace Go.Proofs.Ytglldhmdifnobaa
set_option linter.unusedVariables false
set_option linter.unusedSimpArgs false
open Go.RowKit
set_option maxRecDepth 100000 in
set_option maxHeartbeats 16000000 in
theorem grAdd_any (kd o0 o1 o2 o3 o4 o5 wa to : Int) (A : Option Addr) (n c : Nat) (B : Option Addr) (m d : Nat) (f : MFr) (hs : f.stage = 0) (z : Int) (w : World) : Calls Try.prog 16 #[obV kd o0 o1 o2 o3 o4 o5 wa to A n c B m d, frV f, .int .i64 z] w (StepG w kd o2 o3 o4 o5 wa to A n c B m d (countW o0 o1 f z)) := by
  obtain ⟨op, stage, phase, old, since, left, awoke, starve, need, front⟩ := f
  have hs2 : stage = 0 := hs
  subst hs2
  clear hs
  unfold obV frV frC
  simp only
  obtain ⟨v1, hv1, z1, v2, hv2, z2, v3, hv3, z3, v4, hv4, z4, v5, hv5, z5, F⟩ := boxes5 w (.cells #[.int .i64 kd, .int .i64 o0, .int .i64 o1, .int .i64 o2, .int .i64 o3, .int .i64 o4, .int .i64 o5, .int .u32 wa, .int .u32 to, .slice A n c, .slice B m d] 29) (.cells #[.int .i64 op, .int .i64 0, .int .i64 phase, .int .i64 old, .int .i64 since, .int .i64 left, .bool awoke, .bool starve, .int .i64 need, .bool front] 31) (.cells #[.int .i64 0, .int .i64 0, .int .i64 0, .int .i64 0, .int .i64 0, .int .i64 0, .int .i64 0, .int .u32 0, .int .u32 0, .slice none 0 0, .slice none 0 0] 29) (.cells #[.int .i64 0, .int .i64 0, .int .i64 0, .int .i64 0, .int .i64 0, .int .i64 0, .bool false, .bool false, .int .i64 0, .bool false] 31) (.cells #[.bool false, .bool false, .bool false, .int .i64 0, .int .i64 0, .int .u64 0, .slice none 0 0] 38)
  generalize hq : w.heap.size = q at *
  have FR := Lib.hid F
  clear F
  obtain ⟨x, hx⟩ : ∃ x, IntKind.i64.wrap (o0 + z) = x := ⟨_, rfl⟩
  have HO : countW o0 o1 ⟨op, 0, phase, old, since, left, awoke, starve, need, front⟩ z = (if z < -1073741824 ∨ 1073741824 < z ∨ x < 0 ∨ 1073741824 < x then ((o0, o1), noF, ⟨false, 0, false, 2⟩) else if 0 < x ∨ o1 = 0 then ((x, o1), noF, doneA) else ((x, 0), ⟨op, 1, phase, old, since, o1, awoke, starve, need, front⟩, noA)) := by
    unfold countW
    rw [if_pos rfl, hx]
  by_cases h0 : z < -1073741824
  · have c0 : decide (z < -1073741824) = true := decide_eq_true h0
    have HE := Lib.hid (HO.trans (if_pos (Or.inl h0)))
    clear HO h0
    go_enter Try.func16, Try.ntmps16
    have ac0 := row11 (b := q) (FR.out.at 0 rfl rfl)
    have ac1 := row10 (b := q + 1) (FR.out.at 1 rfl rfl)
    go_wp2_with fail
    refine (stFault_any _ _ _ _ _ _ _ _ _ _ _ _ _ _ _ _ _).mono ?_
    rintro e w7 ⟨rfl, hb⟩
    clear ac0 ac1
    replace FR := Lib.hid (FR.out.step hb)
    clear hb
    obtain ⟨mw6r, w6r, hw6r, hse, F⟩ := FR.out.put11 2 rfl (b := q + 2) rfl (.int .i64 kd) (.int .i64 o0) (.int .i64 o1) (.int .i64 o2) (.int .i64 o3) (.int .i64 o4) (.int .i64 o5) (.int .u32 wa) (.int .u32 to) (.slice A n c) (.slice B m d)
    replace FR := F
    clear F hse
    obtain ⟨mw7r, w7r, hw7r, hse, F⟩ := FR.out.put10 3 rfl (b := q + 3) rfl (.int .i64 0) (.int .i64 0) (.int .i64 0) (.int .i64 0) (.int .i64 0) (.int .i64 0) (.bool false) (.bool false) (.int .i64 0) (.bool false)
    replace FR := F
    clear F hse
    obtain ⟨mw8r, w8r, hw8r, hse, F⟩ := FR.out.put7 4 rfl (b := q + 4) rfl (.bool false) (.bool false) (.bool false) (.int .i64 0) (.int .i64 2) (.int .u64 0) (.slice none 0 0)
    replace FR := F
    clear F hse
    go_wp2
    refine bodyPost_ret (res_ccc Try.results16 (by rfl) (by rfl) (by rfl) (FR.out.load 2 rfl rfl Try.underlying29 (by kernel_rfl)) (FR.out.load 3 rfl rfl Try.underlying31 (by kernel_rfl)) (FR.out.load 4 rfl rfl Try.underlying38 (by kernel_rfl))) rfl ?_
    rw [HE.out]
    exact ⟨rfl, FR.out.out⟩
  · have c0 : decide (z < -1073741824) = false := decide_eq_false h0
    by_cases h1 : 1073741824 < z
    · have c1 : decide (1073741824 < z) = true := decide_eq_true h1
      have HE := Lib.hid (HO.trans (if_pos (Or.inr (Or.inl h1))))
      clear HO h0 h1
      go_enter Try.func16, Try.ntmps16
      have ac0 := row11 (b := q) (FR.out.at 0 rfl rfl)
      have ac1 := row10 (b := q + 1) (FR.out.at 1 rfl rfl)
      go_wp2_with fail
      refine (stFault_any _ _ _ _ _ _ _ _ _ _ _ _ _ _ _ _ _).mono ?_
      rintro e w7 ⟨rfl, hb⟩
      clear ac0 ac1
      replace FR := Lib.hid (FR.out.step hb)
      clear hb
      obtain ⟨mw6r, w6r, hw6r, hse, F⟩ := FR.out.put11 2 rfl (b := q + 2) rfl (.int .i64 kd) (.int .i64 o0) (.int .i64 o1) (.int .i64 o2) (.int .i64 o3) (.int .i64 o4) (.int .i64 o5) (.int .u32 wa) (.int .u32 to) (.slice A n c) (.slice B m d)
      replace FR := F
      clear F hse
      obtain ⟨mw7r, w7r, hw7r, hse, F⟩ := FR.out.put10 3 rfl (b := q + 3) rfl (.int .i64 0) (.int .i64 0) (.int .i64 0) (.int .i64 0) (.int .i64 0) (.int .i64 0) (.bool false) (.bool false) (.int .i64 0) (.bool false)
      replace FR := F
      clear F hse
      obtain ⟨mw8r, w8r, hw8r, hse, F⟩ := FR.out.put7 4 rfl (b := q + 4) rfl (.bool false) (.bool false) (.bool false) (.int .i64 0) (.int .i64 2) (.int .u64 0) (.slice none 0 0)
      replace FR := F
      clear F hse
      go_wp2
      refine bodyPost_ret (res_ccc Try.results16 (by rfl) (by rfl) (by rfl) (FR.out.load 2 rfl rfl Try.underlying29 (by kernel_rfl)) (FR.out.load 3 rfl rfl Try.underlying31 (by kernel_rfl)) (FR.out.load 4 rfl rfl Try.underlying38 (by kernel_rfl))) rfl ?_
      rw [HE.out]
      exact ⟨rfl, FR.out.out⟩
    · have c1 : decide (1073741824 < z) = false := decide_eq_false h1
      by_cases h2 : x < 0
      · have c2 : decide (x < 0) = true := decide_eq_true h2
        have HE := Lib.hid (HO.trans (if_pos (Or.inr (Or.inr (Or.inl h2)))))
        clear HO h0 h1 h2
        go_enter Try.func16, Try.ntmps16
        have ac0 := row11 (b := q) (FR.out.at 0 rfl rfl)
        have ac1 := row10 (b := q + 1) (FR.out.at 1 rfl rfl)
        go_wp2_with fail
        refine (stFault_any _ _ _ _ _ _ _ _ _ _ _ _ _ _ _ _ _).mono ?_
        rintro e w7 ⟨rfl, hb⟩
        clear ac0 ac1
        replace FR := Lib.hid (FR.out.step hb)
        clear hb
        obtain ⟨mw6r, w6r, hw6r, hse, F⟩ := FR.out.put11 2 rfl (b := q + 2) rfl (.int .i64 kd) (.int .i64 o0) (.int .i64 o1) (.int .i64 o2) (.int .i64 o3) (.int .i64 o4) (.int .i64 o5) (.int .u32 wa) (.int .u32 to) (.slice A n c) (.slice B m d)
        replace FR := F
        clear F hse
        obtain ⟨mw7r, w7r, hw7r, hse, F⟩ := FR.out.put10 3 rfl (b := q + 3) rfl (.int .i64 0) (.int .i64 0) (.int .i64 0) (.int .i64 0) (.int .i64 0) (.int .i64 0) (.bool false) (.bool false) (.int .i64 0) (.bool false)
        replace FR := F
        clear F hse
        obtain ⟨mw8r, w8r, hw8r, hse, F⟩ := FR.out.put7 4 rfl (b := q + 4) rfl (.bool false) (.bool false) (.bool false) (.int .i64 0) (.int .i64 2) (.int .u64 0) (.slice none 0 0)
        replace FR := F
        clear F hse
        go_wp2
        refine bodyPost_ret (res_ccc Try.results16 (by rfl) (by rfl) (by rfl) (FR.out.load 2 rfl rfl Try.underlying29 (by kernel_rfl)) (FR.out.load 3 rfl rfl Try.underlying31 (by kernel_rfl)) (FR.out.load 4 rfl rfl Try.underlying38 (by kernel_rfl))) rfl ?_
        rw [HE.out]
        exact ⟨rfl, FR.out.out⟩
      · have c2 : decide (x < 0) = false := decide_eq_false h2
        by_cases h3 : 1073741824 < x
        · have c3 : decide (1073741824 < x) = true := decide_eq_true h3
          have HE := Lib.hid (HO.trans (if_pos (Or.inr (Or.inr (Or.inr h3)))))
          clear HO h0 h1 h2 h3
          go_enter Try.func16, Try.ntmps16
          have ac0 := row11 (b := q) (FR.out.at 0 rfl rfl)
          have ac1 := row10 (b := q + 1) (FR.out.at 1 rfl rfl)
          go_wp2_with fail
          refine (stFault_any _ _ _ _ _ _ _ _ _ _ _ _ _ _ _ _ _).mono ?_
          rintro e w7 ⟨rfl, hb⟩
          clear ac0 ac1
          replace FR := Lib.hid (FR.out.step hb)
          clear hb
          obtain ⟨mw6r, w6r, hw6r, hse, F⟩ := FR.out.put11 2 rfl (b := q + 2) rfl (.int .i64 kd) (.int .i64 o0) (.int .i64 o1) (.int .i64 o2) (.int .i64 o3) (.int .i64 o4) (.int .i64 o5) (.int .u32 wa) (.int .u32 to) (.slice A n c) (.slice B m d)
          replace FR := F
          clear F hse
          obtain ⟨mw7r, w7r, hw7r, hse, F⟩ := FR.out.put10 3 rfl (b := q + 3) rfl (.int .i64 0) (.int .i64 0) (.int .i64 0) (.int .i64 0) (.int .i64 0) (.int .i64 0) (.bool false) (.bool false) (.int .i64 0) (.bool false)
          replace FR := F
          clear F hse
          obtain ⟨mw8r, w8r, hw8r, hse, F⟩ := FR.out.put7 4 rfl (b := q + 4) rfl (.bool false) (.bool false) (.bool false) (.int .i64 0) (.int .i64 2) (.int .u64 0) (.slice none 0 0)
          replace FR := F
          clear F hse
          go_wp2
          refine bodyPost_ret (res_ccc Try.results16 (by rfl) (by rfl) (by rfl) (FR.out.load 2 rfl rfl Try.underlying29 (by kernel_rfl)) (FR.out.load 3 rfl rfl Try.underlying31 (by kernel_rfl)) (FR.out.load 4 rfl rfl Try.underlying38 (by kernel_rfl))) rfl ?_
          rw [HE.out]
          exact ⟨rfl, FR.out.out⟩
        · have c3 : decide (1073741824 < x) = false := decide_eq_false h3
          replace HO := HO.trans (if_neg (fun h => by rcases h with h | h | h | h; exact h0 h; exact h1 h; exact h2 h; exact h3 h))
          clear h0 h1 h2 h3
          by_cases h4 : 0 < x
          · have c4 : decide (0 < x) = true := decide_eq_true h4
            have HE := Lib.hid (HO.trans (if_pos (Or.inl h4)))
            clear HO h4
            go_enter Try.func16, Try.ntmps16
            have ac0 := row11 (b := q) (FR.out.at 0 rfl rfl)
            have af01 : v5.frozen? ⟨q, 1, none⟩ = false := FR.out.frozen 0 1 rfl rfl
            have ac1 := row10 (b := q + 1) (FR.out.at 1 rfl rfl)
            obtain ⟨w6p, hw6p⟩ : ∃ W, (v5.setCell ⟨q, 1, none⟩ (.int .i64 x)) = W := ⟨_, rfl⟩
            replace FR := Lib.hid (((FR.out.set 0 1 rfl rfl (.int .i64 x))).eqw hw6p)
            have bc0 := row11 (b := q) (FR.out.at 0 rfl rfl)
            have bc1 := row10 (b := q + 1) (FR.out.at 1 rfl rfl)
            go_wp2_with fail
            refine (stDone_any _ _ _ _ _ _ _ _ _ _ _ _ _ _ _ _).mono ?_
            rintro e w7 ⟨rfl, hb⟩
            clear ac0 af01 ac1 bc0 bc1
            clear hw6p
            replace FR := Lib.hid (FR.out.step hb)
            clear hb
            obtain ⟨mw7r, w7r, hw7r, hse, F⟩ := FR.out.put11 2 rfl (b := q + 2) rfl (.int .i64 kd) (.int .i64 x) (.int .i64 o1) (.int .i64 o2) (.int .i64 o3) (.int .i64 o4) (.int .i64 o5) (.int .u32 wa) (.int .u32 to) (.slice A n c) (.slice B m d)
            replace FR := F
            clear F hse
            obtain ⟨mw8r, w8r, hw8r, hse, F⟩ := FR.out.put10 3 rfl (b := q + 3) rfl (.int .i64 0) (.int .i64 0) (.int .i64 0) (.int .i64 0) (.int .i64 0) (.int .i64 0) (.bool false) (.bool false) (.int .i64 0) (.bool false)
            replace FR := F
            clear F hse
            obtain ⟨mw9r, w9r, hw9r, hse, F⟩ := FR.out.put7 4 rfl (b := q + 4) rfl (.bool true) (.bool false) (.bool false) (.int .i64 0) (.int .i64 0) (.int .u64 0) (.slice none 0 0)
            replace FR := F
            clear F hse
            go_wp2
            refine bodyPost_ret (res_ccc Try.results16 (by rfl) (by rfl) (by rfl) (FR.out.load 2 rfl rfl Try.underlying29 (by kernel_rfl)) (FR.out.load 3 rfl rfl Try.underlying31 (by kernel_rfl)) (FR.out.load 4 rfl rfl Try.underlying38 (by kernel_rfl))) rfl ?_
            rw [HE.out]
            exact ⟨rfl, FR.out.out⟩
          · have c4 : decide (0 < x) = false := decide_eq_false h4
            by_cases h5 : o1 = 0
            · have c5 : (o1 == 0) = true := by simp [h5]
              have HE := Lib.hid (HO.trans (if_pos (Or.inr h5)))
              clear HO h4 h5
              go_enter Try.func16, Try.ntmps16
              have ac0 := row11 (b := q) (FR.out.at 0 rfl rfl)
              have af01 : v5.frozen? ⟨q, 1, none⟩ = false := FR.out.frozen 0 1 rfl rfl
              have ac1 := row10 (b := q + 1) (FR.out.at 1 rfl rfl)
              obtain ⟨w6p, hw6p⟩ : ∃ W, (v5.setCell ⟨q, 1, none⟩ (.int .i64 x)) = W := ⟨_, rfl⟩
              replace FR := Lib.hid (((FR.out.set 0 1 rfl rfl (.int .i64 x))).eqw hw6p)
              have bc0 := row11 (b := q) (FR.out.at 0 rfl rfl)
              have bc1 := row10 (b := q + 1) (FR.out.at 1 rfl rfl)
              go_wp2_with fail
              refine (stDone_any _ _ _ _ _ _ _ _ _ _ _ _ _ _ _ _).mono ?_
              rintro e w7 ⟨rfl, hb⟩
              clear ac0 af01 ac1 bc0 bc1
              clear hw6p
              replace FR := Lib.hid (FR.out.step hb)
              clear hb
              obtain ⟨mw7r, w7r, hw7r, hse, F⟩ := FR.out.put11 2 rfl (b := q + 2) rfl (.int .i64 kd) (.int .i64 x) (.int .i64 o1) (.int .i64 o2) (.int .i64 o3) (.int .i64 o4) (.int .i64 o5) (.int .u32 wa) (.int .u32 to) (.slice A n c) (.slice B m d)
              replace FR := F
              clear F hse
              obtain ⟨mw8r, w8r, hw8r, hse, F⟩ := FR.out.put10 3 rfl (b := q + 3) rfl (.int .i64 0) (.int .i64 0) (.int .i64 0) (.int .i64 0) (.int .i64 0) (.int .i64 0) (.bool false) (.bool false) (.int .i64 0) (.bool false)
              replace FR := F
              clear F hse
              obtain ⟨mw9r, w9r, hw9r, hse, F⟩ := FR.out.put7 4 rfl (b := q + 4) rfl (.bool true) (.bool false) (.bool false) (.int .i64 0) (.int .i64 0) (.int .u64 0) (.slice none 0 0)
              replace FR := F
              clear F hse
              go_wp2
              refine bodyPost_ret (res_ccc Try.results16 (by rfl) (by rfl) (by rfl) (FR.out.load 2 rfl rfl Try.underlying29 (by kernel_rfl)) (FR.out.load 3 rfl rfl Try.underlying31 (by kernel_rfl)) (FR.out.load 4 rfl rfl Try.underlying38 (by kernel_rfl))) rfl ?_
              rw [HE.out]
              exact ⟨rfl, FR.out.out⟩
            · have c5 : (o1 == 0) = false := by simp [h5]
              have HE := Lib.hid (HO.trans (if_neg (fun h => by rcases h with h | h; exact h4 h; exact h5 h)))
              clear HO h4 h5
              go_enter Try.func16, Try.ntmps16
              have ac0 := row11 (b := q) (FR.out.at 0 rfl rfl)
              have af01 : v5.frozen? ⟨q, 1, none⟩ = false := FR.out.frozen 0 1 rfl rfl
              have ac1 := row10 (b := q + 1) (FR.out.at 1 rfl rfl)
              obtain ⟨w6p, hw6p⟩ : ∃ W, (v5.setCell ⟨q, 1, none⟩ (.int .i64 x)) = W := ⟨_, rfl⟩
              replace FR := Lib.hid (((FR.out.set 0 1 rfl rfl (.int .i64 x))).eqw hw6p)
              have bc0 := row11 (b := q) (FR.out.at 0 rfl rfl)
              have bc1 := row10 (b := q + 1) (FR.out.at 1 rfl rfl)
              have bf15 : w6p.frozen? ⟨q + 1, 5, none⟩ = false := FR.out.frozen 1 5 rfl rfl
              obtain ⟨w7p, hw7p⟩ : ∃ W, (w6p.setCell ⟨q + 1, 5, none⟩ (.int .i64 o1)) = W := ⟨_, rfl⟩
              replace FR := Lib.hid (((FR.out.set 1 5 rfl rfl (.int .i64 o1))).eqw hw7p)
              have cc0 := row11 (b := q) (FR.out.at 0 rfl rfl)
              have cf02 : w7p.frozen? ⟨q, 2, none⟩ = false := FR.out.frozen 0 2 rfl rfl
              have cc1 := row10 (b := q + 1) (FR.out.at 1 rfl rfl)
              obtain ⟨w8p, hw8p⟩ : ∃ W, (w7p.setCell ⟨q, 2, none⟩ (.int .i64 0)) = W := ⟨_, rfl⟩
              replace FR := Lib.hid (((FR.out.set 0 2 rfl rfl (.int .i64 0))).eqw hw8p)
              have dc0 := row11 (b := q) (FR.out.at 0 rfl rfl)
              have dc1 := row10 (b := q + 1) (FR.out.at 1 rfl rfl)
              have df11 : w8p.frozen? ⟨q + 1, 1, none⟩ = false := FR.out.frozen 1 1 rfl rfl
              obtain ⟨w9p, hw9p⟩ : ∃ W, (w8p.setCell ⟨q + 1, 1, none⟩ (.int .i64 1)) = W := ⟨_, rfl⟩
              replace FR := Lib.hid (((FR.out.set 1 1 rfl rfl (.int .i64 1))).eqw hw9p)
              have ec0 := row11 (b := q) (FR.out.at 0 rfl rfl)
              have ec1 := row10 (b := q + 1) (FR.out.at 1 rfl rfl)
              go_wp2
              clear ac0 af01 ac1 bc0 bc1 bf15 cc0 cf02 cc1 dc0 dc1 df11 ec0 ec1
              have HF0 := Lib.hid FR.out.drew
              obtain ⟨w10r, hw10r⟩ : ∃ W, w9p.drew.setCells (q + 2) 0 [.int .i64 kd, .int .i64 x, .int .i64 0, .int .i64 o2, .int .i64 o3, .int .i64 o4, .int .i64 o5, .int .u32 wa, .int .u32 to, .slice A n c, .slice B m d] = W := ⟨_, rfl⟩
              have HF1 := Lib.hid ((HF0.out.all 2 rfl rfl (by rfl)).eqw hw10r)
              have hh1 := Lib.hid hw10r
              clear hw10r
              obtain ⟨w11r, hw11r⟩ : ∃ W, w10r.setCells (q + 3) 0 [.int .i64 op, .int .i64 1, .int .i64 phase, .int .i64 old, .int .i64 since, .int .i64 o1, .bool awoke, .bool starve, .int .i64 need, .bool front] = W := ⟨_, rfl⟩
              have HF2 := Lib.hid ((HF1.out.all 3 rfl rfl (by rfl)).eqw hw11r)
              have hh2 := Lib.hid hw11r
              clear hw11r
              obtain ⟨w12r, hw12r⟩ : ∃ W, w11r.setCells (q + 4) 0 [.bool false, .bool false, .bool false, .int .i64 0, .int .i64 0, .int .u64 0, .slice none 0 0] = W := ⟨_, rfl⟩
              have HF3 := Lib.hid ((HF2.out.all 4 rfl rfl (by rfl)).eqw hw12r)
              have hh3 := Lib.hid hw12r
              clear hw12r
              refine wp_region_noPanic ?_
              refine wp_region_held_drew (S := (fun wv => Hid (wv.heap[q]? = some (.cells #[.int .i64 kd, .int .i64 x, .int .i64 0, .int .i64 o2, .int .i64 o3, .int .i64 o4, .int .i64 o5, .int .u32 wa, .int .u32 to, .slice A n c, .slice B m d] 29) ∧ wv.heap[q + 1]? = some (.cells #[.int .i64 op, .int .i64 1, .int .i64 phase, .int .i64 old, .int .i64 since, .int .i64 o1, .bool awoke, .bool starve, .int .i64 need, .bool front] 31)))) (by kernel_rfl) (Lib.hid (And.intro (HF0.out.blk 0 _ rfl) (HF0.out.blk 1 _ rfl))) (fun hS => ?_)
              refine wpAnyH_take (i := 0) (oi := ⟨some 57, .load 29 (.tmp 3), 29, "group.go:69", #[], none⟩) (v := .agg (([.int .i64 kd, .int .i64 x, .int .i64 0, .int .i64 o2, .int .i64 o3, .int .i64 o4, .int .i64 o5, .int .u32 wa, .int .u32 to, .slice A n c, .slice B m d] : List Value)).toArray) rfl (by kernel_rfl) (by kernel_rfl) (by kernel_rfl) (fun _ _ _ h => h) (yieldsIf_load_mid (by rfl) _ _ (by rfl) (q) (0) (by rfl) _ _ (fun wv hS => blk_rngl hS.out.1) Try.underlying29 (by rfl) (by kernel_rfl)) hS ?_
              try simp only [Act.put, List.setIfInBounds_toArray, List.set_cons_zero, List.set_cons_succ]
              refine wpAnyH_take (i := 1) (oi := ⟨some 58, .load 31 (.tmp 4), 31, "group.go:69", #[⟨3, .gcOnly .lateStores⟩], none⟩) (v := .agg (([.int .i64 op, .int .i64 1, .int .i64 phase, .int .i64 old, .int .i64 since, .int .i64 o1, .bool awoke, .bool starve, .int .i64 need, .bool front] : List Value)).toArray) rfl (by kernel_rfl) (by kernel_rfl) (by kernel_rfl) (fun _ _ _ h => h) (yieldsIf_load_mid (by rfl) _ _ (by rfl) (q + 1) (0) (by rfl) _ _ (fun wv hS => blk_rngl hS.out.2) Try.underlying31 (by rfl) (by kernel_rfl)) hS ?_
              try simp only [Act.put, List.setIfInBounds_toArray, List.set_cons_zero, List.set_cons_succ]
              refine wpAnyH_take (i := 2) (oi := ⟨some 59, .build 38 #[], 38, "group.go:69", #[⟨4, .gcOnly .lateStores⟩], none⟩) (v := ?_) rfl (by kernel_rfl) (by kernel_rfl) (by kernel_rfl) (fun _ _ _ h => h) (Or.inl ⟨by rfl, ?_⟩) hS ?_
              rotate_left
              · intro wv _; go_simp; try with_reducible rfl
              try simp only [Act.put, List.setIfInBounds_toArray, List.set_cons_zero, List.set_cons_succ]
              refine wpAnyH_ready (rs := [3]) (by kernel_rfl) (by simp) (AllReadyH.cons (o := ⟨none, .store 29 (.tmp 6) (.tmp 57), 0, "group.go:69", #[⟨0, .data⟩, ⟨0, .phase⟩, ⟨1, .textOnly .lateStores⟩, ⟨2, .textOnly .lateStores⟩], none⟩) rfl (fun K hK => ?_) AllReadyH.nil)
              refine op_storeS (by rfl) rfl rfl rfl (there_blk (HF0.out.blk 2 _ rfl) rfl) (by kernel_rfl) (by simp [Value.oneCell']) hh1.out ?_
              replace hS := Lib.hid (And.intro (HF1.out.blk 0 _ rfl) (HF1.out.blk 1 _ rfl))
              refine Shut.out hK _ _ hS (fun _ => ?_)
              clear hK K
              try simp only [Act.put, List.setIfInBounds_toArray, List.set_cons_zero, List.set_cons_succ]
              refine wpAnyH_ready (rs := [4]) (by kernel_rfl) (by simp) (AllReadyH.cons (o := ⟨none, .store 31 (.tmp 7) (.tmp 58), 0, "group.go:69", #[⟨1, .data⟩, ⟨3, .chain⟩, ⟨0, .phase⟩, ⟨1, .phase⟩, ⟨2, .textOnly .lateStores⟩, ⟨3, .phase⟩], none⟩) rfl (fun K hK => ?_) AllReadyH.nil)
              refine op_storeS (by rfl) rfl rfl rfl (there_blk (HF1.out.blk 3 _ rfl) rfl) (by kernel_rfl) (by simp [Value.oneCell']) hh2.out ?_
              replace hS := Lib.hid (And.intro (HF2.out.blk 0 _ rfl) (HF2.out.blk 1 _ rfl))
              refine Shut.out hK _ _ hS (fun _ => ?_)
              clear hK K
              try simp only [Act.put, List.setIfInBounds_toArray, List.set_cons_zero, List.set_cons_succ]
              refine wpAnyH_ready (rs := [5]) (by kernel_rfl) (by simp) (AllReadyH.cons (o := ⟨none, .store 38 (.tmp 8) (.tmp 59), 0, "group.go:69", #[⟨2, .data⟩, ⟨4, .chain⟩, ⟨0, .phase⟩, ⟨1, .phase⟩, ⟨2, .phase⟩, ⟨3, .phase⟩, ⟨4, .phase⟩], none⟩) rfl (fun K hK => ?_) AllReadyH.nil)
              refine op_storeS (by rfl) rfl rfl rfl (there_blk (HF2.out.blk 4 _ rfl) rfl) (by kernel_rfl) (by simp [Value.oneCell']) hh3.out ?_
              replace hS := Lib.hid (And.intro (HF3.out.blk 0 _ rfl) (HF3.out.blk 1 _ rfl))
              refine Shut.out hK _ _ hS (fun _ => ?_)
              clear hK K
              try simp only [Act.put, List.setIfInBounds_toArray, List.set_cons_zero, List.set_cons_succ]
              refine wpAnyH_done (by kernel_rfl) ?_ _
              refine NoPanic.normal ?_
              go_wp2
              refine bodyPost_ret (res_ccc Try.results16 (by rfl) (by rfl) (by rfl) (HF3.out.load 2 rfl rfl Try.underlying29 (by kernel_rfl)) (HF3.out.load 3 rfl rfl Try.underlying31 (by kernel_rfl)) (HF3.out.load 4 rfl rfl Try.underlying38 (by kernel_rfl))) rfl ?_
              replace FR := HF3
              rw [HE.out]
              exact ⟨rfl, FR.out.out⟩
set_option maxRecDepth 100000 in
set_option maxHeartbeats 16000000 in
theorem grLetGo_any (kd o0 o1 o2 o3 o4 o5 wa to : Int) (A : Option Addr) (n c : Nat) (B : Option Addr) (m d : Nat) (f : MFr) (hs : f.stage = 1) (z : Int) (w : World) : Calls Try.prog 17 #[obV kd o0 o1 o2 o3 o4 o5 wa to A n c B m d, frV f] w (StepG w kd o2 o3 o4 o5 wa to A n c B m d (countW o0 o1 f z)) := by
  obtain ⟨op, stage, phase, old, since, left, awoke, starve, need, front⟩ := f
  have hs2 : stage = 1 := hs
  subst hs2
  clear hs
  unfold obV frV frC
  simp only
  obtain ⟨v1, hv1, z1, v2, hv2, z2, v3, hv3, z3, v4, hv4, z4, v5, hv5, z5, F⟩ := boxes5 w (.cells #[.int .i64 kd, .int .i64 o0, .int .i64 o1, .int .i64 o2, .int .i64 o3, .int .i64 o4, .int .i64 o5, .int .u32 wa, .int .u32 to, .slice A n c, .slice B m d] 29) (.cells #[.int .i64 op, .int .i64 1, .int .i64 phase, .int .i64 old, .int .i64 since, .int .i64 left, .bool awoke, .bool starve, .int .i64 need, .bool front] 31) (.cells #[.int .i64 0, .int .i64 0, .int .i64 0, .int .i64 0, .int .i64 0, .int .i64 0, .int .i64 0, .int .u32 0, .int .u32 0, .slice none 0 0, .slice none 0 0] 29) (.cells #[.int .i64 0, .int .i64 0, .int .i64 0, .int .i64 0, .int .i64 0, .int .i64 0, .bool false, .bool false, .int .i64 0, .bool false] 31) (.cells #[.bool false, .bool false, .bool false, .int .i64 0, .int .i64 0, .int .u64 0, .slice none 0 0] 38)
  generalize hq : w.heap.size = q at *
  have FR := Lib.hid F
  clear F
  obtain ⟨x, hx⟩ : ∃ x, IntKind.i64.wrap (left - 1) = x := ⟨_, rfl⟩
  have HO : countW o0 o1 ⟨op, 1, phase, old, since, left, awoke, starve, need, front⟩ z = (if x ≤ 0 then ((o0, o1), noF, ⟨true, 3, false, 0⟩) else ((o0, o1), ⟨op, 1, phase, old, since, x, awoke, starve, need, front⟩, ⟨false, 3, false, 0⟩)) := by
    unfold countW
    rw [if_neg (show ¬ ((1 : Int) = 0) by decide), if_pos rfl, hx]
  by_cases h0 : x ≤ 0
  · have c0 : decide (0 < x) = false := decide_eq_false (by omega)
    have HE := Lib.hid (HO.trans (if_pos h0))
    clear HO h0
    go_enter Try.func17, Try.ntmps17
    have ac0 := row11 (b := q) (FR.out.at 0 rfl rfl)
    have ac1 := row10 (b := q + 1) (FR.out.at 1 rfl rfl)
    have af15 : v5.frozen? ⟨q + 1, 5, none⟩ = false := FR.out.frozen 1 5 rfl rfl
    obtain ⟨w6p, hw6p⟩ : ∃ W, (v5.setCell ⟨q + 1, 5, none⟩ (.int .i64 x)) = W := ⟨_, rfl⟩
    replace FR := Lib.hid (((FR.out.set 1 5 rfl rfl (.int .i64 x))).eqw hw6p)
    have bc0 := row11 (b := q) (FR.out.at 0 rfl rfl)
    have bc1 := row10 (b := q + 1) (FR.out.at 1 rfl rfl)
    obtain ⟨mw7r, w7r, hw7r, hse, F⟩ := FR.out.put11 2 rfl (b := q + 2) rfl (.int .i64 kd) (.int .i64 o0) (.int .i64 o1) (.int .i64 o2) (.int .i64 o3) (.int .i64 o4) (.int .i64 o5) (.int .u32 wa) (.int .u32 to) (.slice A n c) (.slice B m d)
    replace FR := F
    clear F hse
    obtain ⟨mw8r, w8r, hw8r, hse, F⟩ := FR.out.put10 3 rfl (b := q + 3) rfl (.int .i64 0) (.int .i64 0) (.int .i64 0) (.int .i64 0) (.int .i64 0) (.int .i64 0) (.bool false) (.bool false) (.int .i64 0) (.bool false)
    replace FR := F
    clear F hse
    obtain ⟨mw9r, w9r, hw9r, hse, F⟩ := FR.out.put7 4 rfl (b := q + 4) rfl (.bool true) (.bool false) (.bool false) (.int .i64 3) (.int .i64 0) (.int .u64 0) (.slice none 0 0)
    replace FR := F
    clear F hse
    go_wp2
    refine bodyPost_ret (res_ccc Try.results17 (by rfl) (by rfl) (by rfl) (FR.out.load 2 rfl rfl Try.underlying29 (by kernel_rfl)) (FR.out.load 3 rfl rfl Try.underlying31 (by kernel_rfl)) (FR.out.load 4 rfl rfl Try.underlying38 (by kernel_rfl))) rfl ?_
    rw [HE.out]
    exact ⟨rfl, FR.out.out⟩
  · have c0 : decide (0 < x) = true := decide_eq_true (by omega)
    have HE := Lib.hid (HO.trans (if_neg h0))
    clear HO h0
    go_enter Try.func17, Try.ntmps17
    have ac0 := row11 (b := q) (FR.out.at 0 rfl rfl)
    have ac1 := row10 (b := q + 1) (FR.out.at 1 rfl rfl)
    have af15 : v5.frozen? ⟨q + 1, 5, none⟩ = false := FR.out.frozen 1 5 rfl rfl
    obtain ⟨w6p, hw6p⟩ : ∃ W, (v5.setCell ⟨q + 1, 5, none⟩ (.int .i64 x)) = W := ⟨_, rfl⟩
    replace FR := Lib.hid (((FR.out.set 1 5 rfl rfl (.int .i64 x))).eqw hw6p)
    have bc0 := row11 (b := q) (FR.out.at 0 rfl rfl)
    have bc1 := row10 (b := q + 1) (FR.out.at 1 rfl rfl)
    go_wp2
    clear ac0 ac1 af15 bc0 bc1
    have HF0 := Lib.hid FR.out.drew
    obtain ⟨w7r, hw7r⟩ : ∃ W, w6p.drew.setCells (q + 2) 0 [.int .i64 kd, .int .i64 o0, .int .i64 o1, .int .i64 o2, .int .i64 o3, .int .i64 o4, .int .i64 o5, .int .u32 wa, .int .u32 to, .slice A n c, .slice B m d] = W := ⟨_, rfl⟩
    have HF1 := Lib.hid ((HF0.out.all 2 rfl rfl (by rfl)).eqw hw7r)
    have hh1 := Lib.hid hw7r
    clear hw7r
    obtain ⟨w8r, hw8r⟩ : ∃ W, w7r.setCells (q + 3) 0 [.int .i64 op, .int .i64 1, .int .i64 phase, .int .i64 old, .int .i64 since, .int .i64 x, .bool awoke, .bool starve, .int .i64 need, .bool front] = W := ⟨_, rfl⟩
    have HF2 := Lib.hid ((HF1.out.all 3 rfl rfl (by rfl)).eqw hw8r)
    have hh2 := Lib.hid hw8r
    clear hw8r
    obtain ⟨w9r, hw9r⟩ : ∃ W, w8r.setCells (q + 4) 0 [.bool false, .bool false, .bool false, .int .i64 3, .int .i64 0, .int .u64 0, .slice none 0 0] = W := ⟨_, rfl⟩
    have HF3 := Lib.hid ((HF2.out.all 4 rfl rfl (by rfl)).eqw hw9r)
    have hh3 := Lib.hid hw9r
    clear hw9r
    refine wp_region_noPanic ?_
    refine wp_region_held_drew (S := (fun wv => Hid (wv.heap[q]? = some (.cells #[.int .i64 kd, .int .i64 o0, .int .i64 o1, .int .i64 o2, .int .i64 o3, .int .i64 o4, .int .i64 o5, .int .u32 wa, .int .u32 to, .slice A n c, .slice B m d] 29) ∧ wv.heap[q + 1]? = some (.cells #[.int .i64 op, .int .i64 1, .int .i64 phase, .int .i64 old, .int .i64 since, .int .i64 x, .bool awoke, .bool starve, .int .i64 need, .bool front] 31)))) (by kernel_rfl) (Lib.hid (And.intro (HF0.out.blk 0 _ rfl) (HF0.out.blk 1 _ rfl))) (fun hS => ?_)
    refine wpAnyH_take (i := 0) (oi := ⟨some 14, .load 29 (.tmp 2), 29, "group.go:76", #[], none⟩) (v := .agg (([.int .i64 kd, .int .i64 o0, .int .i64 o1, .int .i64 o2, .int .i64 o3, .int .i64 o4, .int .i64 o5, .int .u32 wa, .int .u32 to, .slice A n c, .slice B m d] : List Value)).toArray) rfl (by kernel_rfl) (by kernel_rfl) (by kernel_rfl) (fun _ _ _ h => h) (yieldsIf_load_mid (by rfl) _ _ (by rfl) (q) (0) (by rfl) _ _ (fun wv hS => blk_rngl hS.out.1) Try.underlying29 (by rfl) (by kernel_rfl)) hS ?_
    try simp only [Act.put, List.setIfInBounds_toArray, List.set_cons_zero, List.set_cons_succ]
    refine wpAnyH_take (i := 1) (oi := ⟨some 15, .load 31 (.tmp 3), 31, "group.go:76", #[⟨3, .gcOnly .lateStores⟩], none⟩) (v := .agg (([.int .i64 op, .int .i64 1, .int .i64 phase, .int .i64 old, .int .i64 since, .int .i64 x, .bool awoke, .bool starve, .int .i64 need, .bool front] : List Value)).toArray) rfl (by kernel_rfl) (by kernel_rfl) (by kernel_rfl) (fun _ _ _ h => h) (yieldsIf_load_mid (by rfl) _ _ (by rfl) (q + 1) (0) (by rfl) _ _ (fun wv hS => blk_rngl hS.out.2) Try.underlying31 (by rfl) (by kernel_rfl)) hS ?_
    try simp only [Act.put, List.setIfInBounds_toArray, List.set_cons_zero, List.set_cons_succ]
    refine wpAnyH_take (i := 2) (oi := ⟨some 16, .build 38 #[(3, .const (Value.int IntKind.i64 3))], 38, "group.go:76", #[⟨4, .gcOnly .lateStores⟩], none⟩) (v := ?_) rfl (by kernel_rfl) (by kernel_rfl) (by kernel_rfl) (fun _ _ _ h => h) (Or.inl ⟨by rfl, ?_⟩) hS ?_
    rotate_left
    · intro wv _; go_simp; try with_reducible rfl
    try simp only [Act.put, List.setIfInBounds_toArray, List.set_cons_zero, List.set_cons_succ]
    refine wpAnyH_ready (rs := [3]) (by kernel_rfl) (by simp) (AllReadyH.cons (o := ⟨none, .store 29 (.tmp 4) (.tmp 14), 0, "group.go:76", #[⟨0, .data⟩, ⟨0, .phase⟩, ⟨1, .textOnly .lateStores⟩, ⟨2, .textOnly .lateStores⟩], none⟩) rfl (fun K hK => ?_) AllReadyH.nil)
    refine op_storeS (by rfl) rfl rfl rfl (there_blk (HF0.out.blk 2 _ rfl) rfl) (by kernel_rfl) (by simp [Value.oneCell']) hh1.out ?_
    replace hS := Lib.hid (And.intro (HF1.out.blk 0 _ rfl) (HF1.out.blk 1 _ rfl))
    refine Shut.out hK _ _ hS (fun _ => ?_)
    clear hK K
    try simp only [Act.put, List.setIfInBounds_toArray, List.set_cons_zero, List.set_cons_succ]
    refine wpAnyH_ready (rs := [4]) (by kernel_rfl) (by simp) (AllReadyH.cons (o := ⟨none, .store 31 (.tmp 5) (.tmp 15), 0, "group.go:76", #[⟨1, .data⟩, ⟨3, .chain⟩, ⟨0, .phase⟩, ⟨1, .phase⟩, ⟨2, .textOnly .lateStores⟩, ⟨3, .phase⟩], none⟩) rfl (fun K hK => ?_) AllReadyH.nil)
    refine op_storeS (by rfl) rfl rfl rfl (there_blk (HF1.out.blk 3 _ rfl) rfl) (by kernel_rfl) (by simp [Value.oneCell']) hh2.out ?_
    replace hS := Lib.hid (And.intro (HF2.out.blk 0 _ rfl) (HF2.out.blk 1 _ rfl))
    refine Shut.out hK _ _ hS (fun _ => ?_)
    clear hK K
    try simp only [Act.put, List.setIfInBounds_toArray, List.set_cons_zero, List.set_cons_succ]
    refine wpAnyH_ready (rs := [5]) (by kernel_rfl) (by simp) (AllReadyH.cons (o := ⟨none, .store 38 (.tmp 6) (.tmp 16), 0, "group.go:76", #[⟨2, .data⟩, ⟨4, .chain⟩, ⟨0, .phase⟩, ⟨1, .phase⟩, ⟨2, .phase⟩, ⟨3, .phase⟩, ⟨4, .phase⟩], none⟩) rfl (fun K hK => ?_) AllReadyH.nil)
    refine op_storeS (by rfl) rfl rfl rfl (there_blk (HF2.out.blk 4 _ rfl) rfl) (by kernel_rfl) (by simp [Value.oneCell']) hh3.out ?_
    replace hS := Lib.hid (And.intro (HF3.out.blk 0 _ rfl) (HF3.out.blk 1 _ rfl))
    refine Shut.out hK _ _ hS (fun _ => ?_)
    clear hK K
    try simp only [Act.put, List.setIfInBounds_toArray, List.set_cons_zero, List.set_cons_succ]
    refine wpAnyH_done (by kernel_rfl) ?_ _
    refine NoPanic.normal ?_
    go_wp2
    refine bodyPost_ret (res_ccc Try.results17 (by rfl) (by rfl) (by rfl) (HF3.out.load 2 rfl rfl Try.underlying29 (by kernel_rfl)) (HF3.out.load 3 rfl rfl Try.underlying31 (by kernel_rfl)) (HF3.out.load 4 rfl rfl Try.underlying38 (by kernel_rfl))) rfl ?_
    replace FR := HF3
    rw [HE.out]
    exact ⟨rfl, FR.out.out⟩
set_option maxRecDepth 100000 in
set_option maxHeartbeats 16000000 in
theorem grCome_any (kd o0 o1 o2 o3 o4 o5 wa to : Int) (A : Option Addr) (n c : Nat) (B : Option Addr) (m d : Nat) (f : MFr) (hs : f.stage = 0) (w : World) : Calls Try.prog 18 #[obV kd o0 o1 o2 o3 o4 o5 wa to A n c B m d, frV f] w (StepG w kd o2 o3 o4 o5 wa to A n c B m d (waitW o0 o1 f)) := by
  obtain ⟨op, stage, phase, old, since, left, awoke, starve, need, front⟩ := f
  have hs2 : stage = 0 := hs
  subst hs2
  clear hs
  unfold obV frV frC
  simp only
  obtain ⟨v1, hv1, z1, v2, hv2, z2, v3, hv3, z3, v4, hv4, z4, v5, hv5, z5, F⟩ := boxes5 w (.cells #[.int .i64 kd, .int .i64 o0, .int .i64 o1, .int .i64 o2, .int .i64 o3, .int .i64 o4, .int .i64 o5, .int .u32 wa, .int .u32 to, .slice A n c, .slice B m d] 29) (.cells #[.int .i64 op, .int .i64 0, .int .i64 phase, .int .i64 old, .int .i64 since, .int .i64 left, .bool awoke, .bool starve, .int .i64 need, .bool front] 31) (.cells #[.int .i64 0, .int .i64 0, .int .i64 0, .int .i64 0, .int .i64 0, .int .i64 0, .int .i64 0, .int .u32 0, .int .u32 0, .slice none 0 0, .slice none 0 0] 29) (.cells #[.int .i64 0, .int .i64 0, .int .i64 0, .int .i64 0, .int .i64 0, .int .i64 0, .bool false, .bool false, .int .i64 0, .bool false] 31) (.cells #[.bool false, .bool false, .bool false, .int .i64 0, .int .i64 0, .int .u64 0, .slice none 0 0] 38)
  generalize hq : w.heap.size = q at *
  have FR := Lib.hid F
  clear F
  by_cases h0 : o0 = 0
  · have c0 : (o0 == 0) = true := by simp [h0]
    have HE := Lib.hid (show waitW o0 o1 ⟨op, 0, phase, old, since, left, awoke, starve, need, front⟩ = ((o0, o1), noF, doneA) from if_pos (Or.inr ⟨rfl, h0⟩))
    clear h0
    go_enter Try.func18, Try.ntmps18
    have ac0 := row11 (b := q) (FR.out.at 0 rfl rfl)
    have ac1 := row10 (b := q + 1) (FR.out.at 1 rfl rfl)
    go_wp2_with fail
    refine (stDone_any _ _ _ _ _ _ _ _ _ _ _ _ _ _ _ _).mono ?_
    rintro e w7 ⟨rfl, hb⟩
    clear ac0 ac1
    replace FR := Lib.hid (FR.out.step hb)
    clear hb
    obtain ⟨mw6r, w6r, hw6r, hse, F⟩ := FR.out.put11 2 rfl (b := q + 2) rfl (.int .i64 kd) (.int .i64 o0) (.int .i64 o1) (.int .i64 o2) (.int .i64 o3) (.int .i64 o4) (.int .i64 o5) (.int .u32 wa) (.int .u32 to) (.slice A n c) (.slice B m d)
    replace FR := F
    clear F hse
    obtain ⟨mw7r, w7r, hw7r, hse, F⟩ := FR.out.put10 3 rfl (b := q + 3) rfl (.int .i64 0) (.int .i64 0) (.int .i64 0) (.int .i64 0) (.int .i64 0) (.int .i64 0) (.bool false) (.bool false) (.int .i64 0) (.bool false)
    replace FR := F
    clear F hse
    obtain ⟨mw8r, w8r, hw8r, hse, F⟩ := FR.out.put7 4 rfl (b := q + 4) rfl (.bool true) (.bool false) (.bool false) (.int .i64 0) (.int .i64 0) (.int .u64 0) (.slice none 0 0)
    replace FR := F
    clear F hse
    go_wp2
    refine bodyPost_ret (res_ccc Try.results18 (by rfl) (by rfl) (by rfl) (FR.out.load 2 rfl rfl Try.underlying29 (by kernel_rfl)) (FR.out.load 3 rfl rfl Try.underlying31 (by kernel_rfl)) (FR.out.load 4 rfl rfl Try.underlying38 (by kernel_rfl))) rfl ?_
    rw [HE.out]
    exact ⟨rfl, FR.out.out⟩
  · have c0 : (o0 == 0) = false := by simp [h0]
    obtain ⟨x, hx⟩ : ∃ x, IntKind.i64.wrap (o1 + 1) = x := ⟨_, rfl⟩
    have HE := Lib.hid (show waitW o0 o1 ⟨op, 0, phase, old, since, left, awoke, starve, need, front⟩ = ((o0, x), ⟨op, 1, phase, old, since, left, awoke, starve, 3, front⟩, noA) from by
      unfold waitW
      rw [if_neg (fun h => by rcases h with h | h; exact absurd (show (0 : Int) = 1 from h) (by decide); exact h0 h.2), if_pos rfl, hx])
    clear h0
    go_enter Try.func18, Try.ntmps18
    have ac0 := row11 (b := q) (FR.out.at 0 rfl rfl)
    have af02 : v5.frozen? ⟨q, 2, none⟩ = false := FR.out.frozen 0 2 rfl rfl
    have ac1 := row10 (b := q + 1) (FR.out.at 1 rfl rfl)
    obtain ⟨w6p, hw6p⟩ : ∃ W, (v5.setCell ⟨q, 2, none⟩ (.int .i64 x)) = W := ⟨_, rfl⟩
    replace FR := Lib.hid (((FR.out.set 0 2 rfl rfl (.int .i64 x))).eqw hw6p)
    have bc0 := row11 (b := q) (FR.out.at 0 rfl rfl)
    have bc1 := row10 (b := q + 1) (FR.out.at 1 rfl rfl)
    have bf18 : w6p.frozen? ⟨q + 1, 8, none⟩ = false := FR.out.frozen 1 8 rfl rfl
    obtain ⟨w7p, hw7p⟩ : ∃ W, (w6p.setCell ⟨q + 1, 8, none⟩ (.int .i64 3)) = W := ⟨_, rfl⟩
    replace FR := Lib.hid (((FR.out.set 1 8 rfl rfl (.int .i64 3))).eqw hw7p)
    have cc0 := row11 (b := q) (FR.out.at 0 rfl rfl)
    have cc1 := row10 (b := q + 1) (FR.out.at 1 rfl rfl)
    have cf11 : w7p.frozen? ⟨q + 1, 1, none⟩ = false := FR.out.frozen 1 1 rfl rfl
    obtain ⟨w8p, hw8p⟩ : ∃ W, (w7p.setCell ⟨q + 1, 1, none⟩ (.int .i64 1)) = W := ⟨_, rfl⟩
    replace FR := Lib.hid (((FR.out.set 1 1 rfl rfl (.int .i64 1))).eqw hw8p)
    have dc0 := row11 (b := q) (FR.out.at 0 rfl rfl)
    have dc1 := row10 (b := q + 1) (FR.out.at 1 rfl rfl)
    go_wp2
    clear ac0 af02 ac1 bc0 bc1 bf18 cc0 cc1 cf11 dc0 dc1
    have HF0 := Lib.hid FR.out.drew
    obtain ⟨w9r, hw9r⟩ : ∃ W, w8p.drew.setCells (q + 2) 0 [.int .i64 kd, .int .i64 o0, .int .i64 x, .int .i64 o2, .int .i64 o3, .int .i64 o4, .int .i64 o5, .int .u32 wa, .int .u32 to, .slice A n c, .slice B m d] = W := ⟨_, rfl⟩
    have HF1 := Lib.hid ((HF0.out.all 2 rfl rfl (by rfl)).eqw hw9r)
    have hh1 := Lib.hid hw9r
    clear hw9r
    obtain ⟨w10r, hw10r⟩ : ∃ W, w9r.setCells (q + 3) 0 [.int .i64 op, .int .i64 1, .int .i64 phase, .int .i64 old, .int .i64 since, .int .i64 left, .bool awoke, .bool starve, .int .i64 3, .bool front] = W := ⟨_, rfl⟩
    have HF2 := Lib.hid ((HF1.out.all 3 rfl rfl (by rfl)).eqw hw10r)
    have hh2 := Lib.hid hw10r
    clear hw10r
    obtain ⟨w11r, hw11r⟩ : ∃ W, w10r.setCells (q + 4) 0 [.bool false, .bool false, .bool false, .int .i64 0, .int .i64 0, .int .u64 0, .slice none 0 0] = W := ⟨_, rfl⟩
    have HF3 := Lib.hid ((HF2.out.all 4 rfl rfl (by rfl)).eqw hw11r)
    have hh3 := Lib.hid hw11r
    clear hw11r
    refine wp_region_noPanic ?_
    refine wp_region_held_drew (S := (fun wv => Hid (wv.heap[q]? = some (.cells #[.int .i64 kd, .int .i64 o0, .int .i64 x, .int .i64 o2, .int .i64 o3, .int .i64 o4, .int .i64 o5, .int .u32 wa, .int .u32 to, .slice A n c, .slice B m d] 29) ∧ wv.heap[q + 1]? = some (.cells #[.int .i64 op, .int .i64 1, .int .i64 phase, .int .i64 old, .int .i64 since, .int .i64 left, .bool awoke, .bool starve, .int .i64 3, .bool front] 31)))) (by kernel_rfl) (Lib.hid (And.intro (HF0.out.blk 0 _ rfl) (HF0.out.blk 1 _ rfl))) (fun hS => ?_)
    refine wpAnyH_take (i := 0) (oi := ⟨some 24, .load 29 (.tmp 2), 29, "group.go:89", #[], none⟩) (v := .agg (([.int .i64 kd, .int .i64 o0, .int .i64 x, .int .i64 o2, .int .i64 o3, .int .i64 o4, .int .i64 o5, .int .u32 wa, .int .u32 to, .slice A n c, .slice B m d] : List Value)).toArray) rfl (by kernel_rfl) (by kernel_rfl) (by kernel_rfl) (fun _ _ _ h => h) (yieldsIf_load_mid (by rfl) _ _ (by rfl) (q) (0) (by rfl) _ _ (fun wv hS => blk_rngl hS.out.1) Try.underlying29 (by rfl) (by kernel_rfl)) hS ?_
    try simp only [Act.put, List.setIfInBounds_toArray, List.set_cons_zero, List.set_cons_succ]
    refine wpAnyH_take (i := 1) (oi := ⟨some 25, .load 31 (.tmp 3), 31, "group.go:89", #[⟨3, .gcOnly .lateStores⟩], none⟩) (v := .agg (([.int .i64 op, .int .i64 1, .int .i64 phase, .int .i64 old, .int .i64 since, .int .i64 left, .bool awoke, .bool starve, .int .i64 3, .bool front] : List Value)).toArray) rfl (by kernel_rfl) (by kernel_rfl) (by kernel_rfl) (fun _ _ _ h => h) (yieldsIf_load_mid (by rfl) _ _ (by rfl) (q + 1) (0) (by rfl) _ _ (fun wv hS => blk_rngl hS.out.2) Try.underlying31 (by rfl) (by kernel_rfl)) hS ?_
    try simp only [Act.put, List.setIfInBounds_toArray, List.set_cons_zero, List.set_cons_succ]
    refine wpAnyH_take (i := 2) (oi := ⟨some 26, .build 38 #[], 38, "group.go:89", #[⟨4, .gcOnly .lateStores⟩], none⟩) (v := ?_) rfl (by kernel_rfl) (by kernel_rfl) (by kernel_rfl) (fun _ _ _ h => h) (Or.inl ⟨by rfl, ?_⟩) hS ?_
    rotate_left
    · intro wv _; go_simp; try with_reducible rfl
    try simp only [Act.put, List.setIfInBounds_toArray, List.set_cons_zero, List.set_cons_succ]
    refine wpAnyH_ready (rs := [3]) (by kernel_rfl) (by simp) (AllReadyH.cons (o := ⟨none, .store 29 (.tmp 4) (.tmp 24), 0, "group.go:89", #[⟨0, .data⟩, ⟨0, .phase⟩, ⟨1, .textOnly .lateStores⟩, ⟨2, .textOnly .lateStores⟩], none⟩) rfl (fun K hK => ?_) AllReadyH.nil)
    refine op_storeS (by rfl) rfl rfl rfl (there_blk (HF0.out.blk 2 _ rfl) rfl) (by kernel_rfl) (by simp [Value.oneCell']) hh1.out ?_
    replace hS := Lib.hid (And.intro (HF1.out.blk 0 _ rfl) (HF1.out.blk 1 _ rfl))
    refine Shut.out hK _ _ hS (fun _ => ?_)
    clear hK K
    try simp only [Act.put, List.setIfInBounds_toArray, List.set_cons_zero, List.set_cons_succ]
    refine wpAnyH_ready (rs := [4]) (by kernel_rfl) (by simp) (AllReadyH.cons (o := ⟨none, .store 31 (.tmp 5) (.tmp 25), 0, "group.go:89", #[⟨1, .data⟩, ⟨3, .chain⟩, ⟨0, .phase⟩, ⟨1, .phase⟩, ⟨2, .textOnly .lateStores⟩, ⟨3, .phase⟩], none⟩) rfl (fun K hK => ?_) AllReadyH.nil)
    refine op_storeS (by rfl) rfl rfl rfl (there_blk (HF1.out.blk 3 _ rfl) rfl) (by kernel_rfl) (by simp [Value.oneCell']) hh2.out ?_
    replace hS := Lib.hid (And.intro (HF2.out.blk 0 _ rfl) (HF2.out.blk 1 _ rfl))
    refine Shut.out hK _ _ hS (fun _ => ?_)
    clear hK K
    try simp only [Act.put, List.setIfInBounds_toArray, List.set_cons_zero, List.set_cons_succ]
    refine wpAnyH_ready (rs := [5]) (by kernel_rfl) (by simp) (AllReadyH.cons (o := ⟨none, .store 38 (.tmp 6) (.tmp 26), 0, "group.go:89", #[⟨2, .data⟩, ⟨4, .chain⟩, ⟨0, .phase⟩, ⟨1, .phase⟩, ⟨2, .phase⟩, ⟨3, .phase⟩, ⟨4, .phase⟩], none⟩) rfl (fun K hK => ?_) AllReadyH.nil)
    refine op_storeS (by rfl) rfl rfl rfl (there_blk (HF2.out.blk 4 _ rfl) rfl) (by kernel_rfl) (by simp [Value.oneCell']) hh3.out ?_
    replace hS := Lib.hid (And.intro (HF3.out.blk 0 _ rfl) (HF3.out.blk 1 _ rfl))
    refine Shut.out hK _ _ hS (fun _ => ?_)
    clear hK K
    try simp only [Act.put, List.setIfInBounds_toArray, List.set_cons_zero, List.set_cons_succ]
    refine wpAnyH_done (by kernel_rfl) ?_ _
    refine NoPanic.normal ?_
    go_wp2
    refine bodyPost_ret (res_ccc Try.results18 (by rfl) (by rfl) (by rfl) (HF3.out.load 2 rfl rfl Try.underlying29 (by kernel_rfl)) (HF3.out.load 3 rfl rfl Try.underlying31 (by kernel_rfl)) (HF3.out.load 4 rfl rfl Try.underlying38 (by kernel_rfl))) rfl ?_
    replace FR := HF3
    rw [HE.out]
    exact ⟨rfl, FR.out.out⟩
end Go.Proofs.Ytglldhmdifnobaa
