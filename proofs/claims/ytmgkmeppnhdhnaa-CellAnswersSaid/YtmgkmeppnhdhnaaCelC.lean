/- What slices.Clone and slices.Equal of words, and the landed cell's own Load, closures and changed answer; for lists of up to 16384. -/
import Derived.Test.YtmgkmeppnhdhnaaCelB
import Derived.BigQuiet
import Derived.Deep.QuietTactic
namespace Go.Proofs.Ytmgkmeppnhdhnaa
set_option linter.unusedVariables false
set_option linter.unusedSimpArgs false
open Go.RowKit
set_option maxRecDepth 100000 in
set_option maxHeartbeats 4000000 in
theorem clone14_any (A : Option Addr) (n c : Nat) (ws : List Nat) (w : World) (hx : Ws w A n c ws) (hn : n ≤ 16384) :
    Calls Try.prog 21 #[.slice A n c] w (fun e w' => ∃ B d, e = .returned (.slice B n d) ∧ w'.ownsRow w.heap.size 23 1 (.slice B n d) n (U64s ws) ∧ Below w.heap.size w w') := by
  cases A with
  | none =>
    have h0 : n = 0 := by
      rcases Nat.eq_zero_or_pos n with h0 | h0
      · exact h0
      · obtain ⟨b, off, e, _⟩ := Es.mem hx (by omega); cases e
    subst h0
    obtain rfl : ws = [] := List.eq_nil_of_length_eq_zero hx.len
    have hq : ∀ W : World, (binOp .eql 22 (.slice none 0 c) (.slice none 0 0)).run Try.prog W = .ok (.bool true) W := fun _ => by kernel_rfl
    go_enter Try.func21, Try.ntmps21
    go_wp2
    go_ret
    exact ⟨none, 0, rfl, World.ownsRow_nil _ _ _ _, Below.refl _ _⟩
  | some ad =>
    obtain ⟨B, d, w3, hap, hown, hgr⟩ := app_ws (w.alloc (.cells #[] 23)) w.heap.size _ 0 [] (lit_ws w (Nat.le_refl _)) (some ad) n c ws (Es.alloc hx _) (by omega) (by simp)
    rw [Nat.zero_add] at hap hown
    rw [List.nil_append] at hown
    have hb3 : Below w.heap.size w w3 := ((Below.refl _ _).alloc (Nat.le_refl _) _).grown hgr (by simp) (by simp [Value.ownBlock])
    have HO := Lib.hid hown; have HB3 := Lib.hid hb3
    have hq : ∀ W : World, (binOp .eql 22 (.slice (some ad) n c) (.slice none 0 0)).run Try.prog W = .ok (.bool false) W := fun _ => by kernel_rfl
    clear hown hgr hb3 hx
    go_enter Try.func21, Try.ntmps21
    go_wp2_with (at_builtin; refine eapp_run (by rfl) rfl rfl rfl hap ?_)
    go_ret
    exact ⟨B, d, rfl, HO.out, HB3.out⟩
set_option maxRecDepth 100000 in
set_option maxHeartbeats 4000000 in
theorem equal14_any (A : Option Addr) (n c : Nat) (xs : List Nat) (B : Option Addr) (m d : Nat) (ys : List Nat) (w : World) (hx : Ws w A n c xs) (hy : Ws w B m d ys) (hn : n ≤ 16384) :
    Calls Try.prog 20 #[.slice A n c, .slice B m d] w (YesW w (decide (xs = ys))) := by
  have hlx : xs.length = n := hx.len
  have hly : ys.length = m := hy.len
  have RX := Lib.hid hx; have RY := Lib.hid hy
  have HLX := Lib.hid hlx; have HLY := Lib.hid hly
  obtain ⟨R, hR⟩ : ∃ R, decide (xs = ys) = R := ⟨_, rfl⟩
  rw [hR]
  have HNO := Lib.hid (show ¬ xs = ys → R = false from fun h => by rw [← hR]; exact decide_eq_false h)
  have HYES := Lib.hid (show xs = ys → R = true from fun h => by rw [← hR]; exact decide_eq_true h)
  clear hx hy hR hlx hly
  by_cases hnm : n = m
  rotate_left
  · have t0 : ((n : Int) != (m : Int)) = true := by simp; omega
    have t0n : (n != m) = true := by simp; omega
    have HE := Lib.hid (HNO.out (fun h => hnm (by rw [← HLX.out, ← HLY.out, h])))
    clear hnm
    go_enter Try.func20, Try.ntmps20
    go_wp2
    go_ret
    rw [HE.out]
    exact ⟨rfl, Below.refl _ _⟩
  subst hnm
  have t0 : ((n : Int) != (n : Int)) = false := by simp
  have t0n : (n != n) = false := by simp
  go_enter Try.func20, Try.ntmps20
  go_wp2
  go_loopw [13] (fun iv wr => ∃ (i : Nat), iv = .int .i64 (i : Int) ∧ i ≤ n ∧ Hid (xs.take i = ys.take i) ∧ Hid (Below w.heap.size w wr)) (fun iv _ => n - (intOf iv).toNat)
  case atStart => exact ⟨0, rfl, by omega, Lib.hid (by simp), Lib.hid (Below.refl _ _)⟩
  case round =>
    obtain ⟨i, rfl, hi, HTK, HB⟩ := hrel
    by_cases hlt : i < n
    · have c1 : decide ((i : Int) < (n : Int)) = true := by simpa using hlt
      have c1n : decide (i < n) = true := by simpa using hlt
      have i0 : (0 : Int) ≤ (i : Int) := by omega
      have i1 : (i : Int) < (n : Int) := by omega
      have HLT := Lib.hid hlt
      obtain ⟨b, off, x, rfl, _, u0, hdx⟩ := Ws.look (ws := xs) (Es.below RX.out HB.out) i hlt
      obtain ⟨b2, off2, y, rfl, _, g0, hdy⟩ := Ws.look (ws := ys) (Es.below RY.out HB.out) i hlt
      by_cases he : x = y
      · subst he
        have HT2 := Lib.hid ((by rw [take_step hdx, take_step hdy, HTK.out] : xs.take (i + 1) = ys.take (i + 1)))
        have hne : ((x : Int) != (x : Int)) = false := by simp
        clear hlt hdx hdy
        go_wp2
        go_quiet (fail)
        replace HB := Lib.hid (show Below w.heap.size w (wr.drewN nq) from bel_drewN HB.out _)
        clear u0 g0 hne
        obtain ⟨wn, hwn⟩ : ∃ W, wr.drewN nq = W := ⟨_, rfl⟩
        rw [hwn] at HB ⊢
        clear hwn
        go_wp2
        go_roundw
        case rel => have := HLT.out; exact ⟨i + 1, by go_num, by omega, HT2, HB⟩
        case measure => have := HLT.out; simp [intOf]; omega
      · have HE := Lib.hid (HNO.out (unlike_at hdx hdy he))
        have hne : ((x : Int) != (y : Int)) = true := by simp; omega
        clear he hlt hdx hdy
        go_wp2
        go_quiet (fail)
        replace HB := Lib.hid (show Below w.heap.size w (wr.drewN nq) from bel_drewN HB.out _)
        clear u0 g0 hne
        obtain ⟨wn, hwn⟩ : ∃ W, wr.drewN nq = W := ⟨_, rfl⟩
        rw [hwn] at HB ⊢
        clear hwn
        go_wp2
        go_ret
        rw [HE.out]
        exact ⟨rfl, HB.out⟩
    · have en : i = n := by omega
      have c1 : decide ((i : Int) < (n : Int)) = false := by simp; omega
      have c1n : decide (i < n) = false := by simp; omega
      have HE := Lib.hid (HYES.out (by have h := HTK.out; rw [List.take_of_length_le (by rw [HLX.out]; omega), List.take_of_length_le (by rw [HLY.out]; omega)] at h; exact h))
      clear en hlt hi
      go_wp2
      go_ret
      rw [HE.out]
      exact ⟨rfl, HB.out⟩
set_option maxRecDepth 100000 in
set_option maxHeartbeats 4000000 in
theorem ceLoad0_any (A : Option Addr) (n c : Nat) (ws : List Nat) (i : Int) (w : World) (hx : Ws w A n c ws) :
    Calls Try.prog 6 #[.slice A n c, .int .i64 i] w (LdP w (loadC ws i)) := by
  have hlen : ws.length = n := hx.len
  obtain ⟨R, hR⟩ : ∃ R, loadC ws i = R := ⟨_, rfl⟩
  rw [hR]
  by_cases h1 : i < 0
  · have b0 : decide (i < 0) = true := by simpa using h1
    have HE := Lib.hid (show R = (0, false) from by rw [← hR]; unfold loadC; rw [if_neg (by unfold isC; omega)])
    clear hR hlen hx
    go_enter Try.func6, Try.ntmps6
    go_wp2
    go_ret2
    rw [HE.out]
    exact ⟨rfl, Below.refl _ _⟩
  · have b0 : decide (i < 0) = false := by simpa using h1
    by_cases h2 : (n : Int) ≤ i
    · have b1 : decide ((n : Int) ≤ i) = true := by simpa using h2
      have HE := Lib.hid (show R = (0, false) from by rw [← hR]; unfold loadC; rw [if_neg (by unfold isC; omega)])
      clear hR hlen hx
      go_enter Try.func6, Try.ntmps6
      go_wp2
      go_ret2
      rw [HE.out]
      exact ⟨rfl, Below.refl _ _⟩
    · have b1 : decide ((n : Int) ≤ i) = false := by simpa using h2
      obtain ⟨k, rfl⟩ : ∃ k : Nat, i = k := ⟨i.toNat, by omega⟩
      have hk : k < n := by omega
      obtain ⟨b, off, rfl, hb0, k0⟩ := hx.at k hk
      have i0 : (0 : Int) ≤ (k : Int) := by omega
      have i1 : (k : Int) < (n : Int) := by omega
      have HE := Lib.hid (show R = (ws.getD k 0, true) from by rw [← hR]; unfold loadC; rw [if_pos (by unfold isC; omega), Int.toNat_natCast])
      clear hR hlen hx hb0 h1 h2
      generalize ws.getD k 0 = v at *
      go_enter Try.func6, Try.ntmps6
      go_wp2
      go_ret2
      rw [HE.out]
      exact ⟨rfl, Below.refl _ _⟩
set_option maxRecDepth 100000 in
set_option maxHeartbeats 4000000 in
theorem rule1_any (v x b : Nat) (w : World) (hb1 : w.heap[b]? = some (.cells #[.int .u64 (x : Int)] 23)) :
    Calls Try.prog 17 #[.int .u64 (v : Int), .pointer (some ⟨b, 0, none⟩)] w (fun e w' => e = .returned (.int .u64 (x : Int)) ∧ w' = w) := by
  have cb := blk_cell hb1 0
  simp only [List.getElem?_toArray, List.getElem?_cons_zero] at cb
  clear hb1
  go_enter Try.func17, Try.ntmps17
  go_wp2
  go_ret
  exact ⟨rfl, rfl⟩
set_option maxRecDepth 100000 in
set_option maxHeartbeats 4000000 in
theorem rule3_any (v y z b : Nat) (hz : (v + y) % M64_ = z) (w : World) (hb1 : w.heap[b]? = some (.cells #[.int .u64 (y : Int)] 23)) :
    Calls Try.prog 19 #[.int .u64 (v : Int), .pointer (some ⟨b, 0, none⟩)] w (fun e w' => e = .returned (.int .u64 (z : Int)) ∧ w' = w) := by
  have cb := blk_cell hb1 0
  simp only [List.getElem?_toArray, List.getElem?_cons_zero] at cb
  have hwz := wrap_more hz
  clear hb1 hz
  go_enter Try.func19, Try.ntmps19
  go_wp2
  go_ret
  exact ⟨rfl, rfl⟩
set_option maxRecDepth 100000 in
set_option maxHeartbeats 4000000 in
theorem rule2_any (v old x b0 b1 b2 : Nat) (q : Bool) (w : World) (h0 : w.heap[b0]? = some (.cells #[.int .u64 (old : Int)] 23)) (h1 : w.heap[b1]? = some (.cells #[.bool q] 4)) (h2 : w.heap[b2]? = some (.cells #[.int .u64 (x : Int)] 23)) (n1 : b0 ≠ b1) (n2 : b2 ≠ b1) :
    Calls Try.prog 18 #[.int .u64 (v : Int), .pointer (some ⟨b0, 0, none⟩), .pointer (some ⟨b1, 0, none⟩), .pointer (some ⟨b2, 0, none⟩)] w (fun e w' => e = .returned (.int .u64 ((if v = old then x else v : Nat) : Int)) ∧ w' = w.setCell ⟨b1, 0, none⟩ (.bool (decide (v = old)))) := by
  have c0 := blk_cell h0 0
  have c1 := blk_cell h1 0
  have c2 := blk_cell h2 0
  simp only [List.getElem?_toArray, List.getElem?_cons_zero] at c0 c1 c2
  have f1 := blk_frozen h1 0
  by_cases he : v = old
  · have hq : ((v : Int) == (old : Int)) = true := by simp [he]
    rw [if_pos he, decide_eq_true he]
    obtain ⟨w1, hw1⟩ : ∃ W, w.setCell ⟨b1, 0, none⟩ (.bool true) = W := ⟨_, rfl⟩
    have d1 := blk_cell (blk_set (j := 0) (cs := [.bool q]) h1 (.bool true)) 0
    have d2 := blk_cell (show (w.setCell ⟨b1, 0, none⟩ (.bool true)).heap[b2]? = some (.cells #[.int .u64 (x : Int)] 23) from by rw [Below.heap_setCell _ _ _ _ n2]; exact h2) 0
    simp only [List.getElem?_toArray, List.getElem?_cons_zero, List.set_cons_zero] at d1 d2
    clear h0 h1 h2 he n1 n2
    rw [hw1] at d1 d2 ⊢
    go_enter Try.func18, Try.ntmps18
    go_wp2
    go_ret
    exact ⟨rfl, rfl⟩
  · have hq : ((v : Int) == (old : Int)) = false := by simp; omega
    rw [if_neg he, decide_eq_false he]
    obtain ⟨w1, hw1⟩ : ∃ W, w.setCell ⟨b1, 0, none⟩ (.bool false) = W := ⟨_, rfl⟩
    have d1 := blk_cell (blk_set (j := 0) (cs := [.bool q]) h1 (.bool false)) 0
    simp only [List.getElem?_toArray, List.getElem?_cons_zero, List.set_cons_zero] at d1
    clear h0 h1 h2 he n1 n2
    rw [hw1] at d1 ⊢
    go_enter Try.func18, Try.ntmps18
    go_wp2
    go_ret
    exact ⟨rfl, rfl⟩
theorem gtrans14 {w1 w w' : World} {r : Option Nat} (h : w1.grownBy w r) (k : w.grownBy w' r) : w1.grownBy w' r :=
  ⟨k.os.trans h.os, k.tape.trans h.tape, k.output.trans h.output, Nat.le_trans h.size k.size, fun i hi hne => (k.block i (by have := h.size; omega) hne).trans (h.block i hi hne)⟩
theorem gbel14 {w w' : World} {r : Option Nat} (h : Below w.heap.size w w') : w.grownBy w' r := ⟨h.os, h.tape, h.output, h.size, fun k hk _ => h.block k hk⟩
theorem gset14 {w1 w : World} {r : Option Nat} {g : Nat} (k : w1.grownBy w r) (h : w1.heap.size ≤ g ∨ r = some g) (o : Nat) (v : Value) : w1.grownBy (w.setCell ⟨g, o, none⟩ v) r :=
  ⟨k.os, k.tape, k.output, by simpa [World.setCell] using k.size, fun i hi hne => (Below.heap_setCell _ _ _ _ (fun e => by
    have e : i = g := e
    rcases h with h | h
    · omega
    · exact hne (by rw [e, h]))).trans (k.block i hi hne)⟩
set_option maxRecDepth 100000 in
set_option maxHeartbeats 4000000 in
theorem changed1_any (A : Option Addr) (n c : Nat) (ws : List Nat) (i : Int) (x b : Nat) (w : World) (hx : Ws w A n c ws) (hn : n ≤ 16384) (hb1 : w.heap[b]? = some (.cells #[.int .u64 (x : Int)] 23)) :
    Calls Try.prog 16 #[.slice A n c, .int .i64 i, .func (.func 17) #[] #[.pointer (some ⟨b, 0, none⟩)]] w (fun e w' => ∃ B m d, e = .returned (.tuple #[.slice B m d, .bool (decide (isC ws i))]) ∧ Ws w' B m d (if isC ws i then ws.set i.toNat (x) else []) ∧ w.grownBy w' none ∧ True) := by
  have hlen : ws.length = n := hx.len
  have RX := Lib.hid hx
  have LD := ceLoad0_any A n c ws i w hx
  unfold loadC at LD
  by_cases h1 : isC ws i
  · rw [decide_eq_true h1]
    simp only [if_pos h1] at LD ⊢
    obtain ⟨k, rfl⟩ : ∃ k : Nat, i = k := ⟨i.toNat, by have := h1.1; omega⟩
    have hk : k < n := by have := h1.2; omega
    simp only [Int.toNat_natCast] at LD ⊢
    obtain ⟨v, hv⟩ : ∃ v : Nat, ws.getD k 0 = v := ⟨_, rfl⟩
    have HV := Lib.hid (show (U64s ws)[k]? = some (.int .u64 ((v : Nat) : Int)) from by
      have hl : k < ws.length := by omega
      unfold U64s
      rw [List.getElem?_map, List.getElem?_eq_getElem hl, ← hv, List.getD_eq_getElem?_getD, List.getElem?_eq_getElem hl]
      rfl)
    simp only [hv] at LD ⊢
    clear hv
    have i0 : (0 : Int) ≤ (k : Int) := by omega
    have i1 : (k : Int) < (n : Int) := by omega
    replace LD := Lib.hid LD
    have HK := Lib.hid hk
    have VB := Lib.hid hb1
    clear hb1
    clear hx hlen h1 hk
    go_enter Try.func16, Try.ntmps16
    go_wp2_with fail
    refine LD.out.mono ?_
    rintro e w1 ⟨rfl, hb⟩
    have HB := Lib.hid hb
    have CLN := Lib.hid (clone14_any A n c ws w1 (Es.below RX.out hb) hn)
    clear hb LD
    go_wp2_with fail
    refine CLN.out.mono ?_
    rintro e w2 ⟨B, d, rfl, hown, hb⟩
    obtain ⟨g, rfl⟩ : ∃ g, B = some ⟨g, 0, none⟩ := by
      rcases hown.2 with ⟨h, _⟩ | ⟨g, cap, cur, h, _⟩
      · injection h with _ h; have := HK.out; omega
      · injection h with h; exact ⟨g, h⟩
    have OW := Lib.hid (own_base hown HB.out.size)
    replace HB := Lib.hid (HB.out.trans (hb.mono HB.out.size))
    clear hb hown CLN
    have RU := Lib.hid (rule1_any v x b w2 (blk_below VB.out HB.out (blk_lt VB.out)))
    go_wp2_with fail
    refine RU.out.mono ?_
    rintro e w3 ⟨rfl, h3⟩
    obtain rfl := h3.symm
    have GB := Lib.hid (gbel14 (r := none) HB.out)
    have hfz := OW.out.frozenAt k
    have hcl := (OW.out.cellAt k (by have := HK.out; omega)).trans HV.out
    go_wp2
    go_ret2
    have o1 := (OW.out.stored k (.int .u64 (((x) : Nat) : Int))).1
    have o2 : (U64s ws).set k (.int .u64 (((x) : Nat) : Int)) = U64s (ws.set k (x)) := by unfold U64s; rw [List.map_set]
    rw [o2] at o1
    have hge := (OW.out.lt g (by simp [Value.ownBlock])).1
    exact ⟨_, _, _, rfl, ws_own o1, gset14 GB.out (Or.inl hge) _ _, trivial⟩
  · rw [decide_eq_false h1]
    simp only [if_neg h1] at LD ⊢
    replace LD := Lib.hid LD
    clear hb1
    clear hx hlen h1
    go_enter Try.func16, Try.ntmps16
    go_wp2_with fail
    refine LD.out.mono ?_
    rintro e w1 ⟨rfl, hb⟩
    have HB := Lib.hid hb
    clear hb LD
    go_wp2
    go_ret2
    exact ⟨none, 0, 0, rfl, Es.nil _ _ _ _, gbel14 HB.out, trivial⟩
set_option maxRecDepth 100000 in
set_option maxHeartbeats 4000000 in
theorem changed3_any (A : Option Addr) (n c : Nat) (ws : List Nat) (i : Int) (y b : Nat) (w : World) (hx : Ws w A n c ws) (hn : n ≤ 16384) (hb1 : w.heap[b]? = some (.cells #[.int .u64 (y : Int)] 23)) :
    Calls Try.prog 16 #[.slice A n c, .int .i64 i, .func (.func 19) #[] #[.pointer (some ⟨b, 0, none⟩)]] w (fun e w' => ∃ B m d, e = .returned (.tuple #[.slice B m d, .bool (decide (isC ws i))]) ∧ Ws w' B m d (if isC ws i then ws.set i.toNat ((ws.getD i.toNat 0 + y) % M64_) else []) ∧ w.grownBy w' none ∧ True) := by
  have hlen : ws.length = n := hx.len
  have RX := Lib.hid hx
  have LD := ceLoad0_any A n c ws i w hx
  unfold loadC at LD
  by_cases h1 : isC ws i
  · rw [decide_eq_true h1]
    simp only [if_pos h1] at LD ⊢
    obtain ⟨k, rfl⟩ : ∃ k : Nat, i = k := ⟨i.toNat, by have := h1.1; omega⟩
    have hk : k < n := by have := h1.2; omega
    simp only [Int.toNat_natCast] at LD ⊢
    obtain ⟨v, hv⟩ : ∃ v : Nat, ws.getD k 0 = v := ⟨_, rfl⟩
    have HV := Lib.hid (show (U64s ws)[k]? = some (.int .u64 ((v : Nat) : Int)) from by
      have hl : k < ws.length := by omega
      unfold U64s
      rw [List.getElem?_map, List.getElem?_eq_getElem hl, ← hv, List.getD_eq_getElem?_getD, List.getElem?_eq_getElem hl]
      rfl)
    simp only [hv] at LD ⊢
    clear hv
    obtain ⟨z, hz⟩ : ∃ z : Nat, (v + y) % M64_ = z := ⟨_, rfl⟩
    rw [hz]
    have HZ := Lib.hid hz
    clear hz
    have i0 : (0 : Int) ≤ (k : Int) := by omega
    have i1 : (k : Int) < (n : Int) := by omega
    replace LD := Lib.hid LD
    have HK := Lib.hid hk
    have VB := Lib.hid hb1
    clear hb1
    clear hx hlen h1 hk
    go_enter Try.func16, Try.ntmps16
    go_wp2_with fail
    refine LD.out.mono ?_
    rintro e w1 ⟨rfl, hb⟩
    have HB := Lib.hid hb
    have CLN := Lib.hid (clone14_any A n c ws w1 (Es.below RX.out hb) hn)
    clear hb LD
    go_wp2_with fail
    refine CLN.out.mono ?_
    rintro e w2 ⟨B, d, rfl, hown, hb⟩
    obtain ⟨g, rfl⟩ : ∃ g, B = some ⟨g, 0, none⟩ := by
      rcases hown.2 with ⟨h, _⟩ | ⟨g, cap, cur, h, _⟩
      · injection h with _ h; have := HK.out; omega
      · injection h with h; exact ⟨g, h⟩
    have OW := Lib.hid (own_base hown HB.out.size)
    replace HB := Lib.hid (HB.out.trans (hb.mono HB.out.size))
    clear hb hown CLN
    have RU := Lib.hid (rule3_any v y z b HZ.out w2 (blk_below VB.out HB.out (blk_lt VB.out)))
    go_wp2_with fail
    refine RU.out.mono ?_
    rintro e w3 ⟨rfl, h3⟩
    obtain rfl := h3.symm
    have GB := Lib.hid (gbel14 (r := none) HB.out)
    have hfz := OW.out.frozenAt k
    have hcl := (OW.out.cellAt k (by have := HK.out; omega)).trans HV.out
    go_wp2
    go_ret2
    have o1 := (OW.out.stored k (.int .u64 (((z) : Nat) : Int))).1
    have o2 : (U64s ws).set k (.int .u64 (((z) : Nat) : Int)) = U64s (ws.set k z) := by unfold U64s; rw [List.map_set]
    rw [o2] at o1
    have hge := (OW.out.lt g (by simp [Value.ownBlock])).1
    exact ⟨_, _, _, rfl, ws_own o1, gset14 GB.out (Or.inl hge) _ _, trivial⟩
  · rw [decide_eq_false h1]
    simp only [if_neg h1] at LD ⊢
    replace LD := Lib.hid LD
    clear hb1
    clear hx hlen h1
    go_enter Try.func16, Try.ntmps16
    go_wp2_with fail
    refine LD.out.mono ?_
    rintro e w1 ⟨rfl, hb⟩
    have HB := Lib.hid hb
    clear hb LD
    go_wp2
    go_ret2
    exact ⟨none, 0, 0, rfl, Es.nil _ _ _ _, gbel14 HB.out, trivial⟩
set_option maxRecDepth 100000 in
set_option maxHeartbeats 4000000 in
theorem changed2_any (A : Option Addr) (n c : Nat) (ws : List Nat) (i : Int) (old x b0 b1 b2 : Nat) (w : World) (hx : Ws w A n c ws) (hn : n ≤ 16384) (h0 : w.heap[b0]? = some (.cells #[.int .u64 (old : Int)] 23)) (h1_ : w.heap[b1]? = some (.cells #[.bool false] 4)) (h2 : w.heap[b2]? = some (.cells #[.int .u64 (x : Int)] 23)) (n1 : b0 ≠ b1) (n2 : b2 ≠ b1) :
    Calls Try.prog 16 #[.slice A n c, .int .i64 i, .func (.func 18) #[] #[.pointer (some ⟨b0, 0, none⟩), .pointer (some ⟨b1, 0, none⟩), .pointer (some ⟨b2, 0, none⟩)]] w (fun e w' => ∃ B m d, e = .returned (.tuple #[.slice B m d, .bool (decide (isC ws i))]) ∧ Ws w' B m d (if isC ws i then ws.set i.toNat (if ws.getD i.toNat 0 = old then x else ws.getD i.toNat 0) else []) ∧ w.grownBy w' (some b1) ∧ w'.heap[b1]? = some (.cells #[.bool (decide (isC ws i) && decide (ws.getD i.toNat 0 = old))] 4)) := by
  have hlen : ws.length = n := hx.len
  have RX := Lib.hid hx
  have LD := ceLoad0_any A n c ws i w hx
  unfold loadC at LD
  by_cases h1 : isC ws i
  · rw [decide_eq_true h1]
    simp only [if_pos h1] at LD ⊢
    obtain ⟨k, rfl⟩ : ∃ k : Nat, i = k := ⟨i.toNat, by have := h1.1; omega⟩
    have hk : k < n := by have := h1.2; omega
    simp only [Int.toNat_natCast] at LD ⊢
    obtain ⟨v, hv⟩ : ∃ v : Nat, ws.getD k 0 = v := ⟨_, rfl⟩
    have HV := Lib.hid (show (U64s ws)[k]? = some (.int .u64 ((v : Nat) : Int)) from by
      have hl : k < ws.length := by omega
      unfold U64s
      rw [List.getElem?_map, List.getElem?_eq_getElem hl, ← hv, List.getD_eq_getElem?_getD, List.getElem?_eq_getElem hl]
      rfl)
    simp only [hv] at LD ⊢
    clear hv
    have i0 : (0 : Int) ≤ (k : Int) := by omega
    have i1 : (k : Int) < (n : Int) := by omega
    replace LD := Lib.hid LD
    have HK := Lib.hid hk
    obtain ⟨r, hr⟩ : ∃ r : Nat, (if v = old then x else v) = r := ⟨_, rfl⟩
    rw [hr, Bool.true_and]
    have HR := Lib.hid hr
    have V0 := Lib.hid h0; have V1 := Lib.hid h1_; have V2 := Lib.hid h2; have N1 := Lib.hid n1; have N2 := Lib.hid n2
    clear h0 h1_ h2 n1 n2 hr
    clear hx hlen h1 hk
    go_enter Try.func16, Try.ntmps16
    go_wp2_with fail
    refine LD.out.mono ?_
    rintro e w1 ⟨rfl, hb⟩
    have HB := Lib.hid hb
    have CLN := Lib.hid (clone14_any A n c ws w1 (Es.below RX.out hb) hn)
    clear hb LD
    go_wp2_with fail
    refine CLN.out.mono ?_
    rintro e w2 ⟨B, d, rfl, hown, hb⟩
    obtain ⟨g, rfl⟩ : ∃ g, B = some ⟨g, 0, none⟩ := by
      rcases hown.2 with ⟨h, _⟩ | ⟨g, cap, cur, h, _⟩
      · injection h with _ h; have := HK.out; omega
      · injection h with h; exact ⟨g, h⟩
    have OW := Lib.hid (own_base hown HB.out.size)
    replace HB := Lib.hid (HB.out.trans (hb.mono HB.out.size))
    clear hb hown CLN
    have RU := rule2_any v old x b0 b1 b2 false w2 (blk_below V0.out HB.out (blk_lt V0.out)) (blk_below V1.out HB.out (blk_lt V1.out)) (blk_below V2.out HB.out (blk_lt V2.out)) N1.out N2.out
    rw [HR.out] at RU
    replace RU := Lib.hid RU
    go_wp2_with fail
    refine RU.out.mono ?_
    rintro e w3 ⟨rfl, h3⟩
    have VW := Lib.hid (show w3.heap[b1]? = some (.cells #[.bool (decide (v = old))] 4) from by
      rw [h3]
      exact blk_set (j := 0) (cs := [.bool false]) (blk_below V1.out HB.out (blk_lt V1.out)) _)
    have GB := Lib.hid (show w.grownBy w3 (some b1) from by rw [h3]; exact gset14 (gbel14 HB.out) (Or.inr rfl) _ _)
    have hge0 := (OW.out.lt g (by simp [Value.ownBlock])).1
    have hl1 := blk_lt V1.out
    replace OW := Lib.hid (own_grown OW.out (show w2.grownBy w3 (some b1) from by rw [h3]; exact gset14 (World.grownBy.refl _ _) (Or.inr rfl) _ _) (fun k hk => by injection hk with hk; omega))
    have HNE := Lib.hid (show b1 ≠ g by omega)
    clear h3 hge0 hl1
    have hfz := OW.out.frozenAt k
    have hcl := (OW.out.cellAt k (by have := HK.out; omega)).trans HV.out
    go_wp2
    go_ret2
    have o1 := (OW.out.stored k (.int .u64 (((r) : Nat) : Int))).1
    have o2 : (U64s ws).set k (.int .u64 (((r) : Nat) : Int)) = U64s (ws.set k r) := by unfold U64s; rw [List.map_set]
    rw [o2] at o1
    have hge := (OW.out.lt g (by simp [Value.ownBlock])).1
    exact ⟨_, _, _, rfl, ws_own o1, gset14 GB.out (Or.inl hge) _ _, by rw [Below.heap_setCell _ _ _ _ HNE.out]; exact VW.out⟩
  · rw [decide_eq_false h1]
    simp only [if_neg h1] at LD ⊢
    replace LD := Lib.hid LD
    rw [Bool.false_and]
    have V1 := Lib.hid h1_
    clear h0 h1_ h2 n1 n2
    clear hx hlen h1
    go_enter Try.func16, Try.ntmps16
    go_wp2_with fail
    refine LD.out.mono ?_
    rintro e w1 ⟨rfl, hb⟩
    have HB := Lib.hid hb
    clear hb LD
    go_wp2
    go_ret2
    exact ⟨none, 0, 0, rfl, Es.nil _ _ _ _, gbel14 HB.out, blk_below V1.out HB.out (blk_lt V1.out)⟩
end Go.Proofs.Ytmgkmeppnhdhnaa
