/- The walk of CellAnswers: it answers true, over any world; no condition. -/
import Derived.Test.YtmgkmeppnhdhnaaCelS
namespace Go.Proofs.Ytmgkmeppnhdhnaa
set_option linter.unusedVariables false
set_option linter.unusedSimpArgs false
open Go.RowKit
set_option maxRecDepth 100000 in
set_option maxHeartbeats 8000000 in
theorem answers14_walk (A : Option Addr) (n c : Nat) (ws : List Nat) (i : Int) (x y : Nat) (w : World) (hx : Ws w A n c ws) (hm : ∀ v ∈ ws, v < 18446744073709551616) (x1 : x < 18446744073709551616) (y1 : y < 18446744073709551616) :
    Calls Try.prog 3 #[.slice A n c, .int .i64 i, .agg #[.int .u64 (x : Int), .int .u64 (y : Int)]] w fun e w' => e = .returned (.bool true) ∧ Below w.heap.size w w' := by
  have RX := Lib.hid hx
  have hlen := hx.len
  clear hx
  have HB := Lib.hid (And.intro (Below.refl w.heap.size w) (Nat.le_refl w.heap.size))
  have gq := HB.out.2
  obtain ⟨w1, hw1⟩ : ∃ W, (w.alloc (.cells #[.int .u64 (x : Int), .int .u64 (y : Int)] 24)) = W := ⟨_, rfl⟩
  have hb : Below w.heap.size w w1 := hw1 ▸ ((Below.refl _ _).alloc (Nat.le_refl _) _)
  have hv0 : w1.heap[w.heap.size]? = some (.cells #[.int .u64 (x : Int), .int .u64 (y : Int)] 24) := by
    have h0 := heap_alloc_new w (.cells #[.int .u64 (x : Int), .int .u64 (y : Int)] 24)
    rw [show w.heap.size = w.heap.size by simp [Nat.add_assoc]] at h0
    rw [← hw1]
    exact h0
  replace RX := Lib.hid (Es.below RX.out hb)
  replace HB := Lib.hid (And.intro (HB.out.1.trans (hb.mono HB.out.2)) (Nat.le_trans HB.out.2 hb.size))
  have Vt := Lib.hid hv0
  have get := gq
  generalize hst : w.heap.size = st at *
  clear hb gq hv0
  subst hst
  by_cases hn : (100 : Int) < (n : Int)
  · have b0 : decide ((100 : Int) < (n : Int)) = true := decide_eq_true hn
    have b0n : decide (100 < n) = true := by simp; omega
    clear hn
    go_enter Try.func3, Try.ntmps3
    go_wp2_with fail
    refine (alive14 _).mono ?_
    rintro e w2 ⟨rfl, hb⟩
    replace Vt := Lib.hid (blk_below Vt.out hb (blk_lt Vt.out))
    replace RX := Lib.hid (Es.below RX.out hb)
    replace HB := Lib.hid (And.intro (HB.out.1.trans (hb.mono HB.out.2)) (Nat.le_trans HB.out.2 hb.size))
    clear hb
    go_wp2
    go_ret
    exact ⟨rfl, HB.out.1⟩
  · have b0 : decide ((100 : Int) < (n : Int)) = false := decide_eq_false hn
    have b0n : decide (100 < n) = false := by simp; omega
    have hn1 : n ≤ 16384 := by omega
    clear hn
    obtain ⟨⟨lv, lb⟩, hL⟩ : ∃ P, loadC ws i = P := ⟨_, rfl⟩
    obtain ⟨⟨sl, sb⟩, hS_⟩ : ∃ P, storeC ws i x = P := ⟨_, rfl⟩
    obtain ⟨⟨wl, wb, wc⟩, hW⟩ : ∃ P, swapC ws i x y = P := ⟨_, rfl⟩
    obtain ⟨⟨ml, mv, mb⟩, hM⟩ : ∃ P, moreC ws i y = P := ⟨_, rfl⟩
    have ll1 : sl.length ≤ n := by have h := congrArg (fun p => p.1.length) hS_; simp only at h; rw [← h]; unfold storeC; split; simp; omega; simp
    have ll2 : wl.length ≤ n := by have h := congrArg (fun p => p.1.length) hW; simp only at h; rw [← h]; unfold swapC; split; split; simp; omega; simp; omega; simp
    have ll3 : ml.length ≤ n := by have h := congrArg (fun p => p.1.length) hM; simp only at h; rw [← h]; unfold moreC; split; simp; omega; simp
    have c1 := Lib.hid (show ∀ (B : Option Addr) (d : Nat) (W : World), Ws W B n d ws → Calls Try.prog 6 #[.slice B n d, .int .i64 i] W (LdP W (lv, lb)) from fun B d W h => by have h9 := ceLoad_any B n d ws i W h hn1 hm; rw [hL] at h9; exact h9)
    have c2 := Lib.hid (show ∀ (B : Option Addr) (d : Nat) (W : World), Ws W B n d ws → Calls Try.prog 7 #[.slice B n d, .int .i64 i] W (LdP W (lv, lb)) from fun B d W h => by have h9 := refLoad14_any B n d ws i W h; rw [hL] at h9; exact h9)
    have c3 := Lib.hid (show ∀ (B : Option Addr) (d : Nat) (W : World), Ws W B n d ws → Calls Try.prog 8 #[.slice B n d, .int .i64 i, .int .u64 (x : Int)] W (StP W (sl, sb)) from fun B d W h => by have h9 := ceStore_any B n d ws i W h hn1 hm x x1; rw [hS_] at h9; exact h9)
    have c4 := Lib.hid (show ∀ (B : Option Addr) (d : Nat) (W : World), Ws W B n d ws → Calls Try.prog 9 #[.slice B n d, .int .i64 i, .int .u64 (x : Int)] W (StP W (sl, sb)) from fun B d W h => by have h9 := refStore14_any B n d ws i x W h hn1; rw [hS_] at h9; exact h9)
    have c5 := Lib.hid (show ∀ (B : Option Addr) (d : Nat) (W : World), Ws W B n d ws → Calls Try.prog 10 #[.slice B n d, .int .i64 i, .int .u64 (x : Int), .int .u64 (y : Int)] W (SwP W (wl, wb, wc)) from fun B d W h => by have h9 := ceSwap_any B n d ws i W h hn1 hm x y x1 y1; rw [hW] at h9; exact h9)
    have c6 := Lib.hid (show ∀ (B : Option Addr) (d : Nat) (W : World), Ws W B n d ws → Calls Try.prog 11 #[.slice B n d, .int .i64 i, .int .u64 (x : Int), .int .u64 (y : Int)] W (SwP W (wl, wb, wc)) from fun B d W h => by have h9 := refSwap14_any B n d ws i x y W h hn1; rw [hW] at h9; exact h9)
    have c7 := Lib.hid (show ∀ (B : Option Addr) (d : Nat) (W : World), Ws W B n d ws → Calls Try.prog 12 #[.slice B n d, .int .i64 i, .int .u64 (y : Int)] W (MoP W (ml, mv, mb)) from fun B d W h => by have h9 := ceMore_any B n d ws i W h hn1 hm y y1; rw [hM] at h9; exact h9)
    have c8 := Lib.hid (show ∀ (B : Option Addr) (d : Nat) (W : World), Ws W B n d ws → Calls Try.prog 13 #[.slice B n d, .int .i64 i, .int .u64 (y : Int)] W (MoP W (ml, mv, mb)) from fun B d W h => by have h9 := refMore14_any B n d ws i y W h hn1; rw [hM] at h9; exact h9)
    have c9 := Lib.hid (show ∀ (l : List Nat) (B D : Option Addr) (m d p e : Nat) (W : World), l.length ≤ n → Ws W B m d l → Ws W D p e l → Calls Try.prog 14 #[.slice B m d, .slice D p e] W (YesW W true) from fun l B D m d p e W hl h1 h2 => by have h9 := refWords14_any B m d l D p e l W h1 h2 (by have := h1.len; omega); rw [decide_eq_true rfl] at h9; exact h9)
    obtain ⟨sm, hsm⟩ : ∃ b, decide (ws = sl) = b := ⟨_, rfl⟩
    have c10 := Lib.hid (show ∀ (B D : Option Addr) (d p e : Nat) (W : World), Ws W B n d ws → Ws W D p e sl → Calls Try.prog 15 #[.slice B n d, .slice D p e] W (YesW W sm) from fun B D d p e W h1 h2 => hsm ▸ ceSame_any B n d ws W h1 hn1 hm D p e sl h2 (by have := h2.len; omega))
    have c11 := Lib.hid (show ∀ (B D : Option Addr) (d p e : Nat) (W : World), Ws W B n d ws → Ws W D p e sl → Calls Try.prog 14 #[.slice B n d, .slice D p e] W (YesW W sm) from fun B D d p e W h1 h2 => hsm ▸ refWords14_any B n d ws D p e sl W h1 h2 hn1)
    have q1 : (lv == lv) = true := by simp
    have q1i : ((lv : Int) == (lv : Int)) = true := by simp
    have q2 : (lb == lb) = true := by simp
    have q3 : (sb == sb) = true := by simp
    have q4 : (wb == wb) = true := by simp
    have q5 : (wc == wc) = true := by simp
    have q6 : ((mv : Int) == (mv : Int)) = true := by simp
    have q7 : (mb == mb) = true := by simp
    have q8 : (sm == sm) = true := by simp
    have hwl : ws.length ≤ n := by omega
    clear hL hS_ hW hM hsm hm
    go_enter Try.func3, Try.ntmps3
    go_wp2_with fail
    refine (alive14 _).mono ?_
    rintro e w2 ⟨rfl, hb⟩
    replace Vt := Lib.hid (blk_below Vt.out hb (blk_lt Vt.out))
    replace RX := Lib.hid (Es.below RX.out hb)
    replace HB := Lib.hid (And.intro (HB.out.1.trans (hb.mono HB.out.2)) (Nat.le_trans HB.out.2 hb.size))
    clear hb
    obtain ⟨A3, c3_, w3, hap, hown, hgr⟩ := app_ws (w2.alloc (.cells #[] 23)) w2.heap.size _ 0 [] (lit_ws w2 (Nat.le_refl _)) A n c ws (Es.alloc RX.out _) (by omega) (by simp)
    rw [Nat.zero_add] at hap hown
    rw [List.nil_append] at hown
    have hb3 : Below w2.heap.size w2 w3 := ((Below.refl _ _).alloc (Nat.le_refl _) _).grown hgr (by simp) (by simp [Value.ownBlock])
    replace Vt := Lib.hid (blk_below Vt.out hb3 (blk_lt Vt.out))
    replace RX := Lib.hid (Es.below RX.out hb3)
    replace HB := Lib.hid (And.intro (HB.out.1.trans (hb3.mono HB.out.2)) (Nat.le_trans HB.out.2 hb3.size))
    have RO := Lib.hid (ws_own hown)
    clear hown hgr hb3
    have ct0 : w3.cell? ⟨w.heap.size, 0, none⟩ = some (.int .u64 (x : Int)) := (blk_cell Vt.out 0).trans rfl
    have ct1 : w3.cell? ⟨w.heap.size, 1, none⟩ = some (.int .u64 (y : Int)) := (blk_cell Vt.out 1).trans rfl
    go_wp2_with (at_builtin; refine eapp_run (by rfl) rfl rfl rfl hap ?_)
    skip
    refine (c1.out _ _ _ RO.out).mono ?_
    rintro e w3 ⟨rfl, hb⟩
    clear ct0 ct1
    replace Vt := Lib.hid (blk_below Vt.out hb (blk_lt Vt.out))
    replace RX := Lib.hid (Es.below RX.out hb)
    replace RO := Lib.hid (Es.below RO.out hb)
    replace HB := Lib.hid (And.intro (HB.out.1.trans (hb.mono HB.out.2)) (Nat.le_trans HB.out.2 hb.size))
    clear hb
    have ct0 : w3.cell? ⟨w.heap.size, 0, none⟩ = some (.int .u64 (x : Int)) := (blk_cell Vt.out 0).trans rfl
    have ct1 : w3.cell? ⟨w.heap.size, 1, none⟩ = some (.int .u64 (y : Int)) := (blk_cell Vt.out 1).trans rfl
    go_wp2_with fail
    refine (c2.out _ _ _ RX.out).mono ?_
    rintro e w4 ⟨rfl, hb⟩
    clear ct0 ct1
    replace Vt := Lib.hid (blk_below Vt.out hb (blk_lt Vt.out))
    replace RX := Lib.hid (Es.below RX.out hb)
    replace RO := Lib.hid (Es.below RO.out hb)
    replace HB := Lib.hid (And.intro (HB.out.1.trans (hb.mono HB.out.2)) (Nat.le_trans HB.out.2 hb.size))
    clear hb
    have ct0 : w4.cell? ⟨w.heap.size, 0, none⟩ = some (.int .u64 (x : Int)) := (blk_cell Vt.out 0).trans rfl
    have ct1 : w4.cell? ⟨w.heap.size, 1, none⟩ = some (.int .u64 (y : Int)) := (blk_cell Vt.out 1).trans rfl
    go_wp2_with fail
    refine (c3.out _ _ _ RO.out).mono ?_
    rintro e w5 ⟨B3, m3, d3, rfl, hw, hb⟩
    clear ct0 ct1
    replace Vt := Lib.hid (blk_below Vt.out hb (blk_lt Vt.out))
    replace RX := Lib.hid (Es.below RX.out hb)
    replace RO := Lib.hid (Es.below RO.out hb)
    replace HB := Lib.hid (And.intro (HB.out.1.trans (hb.mono HB.out.2)) (Nat.le_trans HB.out.2 hb.size))
    clear hb
    have H3 := Lib.hid hw
    clear hw
    have ct0 : w5.cell? ⟨w.heap.size, 0, none⟩ = some (.int .u64 (x : Int)) := (blk_cell Vt.out 0).trans rfl
    have ct1 : w5.cell? ⟨w.heap.size, 1, none⟩ = some (.int .u64 (y : Int)) := (blk_cell Vt.out 1).trans rfl
    go_wp2_with fail
    refine (c4.out _ _ _ RX.out).mono ?_
    rintro e w6 ⟨B4, m4, d4, rfl, hw, hb⟩
    clear ct0 ct1
    replace Vt := Lib.hid (blk_below Vt.out hb (blk_lt Vt.out))
    replace RX := Lib.hid (Es.below RX.out hb)
    replace RO := Lib.hid (Es.below RO.out hb)
    replace H3 := Lib.hid (Es.below H3.out hb)
    replace HB := Lib.hid (And.intro (HB.out.1.trans (hb.mono HB.out.2)) (Nat.le_trans HB.out.2 hb.size))
    clear hb
    have H4 := Lib.hid hw
    clear hw
    have ct0 : w6.cell? ⟨w.heap.size, 0, none⟩ = some (.int .u64 (x : Int)) := (blk_cell Vt.out 0).trans rfl
    have ct1 : w6.cell? ⟨w.heap.size, 1, none⟩ = some (.int .u64 (y : Int)) := (blk_cell Vt.out 1).trans rfl
    go_wp2_with fail
    refine (c5.out _ _ _ RO.out).mono ?_
    rintro e w7 ⟨B5, m5, d5, rfl, hw, hb⟩
    clear ct0 ct1
    replace Vt := Lib.hid (blk_below Vt.out hb (blk_lt Vt.out))
    replace RX := Lib.hid (Es.below RX.out hb)
    replace RO := Lib.hid (Es.below RO.out hb)
    replace H3 := Lib.hid (Es.below H3.out hb)
    replace H4 := Lib.hid (Es.below H4.out hb)
    replace HB := Lib.hid (And.intro (HB.out.1.trans (hb.mono HB.out.2)) (Nat.le_trans HB.out.2 hb.size))
    clear hb
    have H5 := Lib.hid hw
    clear hw
    have ct0 : w7.cell? ⟨w.heap.size, 0, none⟩ = some (.int .u64 (x : Int)) := (blk_cell Vt.out 0).trans rfl
    have ct1 : w7.cell? ⟨w.heap.size, 1, none⟩ = some (.int .u64 (y : Int)) := (blk_cell Vt.out 1).trans rfl
    go_wp2_with fail
    refine (c6.out _ _ _ RX.out).mono ?_
    rintro e w8 ⟨B6, m6, d6, rfl, hw, hb⟩
    clear ct0 ct1
    replace Vt := Lib.hid (blk_below Vt.out hb (blk_lt Vt.out))
    replace RX := Lib.hid (Es.below RX.out hb)
    replace RO := Lib.hid (Es.below RO.out hb)
    replace H3 := Lib.hid (Es.below H3.out hb)
    replace H4 := Lib.hid (Es.below H4.out hb)
    replace H5 := Lib.hid (Es.below H5.out hb)
    replace HB := Lib.hid (And.intro (HB.out.1.trans (hb.mono HB.out.2)) (Nat.le_trans HB.out.2 hb.size))
    clear hb
    have H6 := Lib.hid hw
    clear hw
    have ct0 : w8.cell? ⟨w.heap.size, 0, none⟩ = some (.int .u64 (x : Int)) := (blk_cell Vt.out 0).trans rfl
    have ct1 : w8.cell? ⟨w.heap.size, 1, none⟩ = some (.int .u64 (y : Int)) := (blk_cell Vt.out 1).trans rfl
    go_wp2_with fail
    refine (c7.out _ _ _ RO.out).mono ?_
    rintro e w9 ⟨B7, m7, d7, rfl, hw, hb⟩
    clear ct0 ct1
    replace Vt := Lib.hid (blk_below Vt.out hb (blk_lt Vt.out))
    replace RX := Lib.hid (Es.below RX.out hb)
    replace RO := Lib.hid (Es.below RO.out hb)
    replace H3 := Lib.hid (Es.below H3.out hb)
    replace H4 := Lib.hid (Es.below H4.out hb)
    replace H5 := Lib.hid (Es.below H5.out hb)
    replace H6 := Lib.hid (Es.below H6.out hb)
    replace HB := Lib.hid (And.intro (HB.out.1.trans (hb.mono HB.out.2)) (Nat.le_trans HB.out.2 hb.size))
    clear hb
    have H7 := Lib.hid hw
    clear hw
    have ct0 : w9.cell? ⟨w.heap.size, 0, none⟩ = some (.int .u64 (x : Int)) := (blk_cell Vt.out 0).trans rfl
    have ct1 : w9.cell? ⟨w.heap.size, 1, none⟩ = some (.int .u64 (y : Int)) := (blk_cell Vt.out 1).trans rfl
    go_wp2_with fail
    refine (c8.out _ _ _ RX.out).mono ?_
    rintro e w10 ⟨B8, m8, d8, rfl, hw, hb⟩
    clear ct0 ct1
    replace Vt := Lib.hid (blk_below Vt.out hb (blk_lt Vt.out))
    replace RX := Lib.hid (Es.below RX.out hb)
    replace RO := Lib.hid (Es.below RO.out hb)
    replace H3 := Lib.hid (Es.below H3.out hb)
    replace H4 := Lib.hid (Es.below H4.out hb)
    replace H5 := Lib.hid (Es.below H5.out hb)
    replace H6 := Lib.hid (Es.below H6.out hb)
    replace H7 := Lib.hid (Es.below H7.out hb)
    replace HB := Lib.hid (And.intro (HB.out.1.trans (hb.mono HB.out.2)) (Nat.le_trans HB.out.2 hb.size))
    clear hb
    have H8 := Lib.hid hw
    clear hw
    go_wp2_with fail
    refine (c9.out _ _ _ _ _ _ _ _ ll1 H3.out H4.out).mono ?_
    rintro e w11 ⟨rfl, hb⟩
    replace Vt := Lib.hid (blk_below Vt.out hb (blk_lt Vt.out))
    replace RX := Lib.hid (Es.below RX.out hb)
    replace RO := Lib.hid (Es.below RO.out hb)
    replace H3 := Lib.hid (Es.below H3.out hb)
    replace H4 := Lib.hid (Es.below H4.out hb)
    replace H5 := Lib.hid (Es.below H5.out hb)
    replace H6 := Lib.hid (Es.below H6.out hb)
    replace H7 := Lib.hid (Es.below H7.out hb)
    replace H8 := Lib.hid (Es.below H8.out hb)
    replace HB := Lib.hid (And.intro (HB.out.1.trans (hb.mono HB.out.2)) (Nat.le_trans HB.out.2 hb.size))
    clear hb
    go_wp2_with fail
    refine (c9.out _ _ _ _ _ _ _ _ ll2 H5.out H6.out).mono ?_
    rintro e w12 ⟨rfl, hb⟩
    replace Vt := Lib.hid (blk_below Vt.out hb (blk_lt Vt.out))
    replace RX := Lib.hid (Es.below RX.out hb)
    replace RO := Lib.hid (Es.below RO.out hb)
    replace H3 := Lib.hid (Es.below H3.out hb)
    replace H4 := Lib.hid (Es.below H4.out hb)
    replace H5 := Lib.hid (Es.below H5.out hb)
    replace H6 := Lib.hid (Es.below H6.out hb)
    replace H7 := Lib.hid (Es.below H7.out hb)
    replace H8 := Lib.hid (Es.below H8.out hb)
    replace HB := Lib.hid (And.intro (HB.out.1.trans (hb.mono HB.out.2)) (Nat.le_trans HB.out.2 hb.size))
    clear hb
    go_wp2_with fail
    refine (c9.out _ _ _ _ _ _ _ _ ll3 H7.out H8.out).mono ?_
    rintro e w13 ⟨rfl, hb⟩
    replace Vt := Lib.hid (blk_below Vt.out hb (blk_lt Vt.out))
    replace RX := Lib.hid (Es.below RX.out hb)
    replace RO := Lib.hid (Es.below RO.out hb)
    replace H3 := Lib.hid (Es.below H3.out hb)
    replace H4 := Lib.hid (Es.below H4.out hb)
    replace H5 := Lib.hid (Es.below H5.out hb)
    replace H6 := Lib.hid (Es.below H6.out hb)
    replace H7 := Lib.hid (Es.below H7.out hb)
    replace H8 := Lib.hid (Es.below H8.out hb)
    replace HB := Lib.hid (And.intro (HB.out.1.trans (hb.mono HB.out.2)) (Nat.le_trans HB.out.2 hb.size))
    clear hb
    go_wp2_with fail
    refine (c9.out _ _ _ _ _ _ _ _ hwl RO.out RX.out).mono ?_
    rintro e w14 ⟨rfl, hb⟩
    replace Vt := Lib.hid (blk_below Vt.out hb (blk_lt Vt.out))
    replace RX := Lib.hid (Es.below RX.out hb)
    replace RO := Lib.hid (Es.below RO.out hb)
    replace H3 := Lib.hid (Es.below H3.out hb)
    replace H4 := Lib.hid (Es.below H4.out hb)
    replace H5 := Lib.hid (Es.below H5.out hb)
    replace H6 := Lib.hid (Es.below H6.out hb)
    replace H7 := Lib.hid (Es.below H7.out hb)
    replace H8 := Lib.hid (Es.below H8.out hb)
    replace HB := Lib.hid (And.intro (HB.out.1.trans (hb.mono HB.out.2)) (Nat.le_trans HB.out.2 hb.size))
    clear hb
    go_wp2_with fail
    refine (c10.out _ _ _ _ _ _ RX.out H3.out).mono ?_
    rintro e w15 ⟨rfl, hb⟩
    replace Vt := Lib.hid (blk_below Vt.out hb (blk_lt Vt.out))
    replace RX := Lib.hid (Es.below RX.out hb)
    replace RO := Lib.hid (Es.below RO.out hb)
    replace H3 := Lib.hid (Es.below H3.out hb)
    replace H4 := Lib.hid (Es.below H4.out hb)
    replace H5 := Lib.hid (Es.below H5.out hb)
    replace H6 := Lib.hid (Es.below H6.out hb)
    replace H7 := Lib.hid (Es.below H7.out hb)
    replace H8 := Lib.hid (Es.below H8.out hb)
    replace HB := Lib.hid (And.intro (HB.out.1.trans (hb.mono HB.out.2)) (Nat.le_trans HB.out.2 hb.size))
    clear hb
    go_wp2_with fail
    refine (c11.out _ _ _ _ _ _ RX.out H3.out).mono ?_
    rintro e w16 ⟨rfl, hb⟩
    replace Vt := Lib.hid (blk_below Vt.out hb (blk_lt Vt.out))
    replace RX := Lib.hid (Es.below RX.out hb)
    replace RO := Lib.hid (Es.below RO.out hb)
    replace H3 := Lib.hid (Es.below H3.out hb)
    replace H4 := Lib.hid (Es.below H4.out hb)
    replace H5 := Lib.hid (Es.below H5.out hb)
    replace H6 := Lib.hid (Es.below H6.out hb)
    replace H7 := Lib.hid (Es.below H7.out hb)
    replace H8 := Lib.hid (Es.below H8.out hb)
    replace HB := Lib.hid (And.intro (HB.out.1.trans (hb.mono HB.out.2)) (Nat.le_trans HB.out.2 hb.size))
    clear hb
    go_wp2
    go_ret
    exact ⟨rfl, HB.out.1⟩
end Go.Proofs.Ytmgkmeppnhdhnaa
