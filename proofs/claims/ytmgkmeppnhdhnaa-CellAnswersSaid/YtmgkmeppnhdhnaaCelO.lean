/- What the landed cell's own Load, Store, Swap, More and Same answer; for lists of up to 16384. -/
import Derived.Test.YtmgkmeppnhdhnaaCelC
import Derived.Deep.RegionHeld3
namespace Go.Proofs.Ytmgkmeppnhdhnaa
set_option linter.unusedVariables false
set_option linter.unusedSimpArgs false
open Go.RowKit
theorem ceLoad_any (A : Option Addr) (n c : Nat) (ws : List Nat) (i : Int) (w : World) (hx : Ws w A n c ws) (hn : n ≤ 16384) (hm : ∀ v ∈ ws, v < 18446744073709551616) : Calls Try.prog 6 #[.slice A n c, .int .i64 i] w (LdP w (loadC ws i)) := ceLoad0_any A n c ws i w hx
theorem ceSame_any (A : Option Addr) (n c : Nat) (ws : List Nat) (w : World) (hx : Ws w A n c ws) (hn : n ≤ 16384) (hm : ∀ v ∈ ws, v < 18446744073709551616) (B : Option Addr) (m d : Nat) (ys : List Nat) (hy : Ws w B m d ys) (hm2 : m ≤ 16384) : Calls Try.prog 15 #[.slice A n c, .slice B m d] w (YesW w (decide (ws = ys))) := by
  have EQ := Lib.hid (equal14_any A n c ws B m d ys w hx hy hn)
  clear hx hy
  go_enter Try.func15, Try.ntmps15
  go_wp2_with fail
  refine EQ.out.mono ?_
  rintro e w1 ⟨rfl, hb⟩
  have HB := Lib.hid hb
  clear hb
  go_wp2
  go_ret
  exact ⟨rfl, HB.out⟩
set_option maxRecDepth 100000 in
set_option maxHeartbeats 4000000 in
theorem ceStore_any (A : Option Addr) (n c : Nat) (ws : List Nat) (i : Int) (w : World) (hx : Ws w A n c ws) (hn : n ≤ 16384) (hm : ∀ v ∈ ws, v < 18446744073709551616) (x : Nat) (h1 : x < 18446744073709551616) : Calls Try.prog 8 #[.slice A n c, .int .i64 i, .int .u64 (x : Int)] w (StP w (storeC ws i x)) := by
  have hmf : ∀ (fn : Fn) (first cap : Array Value) (w : World), (Instr.makeFunc fn first cap).run Try.prog w = .ok (.func fn first cap) w := fun _ _ _ _ => rfl
  obtain ⟨W1, hW1⟩ : ∃ W, w.alloc (.cells #[.int .u64 (x : Int)] 23) = W := ⟨_, rfl⟩
  have hb1 : W1.heap[w.heap.size]? = some (.cells #[.int .u64 (x : Int)] 23) := by rw [← hW1]; exact heap_alloc_new _ _
  have B1 := Lib.hid (show Below w.heap.size w W1 from by rw [← hW1]; exact (Below.refl _ _).alloc (Nat.le_refl _) _)
  have CH := Lib.hid (changed1_any A n c ws i x w.heap.size W1 (by rw [← hW1]; exact Es.alloc hx _) hn hb1)
  obtain ⟨q, hq⟩ : ∃ q, w.heap.size = q := ⟨_, rfl⟩
  rw [hq] at CH
  obtain ⟨L, hL⟩ : ∃ L, (if isC ws i then ws.set i.toNat x else []) = L := ⟨_, rfl⟩
  obtain ⟨y, hy⟩ : ∃ y, decide (isC ws i) = y := ⟨_, rfl⟩
  obtain ⟨R, hR⟩ : ∃ R, storeC ws i x = R := ⟨_, rfl⟩
  rw [hR]
  rw [hL, hy] at CH
  have HE := Lib.hid (show R = (L, y) from by rw [← hR, ← hL, ← hy]; unfold storeC; by_cases h : isC ws i <;> simp [h])
  clear hx hm hb1 hR hL hy
  go_enter Try.func8, Try.ntmps8
  go_wp2_with fail
  refine CH.out.mono ?_
  rintro e w1 ⟨B, m, d, rfl, hw, hg, _⟩
  have HW := Lib.hid hw
  have HB := Lib.hid (B1.out.grown hg B1.out.size (by simp))
  clear hw hg CH
  go_wp2
  go_ret2
  rw [HE.out]
  exact ⟨_, _, _, rfl, HW.out, HB.out⟩
set_option maxRecDepth 100000 in
set_option maxHeartbeats 4000000 in
theorem ceMore_any (A : Option Addr) (n c : Nat) (ws : List Nat) (i : Int) (w : World) (hx : Ws w A n c ws) (hn : n ≤ 16384) (hm : ∀ v ∈ ws, v < 18446744073709551616) (y : Nat) (h1 : y < 18446744073709551616) : Calls Try.prog 12 #[.slice A n c, .int .i64 i, .int .u64 (y : Int)] w (MoP w (moreC ws i y)) := by
  have hmf : ∀ (fn : Fn) (first cap : Array Value) (w : World), (Instr.makeFunc fn first cap).run Try.prog w = .ok (.func fn first cap) w := fun _ _ _ _ => rfl
  obtain ⟨W1, hW1⟩ : ∃ W, w.alloc (.cells #[.int .u64 (y : Int)] 23) = W := ⟨_, rfl⟩
  have hb1 : W1.heap[w.heap.size]? = some (.cells #[.int .u64 (y : Int)] 23) := by rw [← hW1]; exact heap_alloc_new _ _
  have B1 := Lib.hid (show Below w.heap.size w W1 from by rw [← hW1]; exact (Below.refl _ _).alloc (Nat.le_refl _) _)
  have CH := Lib.hid (changed3_any A n c ws i y w.heap.size W1 (by rw [← hW1]; exact Es.alloc hx _) hn hb1)
  have LDS := Lib.hid (fun (B : Option Addr) (m d : Nat) (xs : List Nat) (W : World) (h : Ws W B m d xs) => ceLoad0_any B m d xs i W h)
  obtain ⟨q, hq⟩ : ∃ q, w.heap.size = q := ⟨_, rfl⟩
  rw [hq] at CH
  obtain ⟨L, hL⟩ : ∃ L, (if isC ws i then ws.set i.toNat ((ws.getD i.toNat 0 + y) % M64_) else []) = L := ⟨_, rfl⟩
  obtain ⟨R, hR⟩ : ∃ R, moreC ws i y = R := ⟨_, rfl⟩
  rw [hR]
  rw [hL] at CH
  obtain ⟨z, hz⟩ : ∃ z, (loadC L i).1 = z := ⟨_, rfl⟩
  obtain ⟨y2, hy2⟩ : ∃ y2, decide (isC ws i) = y2 := ⟨_, rfl⟩
  rw [hy2] at CH
  have HE := Lib.hid (show R = (L, z, y2) from by
    rw [← hR, ← hz, ← hy2]; unfold moreC; rw [← hL]
    by_cases h : isC ws i
    · have h2 : isC (ws.set i.toNat ((ws.getD i.toNat 0 + y) % M64_)) i := by unfold isC at h ⊢; rw [List.length_set]; exact h
      have h3 : i.toNat < ws.length := by unfold isC at h; omega
      rw [if_pos h, if_pos h, decide_eq_true h]; unfold loadC; rw [if_pos h2]
      simp only [Prod.mk.injEq, and_true, true_and]
      rw [List.getD_eq_getElem?_getD (l := ws.set _ _), List.getElem?_set_self h3]; rfl
    · rw [if_neg h, if_neg h, decide_eq_false h]; unfold loadC; rw [if_neg (by unfold isC; simp)])
  clear hx hm hb1 hR hL hy2
  go_enter Try.func12, Try.ntmps12
  go_wp2_with fail
  refine CH.out.mono ?_
  rintro e w1 ⟨B, m, d, rfl, hw, hg, _⟩
  have HW := Lib.hid hw
  have HB := Lib.hid (B1.out.grown hg B1.out.size (by simp))
  have LD2 := Lib.hid (LDS.out B m d L w1 hw)
  clear hw hg CH
  go_wp2_with fail
  refine LD2.out.mono ?_
  rintro e w2 ⟨rfl, hb⟩
  rw [hz]
  generalize (loadC L i).snd = z2
  replace HW := Lib.hid (Es.below HW.out hb)
  replace HB := Lib.hid (HB.out.trans (hb.mono HB.out.size))
  clear hb hz LD2
  go_wp2
  go_ret3
  rw [HE.out]
  exact ⟨_, _, _, rfl, HW.out, HB.out⟩
theorem res_scs14 {P : Program} {fn : Func} {tmps : Array Value} {a b c : Nat} {t : TypeId} {ad : Addr} {v : Value} {w : World} (h : fn.results = #[.tmp a, .cell b t, .tmp c]) (hp : tmps.getD b undef = .pointer (some ad))
    (hl : (loadVar t ad).run P w = .ok v w) : (results fn tmps).run P w = .ok (.tuple #[tmps.getD a undef, v, tmps.getD c undef]) w := by
  unfold results
  rw [h]
  have hp2 : tmps[b]?.getD undef = .pointer (some ad) := by simpa using hp
  simp only [List.mapM_toArray, List.mapM_cons, List.mapM_nil]
  simp [Sem.run_bind, hp2]
  rw [show (Sem.run P (asAddr (Value.pointer (some ad))) w) = Result.ok ad w from rfl]
  simp [hl]
theorem set_same14 {w : World} {b : Nat} {v : Value} {T : TypeId} (h : w.heap[b]? = some (.cells #[v] T)) : w.setCell ⟨b, 0, none⟩ v = w := by
  have e : (w.setCell ⟨b, 0, none⟩ v).heap = w.heap := by
    apply Array.ext_getElem?
    intro i
    by_cases hi : i = b
    · subst hi
      rw [h]
      exact blk_set (j := 0) (cs := [v]) h v
    · exact Below.heap_setCell _ _ _ _ (fun e => hi e)
  calc w.setCell ⟨b, 0, none⟩ v = { w with heap := (w.setCell ⟨b, 0, none⟩ v).heap } := rfl
    _ = w := by rw [e]
theorem load14 {w : World} {b : Nat} {x : Bool} (hc : w.cell? ⟨b, 0, none⟩ = some (.bool x)) : (loadVar 4 ⟨b, 0, none⟩).run Try.prog w = .ok (.bool x) w := by
  simp [go_sem, hc]
set_option maxRecDepth 100000 in
set_option maxHeartbeats 4000000 in
theorem ceSwap_any (A : Option Addr) (n c : Nat) (ws : List Nat) (i : Int) (w : World) (hx : Ws w A n c ws) (hn : n ≤ 16384) (hm : ∀ v ∈ ws, v < 18446744073709551616) (old x : Nat) (h0 : old < 18446744073709551616) (h1 : x < 18446744073709551616) : Calls Try.prog 10 #[.slice A n c, .int .i64 i, .int .u64 (old : Int), .int .u64 (x : Int)] w (SwP w (swapC ws i old x)) := by
  have hmf : ∀ (fn : Fn) (first cap : Array Value) (w : World), (Instr.makeFunc fn first cap).run Try.prog w = .ok (.func fn first cap) w := fun _ _ _ _ => rfl
  obtain ⟨v1, hv1⟩ : ∃ W, w.alloc (.cells #[.int .u64 (old : Int)] 23) = W := ⟨_, rfl⟩
  have fr1 : Fr w v1 w.heap.size [.cells #[.int .u64 (old : Int)] 23] := hv1 ▸ Fr.first w _
  have z1 : v1.heap.size = w.heap.size + 1 := by rw [← hv1, Fr.size1]
  obtain ⟨v2, hv2⟩ : ∃ W, v1.alloc (.cells #[.int .u64 (x : Int)] 23) = W := ⟨_, rfl⟩
  have fr2 : Fr w v2 w.heap.size [.cells #[.int .u64 (old : Int)] 23, .cells #[.int .u64 (x : Int)] 23] := hv2 ▸ fr1.more z1 _
  have z2 : v2.heap.size = w.heap.size + 2 := by rw [← hv2, Fr.size1, z1]
  obtain ⟨v3, hv3⟩ : ∃ W, v2.alloc (.cells #[.bool false] 4) = W := ⟨_, rfl⟩
  have fr3 : Fr w v3 w.heap.size [.cells #[.int .u64 (old : Int)] 23, .cells #[.int .u64 (x : Int)] 23, .cells #[.bool false] 4] := hv3 ▸ fr2.more z2 _
  generalize hq : w.heap.size = q at *
  have k0 := fr3.blk 0 _ rfl
  have k1 := fr3.blk 1 _ rfl
  have k2 := fr3.blk 2 _ rfl
  rw [Nat.add_zero] at k0
  have HB0 := Lib.hid fr3.bel
  have CH := Lib.hid (changed2_any A n c ws i old x q (q + 2) (q + 1) v3 (fr3.es hx) hn k0 k2 k1 (by omega) (by omega))
  have HQ := Lib.hid hq
  obtain ⟨R, hR⟩ : ∃ R, swapC ws i old x = R := ⟨_, rfl⟩
  rw [hR]
  obtain ⟨L, hL⟩ : ∃ L, (if isC ws i then ws.set i.toNat (if ws.getD i.toNat 0 = old then x else ws.getD i.toNat 0) else []) = L := ⟨_, rfl⟩
  rw [hL] at CH
  obtain ⟨y, hy⟩ : ∃ y, (decide (isC ws i) && decide (ws.getD i.toNat 0 = old)) = y := ⟨_, rfl⟩
  obtain ⟨y2, hy2⟩ : ∃ y2, decide (isC ws i) = y2 := ⟨_, rfl⟩
  rw [hy, hy2] at CH
  have HE := Lib.hid (show R = (L, y, y2) from by
    rw [← hR, ← hy, ← hy2]; unfold swapC; rw [← hL]
    by_cases h : isC ws i
    · rw [if_pos h, if_pos h, decide_eq_true h, Bool.true_and]
      have h3 : i.toNat < ws.length := by unfold isC at h; omega
      by_cases h2 : ws.getD i.toNat 0 = old
      · rw [if_pos h2, if_pos h2, decide_eq_true h2]
      · rw [if_neg h2, if_neg h2, decide_eq_false h2]
        rw [List.getD_eq_getElem?_getD, List.getElem?_eq_getElem h3]
        simp
    · rw [if_neg h, if_neg h, decide_eq_false h, Bool.false_and])
  clear hx hm hR hL hy hy2 fr1 fr2 fr3 k0 k1 k2
  go_enter Try.func10, Try.ntmps10
  go_wp2_with fail
  refine CH.out.mono ?_
  rintro e w1 ⟨B, m, d, rfl, hw, hg, hk⟩
  have HK := Lib.hid hk
  have HW := Lib.hid hw
  have HB := Lib.hid ((show Below w.heap.size w v3 from by rw [HQ.out]; exact HB0.out).grown hg (show _ ≤ v3.heap.size from (show Below w.heap.size w v3 from by rw [HQ.out]; exact HB0.out).size) (fun k hk => by injection hk with hk; have := HQ.out; omega))
  have cb := blk_cell hk 0
  simp only [List.getElem?_toArray, List.getElem?_cons_zero] at cb
  have cf := blk_frozen hk 0
  clear hw hg CH hk hv1 hv2 hv3 z1 z2 HB0
  go_wp2
  go_region
  go_wp2
  rw [set_same14 HK.out]
  refine bodyPost_ret (res_scs14 Try.results10 (by rfl) (load14 (w := w1.drew) cb)) rfl ?_
  rw [HE.out]
  exact ⟨B, m, d, rfl, HW.out.drew, HB.out.drew⟩
end Go.Proofs.Ytmgkmeppnhdhnaa
