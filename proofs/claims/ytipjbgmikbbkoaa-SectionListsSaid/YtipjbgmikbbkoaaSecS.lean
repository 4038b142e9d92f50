/- The fixed fact 'alive' of layer 4 is true, and writes nothing that was there; no condition. -/
import Derived.Test.YtipjbgmikbbkoaaSecR
import Derived.Lib.SlBytesConst
namespace Go.Proofs.Ytipjbgmikbbkoaa
set_option linter.unusedVariables false
set_option linter.unusedSimpArgs false
open Go.RowKit

/-- a constant text, as bytes. -/
theorem lit_bytes (W : World) (C : Array Value) (q : Nat) (hq : C.size = q) : (convert 22 22 (.slice (some ⟨W.heap.size, 0, none⟩) q q)).run Try.prog (W.alloc (.cells C 5)) =
    .ok (.slice (some ⟨W.heap.size, 0, none⟩) q q) (W.alloc (.cells C 5 (q, q + 1))) := by
  have h := Lib.run_convert_bytes_const (P := Try.prog) W 22 5 C q q Try.underlying22 Try.underlying5
  rw [hq] at h
  exact h
/-- an append in a region that draws its order. -/
theorem op_app_run {P : Program} {w w' : World} {o : Oper} {a : Act} {K : Act → World → Prop} {Q : Exit → Act → World → Prop} {c : Prop} [Decidable c] (hc : c) {s x : Operand} {t : TypeId}
    (ho : o.op = .call { callee := .builtin .append, args := #[s, x], argTypes := #[t, t] }) {v u v' : Value} (hs : a.eval s = v) (hx : a.eval x = u)
    (hr : (Builtin.append_ #[t, t] o.type #[v, u]).run P w = .ok v' w') (h : K (a.put o.dst v') w') : if c then Oper.wp P o a w K Q else K (a.put o.dst undef) w := by
  rw [if_pos hc]
  unfold Oper.wp execOp
  simp only [ho, resolve, invoke, builtin, Sem.run_bind, Sem.run_pure, Result.andThen_ok, List.map_toArray, List.map_cons, List.map_nil, hs, hx, hr]
  exact h
theorem Ss.new_ {w : World} {B : Option Addr} {m d : Nat} {body : List Int} (hb : Bs w B m d body) (t : Int) (ht : 0 ≤ t ∧ t ≤ 255) : Ss (w.alloc (.cells #[.int .u8 t, .slice B m d] 24)) (some ⟨w.heap.size, 0, none⟩) 1 1 [(t, body)] :=
  ⟨rfl, Nat.le_refl _, by simpa using ht, fun _ => ⟨w.heap.size, 0, rfl, by simp, fun i hi => by
    obtain rfl : i = 0 := by omega
    have h := heap_alloc_new w (.cells #[.int .u8 t, .slice B m d] 24)
    exact ⟨B, m, d, (by have := pair0 h; rw [Nat.zero_mul, Nat.add_zero]; exact this), (by have := pair1 h; rw [Nat.zero_mul]; exact this), hb.alloc _⟩⟩⟩
theorem gen_cut (t : Int) (body D : List Int) (ht : t ≠ 0) (hl : body.length ≤ 65535) (hD : D.length < 4) (a : List Int) :
    secS (a ++ (t :: (vb body.length ++ body) ++ D) ++ []) a.length = ((0, []), 0, 2) := by
  refine secS_short (r := (0, 0, 2)) (gen_tag a [] body D t ht) rfl (gen_body a [] body D t hl) rfl ?_ (by decide)
  refine takeS_err (by omega) ?_ (by decide)
  unfold cutS
  rw [if_neg (by simp only [List.length_append, List.length_nil]; omega), if_pos (by simp only [List.length_append, List.length_nil]; omega)]
/-- the section of 'alive', its bytes, and what is read of them. -/
def aS : Int × List Int := (7, [103, 111])
theorem aS_app : appS [120] aS = ([120] ++ secB aS, 0) := by simp [appS, wrS, aS]
theorem aS_bytes : ∃ D, D.length = 4 ∧ secB aS = [7, 2, 103, 111] ++ D := by
  refine ⟨digs (sumS (headS aS) : Nat) 4, digs_len _ _, ?_⟩
  rw [secB_def]; simp [headS, aS, vb_small]
theorem aS_len : (secB aS).length = 8 := by
  obtain ⟨D, h1, h2⟩ := aS_bytes
  rw [h2, List.length_append, h1]; rfl
theorem aS_read : secS ([120] ++ secB aS) 1 = (aS, 9, 0) := by
  have h := secS_back [120] [] aS (by decide) (by decide)
  rw [List.append_nil, List.length_append, aS_len] at h
  exact h
theorem aS_all : allS [aS] = (secB aS, 0) := by
  unfold allS
  rw [allA, if_neg (by decide), if_neg (by decide)]; rfl
theorem aS_list : listS (secB aS) = ([aS], 0) := list_all _ _ aS_all
theorem aS_byte : ∀ b ∈ secB aS, 0 ≤ b ∧ b ≤ 255 := secB_byte (s := aS) (by decide) (by decide)
theorem aS_twice : listS (secB aS ++ secB aS) = ([], 3) := by
  have h1 := secS_back [] (secB aS) aS (by decide) (by decide)
  have h2 := secS_back (secB aS) [] aS (by decide) (by decide)
  simp only [List.nil_append, List.append_nil, List.length_nil] at h1 h2
  have hl : (secB aS ++ secB aS).length = 16 := by rw [List.length_append, aS_len]
  unfold listS
  rw [hl, listA_next (k' := 8) (by rw [hl]; omega) (by rw [aS_len] at h1; exact h1) (by decide)]
  exact listA_form (k' := 16) (by rw [hl]; omega) (by rw [aS_len, hl] at h2; exact h2) (by decide)
theorem aS_short : secS (([120] ++ secB aS).take 8) 1 = ((0, []), 0, 2) := by
  obtain ⟨D, h1, h2⟩ := aS_bytes
  have h := gen_cut 7 [103, 111] (D.take 3) (by decide) (by decide) (by rw [List.length_take]; omega) [120]
  have e : ([120] ++ secB aS).take 8 = [120] ++ (7 :: (vb ([103, 111] : List Int).length ++ [103, 111]) ++ D.take 3) ++ [] := by
    rw [h2]
    simp [vb_small]
  rw [e]; exact h
theorem aS_zero : allS [((0 : Int), ([] : List Int))] = ([], 3) := by decide
theorem aS_find : findS [aS] 7 = ([103, 111], true) := by decide
theorem aS_tot : tot [aS] ≤ 8192 := by decide

set_option maxHeartbeats 4000000 in
set_option maxRecDepth 100000 in
theorem secAlive_any (w : World) : Calls Try.prog 8 #[] w fun e w' => e = .returned (.bool true) ∧ Below w.heap.size w w' := by
  obtain ⟨D, hD, hB⟩ := aS_bytes
  have hAP := aS_app; have hlen := aS_len; have hRd := aS_read; have hLs := aS_list; have hL2 := aS_twice; have hSh := aS_short; have hAl := aS_all; have hby := aS_byte
  obtain ⟨B, hBB⟩ : ∃ B, secB aS = B := ⟨_, rfl⟩
  rw [hBB] at hB hAP hlen hRd hLs hL2 hSh hAl hby
  have HAP := Lib.hid hAP; have HLen := Lib.hid hlen; have HRd := Lib.hid hRd; have HLs := Lib.hid hLs; have HL2 := Lib.hid hL2; have HSh := Lib.hid hSh; have HAl := Lib.hid hAl; have HBy := Lib.hid hby; have HBv := Lib.hid hB; have HD := Lib.hid hD
  clear hAP hlen hRd hLs hL2 hSh hAl hby hB hD hBB
  have L1 := lit_bytes w #[.int .u8 120] 1 rfl
  have L2 := lit_bytes (w.alloc (.cells #[.int .u8 120] 5 (1, 2))) #[.int .u8 103, .int .u8 111] 2 rfl
  have e1 : (w.alloc (.cells #[.int .u8 120] 5 (1, 2))).heap.size = w.heap.size + 1 := by simp
  rw [e1] at L2
  have hx := Bs.newf w 5 (1, 2) [120] (by simp) (q := 1) rfl
  have hg := Bs.newf (w.alloc (.cells #[.int .u8 120] 5 (1, 2))) 5 (2, 3) [103, 111] (by simp) (q := 2) rfl
  rw [e1] at hg
  have hx2 := hx.alloc (.cells #[.int .u8 103, .int .u8 111] 5 (2, 3))
  have hw0 : Below w.heap.size w ((w.alloc (.cells #[.int .u8 120] 5 (1, 2))).alloc (.cells #[.int .u8 103, .int .u8 111] 5 (2, 3))) := ((Below.refl _ _).alloc (Nat.le_refl _) _).alloc (by simp) _
  have HX := Lib.hid hx2; have HG := Lib.hid hg; have HW0 := Lib.hid hw0
  clear hx hg hx2 hw0 e1
  go_enter Try.func8, Try.ntmps8
  go_wp2_with fail
  have P1 := append_any _ _ _ _ 7 _ _ _ _ _ HX.out HG.out (by omega) (by omega) (by omega) (by omega)
  rw [show ((7 : Int), ([103, 111] : List Int)) = aS from rfl, HAP.out] at P1
  refine P1.mono ?_; rintro e w1 ⟨A1, n1, c1, rfl, hb1, hw1⟩
  obtain rfl : n1 = 9 := by have := hb1.len; rw [List.length_append, HLen.out] at this; exact this.symm
  have W1 := Lib.hid (HW0.out.trans (hw1.mono (by simp; omega))); have B1 := Lib.hid hb1
  clear hw1 L1 L2 P1
  have P2 := secRead_any _ _ _ _ 1 _ hb1 (by omega)
  rw [HRd.out, show aS = ((7 : Int), ([103, 111] : List Int)) from rfl] at P2
  clear hb1
  go_wp2_with fail
  refine P2.mono ?_; rintro e w2 ⟨A2, n2, c2, rfl, hb2, _, hw2⟩
  obtain rfl : n2 = 2 := by have := hb2.len; simpa using this.symm
  clear P2
  have hs3 := heap_alloc_new w2 (.cells #[.int .u8 7, .slice A2 2 c2] 24)
  have hw3 : Below w2.heap.size w2 (w2.alloc (.cells #[.int .u8 7, .slice A2 2 c2] 24)) := hd0 w2
  have HS3 := Lib.hid hs3; have W3 := Lib.hid ((W1.out.trans (hw2.mono W1.out.size)).alloc (Nat.le_trans W1.out.size hw2.size) (.cells #[.int .u8 7, .slice A2 2 c2] 24))
  have B3 := Lib.hid ((B1.out.below hw2).below hw3); have S3 := Lib.hid (hb2.below hw3)
  have hsz3 : (w2.alloc (.cells #[.int .u8 7, .slice A2 2 c2] 24)).heap.size = w2.heap.size + 1 := by simp
  obtain ⟨A3, c3, hsl, hb3⟩ := B3.out.slicel 22 undBytes sizeByte (1 : Int) 1 rfl (by omega)
  have hdr : ([120] ++ B).drop 1 = B := rfl
  rw [hdr] at hb3
  replace hsl : ∀ W : World, (Instr.slice 22 (.slice A1 9 c1) (some (.int .i64 1)) none none).run Try.prog W = .ok (.slice A3 8 c3) W := hsl
  replace hb3 : Bs _ A3 8 c3 B := hb3
  have P3 := secList_any A3 8 c3 B _ hb3 (by omega)
  rw [HLs.out] at P3
  have C3 := Lib.hid hb3
  clear hb2 hw2 hs3 hw3 hb3 hdr
  go_wp2_with fail
  generalize w2.heap.size = sb at *
  generalize w2.alloc (.cells #[.int .u8 7, .slice A2 2 c2] 24) = w3 at *
  refine P3.mono ?_; rintro e w4 ⟨A4, n4, c4, rfl, hss4, hw4⟩
  obtain rfl : n4 = 1 := hss4.len.symm
  clear P3
  have W4 := Lib.hid (W3.out.trans (hw4.mono W3.out.size)); have HS4 := Lib.hid ((hw4.block sb (heap_lt HS3.out)).trans HS3.out)
  have B4 := Lib.hid (B3.out.below hw4); have S4 := Lib.hid (S3.out.below hw4); have C4 := Lib.hid (C3.out.below hw4); have SS4 := Lib.hid hss4
  clear hss4 hw4 hsz3
  go_wp2_with fail
  obtain ⟨i5, hi5, hz0, hz1, hz2⟩ := info_parts infoByte
  obtain ⟨A5, c5, w5, hap5, hown5, hb5, hw5⟩ := app_lit0 (P := Try.prog) w4.drew 22 22 5 i5 _ Try.underlying22 hi5 hz0 hz1 hz2 rfl A3 8 c3 B C4.out.drew (by omega)
  obtain ⟨v6, w6, hap6, hown6, hgr6, hbase6⟩ := app_own (P := Try.prog) w5 w4.drew.heap.size 22 22 5 i5 _ Try.underlying22 hi5 hz0 hz1 hz2 rfl _ 8 B hown5 A3 8 c3 B (C4.out.drew.below hw5) (by omega) hw5.size
  have hw6 : Below w4.heap.size w4 w6 := ((Below.refl _ _).drew.trans hw5).grown hgr6 hw5.size (fun k hk => (hown5.lt k hk).1)
  obtain ⟨A6, c6, rfl, hb6⟩ := Bs.of_own hown6 (by
    intro b hbm
    rcases List.mem_append.1 hbm with h | h <;> exact HBy.out b h)
  have P6 := secList_any A6 (8 + 8) c6 _ w6 hb6 (by omega)
  rw [HL2.out] at P6
  have W6 := Lib.hid hw6; have HP6 := Lib.hid P6; have HA5 := Lib.hid hap5; have HA6 := Lib.hid hap6
  clear hap5 hap6 hown5 hb5 hw5 hown6 hgr6 hbase6 hw6 hb6 P6 hi5 hz0 hz1 hz2
  refine wp_region_noPanic ?_
  refine wp_region_held_drew (S := fun _ => True) (by kernel_rfl) trivial (fun hS => ?_)
  refine wpAnyH_take (i := 1) (oi := ⟨some 45, .move (.tmp 1), 22, "law.go:19", #[], none⟩) (v := ?_) rfl (by kernel_rfl) (by kernel_rfl) (by kernel_rfl) (fun _ _ _ h => h) (Or.inl ⟨by rfl, ?_⟩) hS ?_
  rotate_left
  · intro wv _; go_simp; try with_reducible rfl
  try simp only [Act.put, List.setIfInBounds_toArray, List.set_cons_zero, List.set_cons_succ]
  refine wpAnyH_take (i := 2) (oi := ⟨some 46, .slice 22 (.tmp 45) (some (.const (Value.int IntKind.i64 1))) none none, 22, "law.go:19", #[⟨1, .data⟩], none⟩) (v := ?_) rfl (by kernel_rfl) (by kernel_rfl) (by kernel_rfl) (fun _ _ _ h => h) (Or.inl ⟨by rfl, ?_⟩) hS ?_
  rotate_left
  · intro wv _; go_simp; try with_reducible rfl
  try simp only [Act.put, List.setIfInBounds_toArray, List.set_cons_zero, List.set_cons_succ]
  refine wpAnyH_take (i := 4) (oi := ⟨some 48, .move (.tmp 1), 22, "law.go:19", #[], none⟩) (v := ?_) rfl (by kernel_rfl) (by kernel_rfl) (by kernel_rfl) (fun _ _ _ h => h) (Or.inl ⟨by rfl, ?_⟩) hS ?_
  rotate_left
  · intro wv _; go_simp; try with_reducible rfl
  try simp only [Act.put, List.setIfInBounds_toArray, List.set_cons_zero, List.set_cons_succ]
  refine wpAnyH_take (i := 5) (oi := ⟨some 49, .slice 22 (.tmp 48) (some (.const (Value.int IntKind.i64 1))) none none, 22, "law.go:19", #[⟨4, .data⟩], none⟩) (v := ?_) rfl (by kernel_rfl) (by kernel_rfl) (by kernel_rfl) (fun _ _ _ h => h) (Or.inl ⟨by rfl, ?_⟩) hS ?_
  rotate_left
  · intro wv _; go_simp; try with_reducible rfl
  try simp only [Act.put, List.setIfInBounds_toArray, List.set_cons_zero, List.set_cons_succ]
  refine wpAnyH_ready (rs := [0]) (by kernel_rfl) (by simp) (AllReadyH.cons (o := ⟨some 44, .buildSlice 22 0 #[], 22, "law.go:19", #[], none⟩) rfl (fun K hK => ?_) AllReadyH.nil)
  go_simp
  refine Shut.out hK _ _ (by first | exact hS | trivial) (fun _ => ?_)
  clear hK K
  try simp only [Act.put, List.setIfInBounds_toArray, List.set_cons_zero, List.set_cons_succ]
  refine wpAnyH_ready (rs := [3]) (by kernel_rfl) (by simp) (AllReadyH.cons (o := ⟨some 47, .call { callee := .builtin .append, args := #[.tmp 44, .tmp 46], argTypes := #[22, 22] }, 22, "law.go:19", #[⟨0, .data⟩, ⟨2, .data⟩], none⟩) rfl (fun K hK => ?_) AllReadyH.nil)
  refine op_app_run (by rfl) rfl rfl rfl HA5.out ?_
  refine Shut.out hK _ _ (by first | exact hS | trivial) (fun _ => ?_)
  clear hK K
  try simp only [Act.put, List.setIfInBounds_toArray, List.set_cons_zero, List.set_cons_succ]
  refine wpAnyH_ready (rs := [6]) (by kernel_rfl) (by simp) (AllReadyH.cons (o := ⟨some 50, .call { callee := .builtin .append, args := #[.tmp 47, .tmp 49], argTypes := #[22, 22] }, 22, "law.go:19", #[⟨3, .data⟩, ⟨5, .data⟩, ⟨3, .chain⟩], none⟩) rfl (fun K hK => ?_) AllReadyH.nil)
  refine op_app_run (by rfl) rfl rfl rfl HA6.out ?_
  refine Shut.out hK _ _ (by first | exact hS | trivial) (fun _ => ?_)
  clear hK K
  try simp only [Act.put, List.setIfInBounds_toArray, List.set_cons_zero, List.set_cons_succ]
  refine wpAnyH_ready (rs := [7]) (by kernel_rfl) (by simp) (AllReadyH.cons (o := ⟨some 51, .call { callee := .value (.func 13), args := #[.tmp 50], argTypes := #[22] }, 33, "law.go:19", #[⟨6, .data⟩, ⟨6, .chain⟩], none⟩) rfl (fun K hK => ?_) AllReadyH.nil)
  go_simp
  refine HP6.out.mono ?_; rintro e w7 ⟨A7, n7, c7, rfl, hss7, hw7⟩
  have hw47 := W6.out.trans (hw7.mono W6.out.size)
  have W7 := Lib.hid (W4.out.trans (hw47.mono W4.out.size)); have HS7 := Lib.hid ((hw47.block sb (heap_lt HS4.out)).trans HS4.out)
  have B7 := Lib.hid (B4.out.below hw47); have S7 := Lib.hid (S4.out.below hw47); have C7 := Lib.hid (C4.out.below hw47); have SS7 := Lib.hid (SS4.out.below hw47)
  clear hss7 hw7 hw47
  go_wp2_with fail
  refine Shut.out hK _ _ (by first | exact hS | trivial) (fun _ => ?_)
  clear hK K
  try simp only [Act.put, List.setIfInBounds_toArray, List.set_cons_zero, List.set_cons_succ]
  refine wpAnyH_take (i := 8) (oi := ⟨some 43, .move (.tmp 51), 33, "law.go:19", #[⟨7, .data⟩], none⟩) (v := ?_) rfl (by kernel_rfl) (by kernel_rfl) (by kernel_rfl) (fun _ _ _ h => h) (Or.inl ⟨by rfl, ?_⟩) hS ?_
  rotate_left
  · intro wv _; go_simp; try with_reducible rfl
  try simp only [Act.put, List.setIfInBounds_toArray, List.set_cons_zero, List.set_cons_succ]
  refine wpAnyH_take (i := 9) (oi := ⟨some 52, .extract (.tmp 43) 0, 32, "law.go:19", #[⟨8, .data⟩], none⟩) (v := ?_) rfl (by kernel_rfl) (by kernel_rfl) (by kernel_rfl) (fun _ _ _ h => h) (Or.inl ⟨by rfl, ?_⟩) hS ?_
  rotate_left
  · intro wv _; go_simp; try with_reducible rfl
  try simp only [Act.put, List.setIfInBounds_toArray, List.set_cons_zero, List.set_cons_succ]
  refine wpAnyH_take (i := 10) (oi := ⟨some 53, .extract (.tmp 43) 1, 26, "law.go:19", #[⟨8, .data⟩, ⟨11, .gcOnly .lateStores⟩], none⟩) (v := ?_) rfl (by kernel_rfl) (by kernel_rfl) (by kernel_rfl) (fun _ _ _ h => h) (Or.inl ⟨by rfl, ?_⟩) hS ?_
  rotate_left
  · intro wv _; go_simp; try with_reducible rfl
  try simp only [Act.put, List.setIfInBounds_toArray, List.set_cons_zero, List.set_cons_succ]
  refine wpAnyH_take (i := 11) (oi := ⟨some 8, .assign (.tmp 52), 32, "law.go:19", #[⟨9, .data⟩, ⟨7, .chain⟩, ⟨0, .phase⟩, ⟨1, .phase⟩, ⟨2, .phase⟩, ⟨3, .phase⟩, ⟨4, .phase⟩, ⟨5, .phase⟩, ⟨6, .phase⟩, ⟨7, .phase⟩, ⟨8, .phase⟩, ⟨9, .phase⟩, ⟨10, .textOnly .lateStores⟩], none⟩) (v := ?_) rfl (by kernel_rfl) (by kernel_rfl) (by kernel_rfl) (fun _ _ _ h => h) (Or.inl ⟨by rfl, ?_⟩) hS ?_
  rotate_left
  · intro wv _; go_simp; try with_reducible rfl
  try simp only [Act.put, List.setIfInBounds_toArray, List.set_cons_zero, List.set_cons_succ]
  refine wpAnyH_take (i := 12) (oi := ⟨some 9, .assign (.tmp 53), 26, "law.go:19", #[⟨10, .data⟩, ⟨11, .chain⟩, ⟨0, .phase⟩, ⟨1, .phase⟩, ⟨2, .phase⟩, ⟨3, .phase⟩, ⟨4, .phase⟩, ⟨5, .phase⟩, ⟨6, .phase⟩, ⟨7, .phase⟩, ⟨8, .phase⟩, ⟨9, .phase⟩, ⟨10, .phase⟩, ⟨11, .phase⟩], none⟩) (v := ?_) rfl (by kernel_rfl) (by kernel_rfl) (by kernel_rfl) (fun _ _ _ h => h) (Or.inl ⟨by rfl, ?_⟩) hS ?_
  rotate_left
  · intro wv _; go_simp; try with_reducible rfl
  try simp only [Act.put, List.setIfInBounds_toArray, List.set_cons_zero, List.set_cons_succ]
  refine wpAnyH_done (by kernel_rfl) ?_ _
  refine NoPanic.normal ?_
  have hw8 := hd0 w7 (o := .cells #[.int .u8 0, .slice none 0 0] 24)
  have P8 := secAll_any _ 1 1 [((0 : Int), ([] : List Int))] _ (Ss.new_ (Bs.nil w7 none 0) 0 (by decide)) (by omega) (by decide)
  rw [aS_zero] at P8
  have W8 := Lib.hid hw8; have HP8 := Lib.hid P8
  clear hw8 P8
  go_wp2_with fail
  refine HP8.out.mono ?_; rintro e w8 ⟨A8, n8, c8, rfl, hb8, hw8⟩
  have hw78 := W8.out.trans (hw8.mono (by simp))
  have V8 := Lib.hid (W7.out.trans (hw78.mono W7.out.size)); have HS8 := Lib.hid ((hw78.block sb (heap_lt HS7.out)).trans HS7.out)
  have B8 := Lib.hid (B7.out.below hw78); have S8 := Lib.hid (S7.out.below hw78); have C8 := Lib.hid (C7.out.below hw78); have SS8 := Lib.hid (SS7.out.below hw78)
  clear hb8 hw8 hw78 W8 HP8
  obtain ⟨A9, c9, hsl9, hb9⟩ := B8.out.sliceh 22 undBytes sizeByte (8 : Int) 8 rfl (by omega)
  have P9 := secRead_any A9 8 c9 _ 1 w8 hb9 (by omega)
  rw [HSh.out] at P9
  have HP9 := Lib.hid P9
  clear P9 hb9
  go_wp2_with fail
  refine HP9.out.mono ?_; rintro e w9 ⟨A10, n10, c10, rfl, hb10, _, hw9⟩
  have hw9' := hw9.trans ((hd0 w9 (o := .cells #[.int .u8 0, .slice A10 n10 c10] 24)).mono hw9.size)
  have V9 := Lib.hid (V8.out.trans (hw9'.mono V8.out.size)); have HS9 := Lib.hid ((hw9'.block sb (heap_lt HS8.out)).trans HS8.out)
  have B9 := Lib.hid (B8.out.below hw9'); have S9 := Lib.hid (S8.out.below hw9'); have C9 := Lib.hid (C8.out.below hw9'); have SS9 := Lib.hid (SS8.out.below hw9')
  clear hb10 hw9 hw9' hsl9 HP9
  have P10 := find_any A4 1 c4 [aS] 7 _ SS9.out (by omega) aS_tot
  rw [aS_find] at P10
  have HP10 := Lib.hid P10
  clear P10
  go_wp2_with fail
  refine HP10.out.mono ?_; rintro e w10 ⟨A11, n11, c11, rfl, hb11, hw10⟩
  have V10 := Lib.hid (V9.out.trans (hw10.mono V9.out.size)); have hs10 := ((hw10.block sb (heap_lt HS9.out)).trans HS9.out)
  have B10 := Lib.hid (B9.out.below hw10); have S10 := Lib.hid (S9.out.below hw10); have C10 := Lib.hid (C9.out.below hw10); have F10 := Lib.hid hb11
  have k0 := pair0 hs10; have k1 := pair1 hs10
  have HS10 := Lib.hid hs10
  clear hb11 hw10 HP10 hs10
  have hw11 := hd0 w10 (o := .cells #[.int .u8 7, .slice A2 2 c2] 24)
  have P11 := secAll_any _ 1 1 [((7 : Int), ([103, 111] : List Int))] _ (Ss.new_ S10.out 7 (by decide)) (by omega) (by decide)
  rw [show ((7 : Int), ([103, 111] : List Int)) = aS from rfl, HAl.out] at P11
  have W11 := Lib.hid hw11; have HP11 := Lib.hid P11
  clear hw11 P11
  go_wp2_with fail
  refine HP11.out.mono ?_; rintro e w12 ⟨A12, n12, c12, rfl, hb12, hw12⟩
  have hw1012 := W11.out.trans (hw12.mono (by simp))
  have V12 := Lib.hid (V10.out.trans (hw1012.mono V10.out.size)); have hs12 := ((hw1012.block sb (heap_lt HS10.out)).trans HS10.out)
  have B12 := B10.out.below hw1012; have S12 := S10.out.below hw1012; have C12 := C10.out.below hw1012; have F12 := F10.out.below hw1012
  have m0 := pair0 hs12; have m1 := pair1 hs12
  have x1 := fun k => (S12.drewN k).text
  have x2 := fun k => (F12.drewN k).text
  have x3 := fun k => (hb12.drewN k).text
  have x4 := fun k => (C12.drewN k).text
  have t1 : strOfNums [103, 111] = ⟨#[103, 111]⟩ := rfl
  simp only [t1] at x1 x2
  rw [HBv.out] at B12
  obtain ⟨bb, off, e12, hbl, hcl⟩ := B12.mem (by omega)
  subst e12
  have y1 : w12.cell? ⟨bb, off + 1, none⟩ = some (.int .u8 7) := hcl 1 (by omega)
  have y2 : w12.cell? ⟨bb, off + 2, none⟩ = some (.int .u8 2) := hcl 2 (by omega)
  clear hs12 B12 S12 C12 F12 hb12 hw12 hw1012 hbl hcl k0 k1 t1
  go_wp2
  go_quiet (fail)
  go_wp2
  go_ret
  exact ⟨rfl, ⟨V12.out.os, V12.out.tape, V12.out.output, V12.out.size, V12.out.block⟩⟩
end Go.Proofs.Ytipjbgmikbbkoaa
