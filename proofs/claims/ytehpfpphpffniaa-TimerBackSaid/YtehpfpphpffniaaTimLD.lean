/- What slices.Clone and the landed timer's own copied, with and without answer; for lists of up to 16384. -/
import Derived.Test.YtehpfpphpffniaaTimLC
import Derived.Test.YtehpfpphpffniaaTimG
namespace Go.Proofs.Ytehpfpphpffniaa
set_option linter.unusedVariables false
set_option linter.unusedSimpArgs false
open Go.RowKit
theorem szHp (W : World) : (sizeOf (Try.prog.elem 44)).run Try.prog W = .ok 2 W := by kernel_rfl
theorem unHp : Try.prog.underlying 44 = some (.slice (Try.prog.elem 44)) := by kernel_rfl
/-- timers of the call's own, as many. -/
def RowT (w : World) (n : Nat) (ws : List Tm) (e : Ending) (w' : World) : Prop :=
  ∃ B d, e = .returned (.slice B n d) ∧ w'.ownsRow w.heap.size 24 2 (.slice B n d) n (tmC ws) ∧ Below w.heap.size w w'
set_option maxHeartbeats 1000000 in
theorem clone12_any (A : Option Addr) (n c : Nat) (ws : List Tm) (w : World) (hx : Tms w A n c ws) (hn : n ≤ 16384) :
    Calls Try.prog 37 #[.slice A n c] w (RowT w n ws) := by
  cases A with
  | none =>
    have h0 : n = 0 := by
      rcases Nat.eq_zero_or_pos n with h0 | h0
      · exact h0
      · obtain ⟨b, off, e, _⟩ := Es.mem hx (by omega); cases e
    subst h0
    obtain rfl : ws = [] := List.eq_nil_of_length_eq_zero hx.len
    have hq : ∀ W : World, (binOp .eql 22 (.slice none 0 c) (.slice none 0 0)).run Try.prog W = .ok (.bool true) W := fun _ => by kernel_rfl
    go_enter Try.func37, Try.ntmps37
    go_wp2
    go_ret
    exact ⟨none, 0, rfl, World.ownsRow_nil _ _ _ _, Below.refl _ _⟩
  | some ad =>
    obtain ⟨i5, hi5, hz0, hz1, hz2⟩ := info_of infoTm
    have hown0 : (w.alloc (.cells #[] 24)).ownsRow w.heap.size 24 2 (.slice (some ⟨w.heap.size, 0, none⟩) 0 0) 0 [] := World.ownsRow_lit w #[] 0 (Nat.le_refl _) (by unfold maxLen; omega) (by simp)
    obtain ⟨v, w3, hap, hown, hgr, hvk⟩ := eapp_own (P := Try.prog) (w.alloc (.cells #[] 24)) w.heap.size 22 22 24 i5 _ 2 16 Try.underlying22 hi5 hz0 hz1 hz2 rfl (by decide) _ 0 _ hown0 (some ad) n c _ (Es.alloc hx _) (by unfold maxLen; omega) (by omega) (by simp)
    rw [Nat.zero_add, List.nil_append] at hown
    have hb3 : Below w.heap.size w w3 := ((Below.refl _ _).alloc (Nat.le_refl _) _).grown hgr (by simp) (by simp [Value.ownBlock])
    obtain ⟨B, d, rfl⟩ := (show ∃ B d, v = .slice B n d from by obtain ⟨B, d, h, _⟩ := Es.of_own hown (tmC_one _); exact ⟨B, d, h⟩)
    have HO := Lib.hid hown; have HB3 := Lib.hid hb3
    have hq : ∀ W : World, (binOp .eql 22 (.slice (some ad) n c) (.slice none 0 0)).run Try.prog W = .ok (.bool false) W := fun _ => by kernel_rfl
    clear hown hgr hb3 hown0 hx hi5 hz0 hz1 hz2 hvk
    go_enter Try.func37, Try.ntmps37
    go_wp2_with (at_builtin; refine eapp_run (by rfl) rfl rfl rfl hap ?_)
    go_ret
    exact ⟨_, _, rfl, HO.out, HB3.out⟩
set_option maxRecDepth 100000 in
set_option maxHeartbeats 4000000 in
theorem copied12_any (A : Option Addr) (n c : Nat) (h : List Tm) (w : World) (hx : Tms w A n c h) (hn : n ≤ 16384) :
    Calls Try.prog 25 #[.slice A n c] w (RowT w n h) := by
  have CL := Lib.hid (clone12_any A n c h w hx hn)
  clear hx
  go_enter Try.func25, Try.ntmps25
  go_wp2_with fail
  refine CL.out.mono ?_
  rintro e w2 ⟨B, d, rfl, hown, hb⟩
  have OW := Lib.hid hown; have HB := Lib.hid hb
  clear hown hb
  go_wp2
  go_ret
  exact ⟨B, d, rfl, OW.out, HB.out⟩
/-- one more. -/
def WithP (w : World) (base n : Nat) (l : List Tm) (e : Ending) (w' : World) : Prop :=
  ∃ B d, e = .returned (.slice B (n + 1) d) ∧ w'.ownsRow base 24 2 (.slice B (n + 1) d) (n + 1) (tmC l) ∧ Below base w w'
set_option maxRecDepth 100000 in
set_option maxHeartbeats 4000000 in
theorem with12_any (base n d : Nat) (B : Option Addr) (h : List Tm) (x0 x1 : Int) (w : World) (ho : w.ownsRow base 24 2 (.slice B n d) n (tmC h)) (hn : n ≤ 16383) (hbase : base ≤ w.heap.size) :
    Calls Try.prog 29 #[.slice B n d, .agg #[.int .i64 x0, .int .i64 x1]] w (WithP w base n (upT (n + 1) (h ++ [(x0, x1)]) n)) := by
  obtain ⟨i5, hi5, hz0, hz1, hz2⟩ := info_of infoTm
  have HI := Lib.hid hi5; have HZ0 := Lib.hid hz0; have HZ1 := Lib.hid hz1; have HZ2 := Lib.hid hz2
  clear hi5 hz0 hz1 hz2
  have OW := Lib.hid ho
  have HBS := Lib.hid hbase
  obtain ⟨R, hR⟩ : ∃ R, upT (n + 1) (h ++ [(x0, x1)]) n = R := ⟨_, rfl⟩
  rw [hR]
  have HR := Lib.hid hR
  clear ho hR hbase
  obtain ⟨v1, hv1⟩ : ∃ W, w.alloc (.cells #[.int .i64 x0, .int .i64 x1] 24) = W := ⟨_, rfl⟩
  have fr1 : Fr w v1 w.heap.size [.cells #[.int .i64 x0, .int .i64 x1] 24] := hv1 ▸ Fr.first w _
  have z1 : v1.heap.size = w.heap.size + 1 := by rw [← hv1, Fr.size1]
  generalize hq : w.heap.size = q at *
  have FR := Lib.hid fr1
  clear fr1
  have hbv : Below base w v1 := hv1 ▸ (Below.refl _ _).alloc (by rw [hq]; exact HBS.out) _
  have hov : v1.ownsRow base 24 2 (.slice B n d) n (tmC h) := own_below OW.out (by rw [hq]; exact FR.out.bel)
  obtain ⟨A4, c4, w4, hap4, hown4, hbel4⟩ := eapp_lit (P := Try.prog) (ty := 44) (w0 := w) (base := base) (W := v1) Try.underlying44 HI.out HZ0.out HZ1.out HZ2.out rfl (by decide) hov (tmC_one _) (tmC [(x0, x1)]) (tmC_one _) (m := 1) rfl (by unfold maxLen; omega) (by omega) hbv (by rw [z1]; have := HBS.out; omega)
  rw [← tmC_app] at hown4
  replace hap4 : (Builtin.append_ #[44, 44] 44 #[.slice B n d, .slice (some ⟨v1.heap.size, 0, none⟩) 1 1]).run Try.prog (v1.alloc (.cells #[.int .i64 x0, .int .i64 x1] 24)) = _ := hap4
  obtain ⟨g, rfl⟩ := own_some12 hown4 (by omega)
  have OW4 := Lib.hid hown4; have HB4 := Lib.hid hbel4
  have hs1 : IntKind.i64.wrap (((n + 1 : Nat) : Int) - 1) = (n : Int) := by rw [IntKind.wrap_i64]; omega
  have UP := Lib.hid (up12_any base g (n + 1) c4 (n + 1) n _ w4 OW4.out (by omega) (by omega) (by omega))
  rw [HR.out] at UP
  clear hown4 hbel4 hov hbv z1
  have c00 : v1.cell? ⟨q, 0, none⟩ = some (.int .i64 x0) := FR.out.cell 0 0 rfl rfl rfl
  have c01 : v1.cell? ⟨q, 1, none⟩ = some (.int .i64 x1) := FR.out.cell 0 1 rfl rfl rfl
  go_enter Try.func29, Try.ntmps29
  go_wp2_with (at_builtin; refine eapp_run (by rfl) rfl rfl rfl hap4 ?_)
  refine UP.out.mono ?_
  rintro e w5 ⟨rfl, HT⟩
  replace HT := Lib.hid HT
  go_wp2
  go_ret
  exact ⟨_, _, rfl, HT.out.own, HB4.out.grown HT.out.gr (by have h1 := HBS.out; have h2 := HB4.out.size; omega) (fun k hk => by cases hk; exact HT.out.ge)⟩
set_option maxRecDepth 100000 in
set_option maxHeartbeats 4000000 in
theorem wiout12_any (base g n d i : Nat) (h : List Tm) (w : World) (ho : w.ownsRow base 24 2 (.slice (some ⟨g, 0, none⟩) n d) n (tmC h)) (hn : n ≤ 16384) (hi : i < n) :
    Calls Try.prog 31 #[.slice (some ⟨g, 0, none⟩) n d, .int .i64 (i : Int)] w (fun e w' => e = .returned (.slice (some ⟨g, 0, none⟩) (n - 1) d) ∧ TW base w w' g (n - 1) d (wioT h i)) := by
  have HT := Lib.hid (TW.mk0 ho)
  have hlen : h.length = n := HT.out.len
  obtain ⟨l, hl⟩ : ∃ l, n - 1 = l := ⟨_, rfl⟩
  have hwl : wioT h i = if i = l then h.take l else upT (i + 1) (downT n ((h.take l).set i (tmAt h l)) i) i := by unfold wioT; rw [hlen, hl]
  obtain ⟨R, hR⟩ : ∃ R, wioT h i = R := ⟨_, rfl⟩
  rw [hR] at hwl; rw [hR, hl]
  have hll : l < n := by omega
  have hnd : n ≤ d := Es.cap HT.out.tms
  have hs1 : IntKind.i64.wrap ((n : Int) - 1) = (l : Int) := by rw [IntKind.wrap_i64]; omega
  have n0 : (n : Int) - 1 = (l : Int) := by omega
  have SL : ∀ W : World, (Instr.slice 44 (.slice (some ⟨g, 0, none⟩) n d) none (some (.int .i64 (l : Int))) none).run Try.prog W = .ok (.slice (some ⟨g, 0, none⟩) l d) W := fun W => by rw [run_slice_h W _ _ _ _ unHp .i64 _ (by omega) (by omega), szHp]; simp [sliced, Result.andThen, add_plain]
  have hlt : l < n := hll
  obtain ⟨a0, a1⟩ := HT.out.at l hll
  obtain ⟨⟨lw, lk⟩, hlv⟩ : ∃ x, tmAt h l = x := ⟨_, rfl⟩
  rw [hlv] at a0 a1 hwl
  simp only at a0 a1
  have l0 : (0 : Int) ≤ (l : Int) := by omega
  have l1 : (l : Int) < (n : Int) := by omega
  have i0 : (0 : Int) ≤ (i : Int) := by omega
  have i1 : (i : Int) < (n : Int) := by omega
  have HIN := Lib.hid hi
  have HLN := Lib.hid hlen
  have HLL := Lib.hid hll
  have HN1 := Lib.hid hl
  have HLV := Lib.hid hlv
  clear hR hlv hlen hl ho hlt
  by_cases h1 : i = l
  · rw [if_pos h1] at hwl
    subst h1
    have HW := Lib.hid hwl
    have c1 : decide ((i : Int) < (i : Int)) = false := by simp
    have ff0 := HT.out.own.frozenAt (i * 2)
    have ff1 := HT.out.own.frozenAt (i * 2 + 1)
    have HE := Lib.hid (show h.set i (lw, lk) = h from by rw [← HLV.out, tmAt_get (by rw [HLN.out]; exact HIN.out)]; exact List.set_getElem_self _)
    have T2 := Lib.hid ((HT.out.set i HIN.out lw lk).take i (by omega))
    rw [HE.out] at T2
    clear hwl
    go_enter Try.func31, Try.ntmps31
    go_wp2
    go_ret
    rw [HW.out]
    exact ⟨rfl, T2.out⟩
  · rw [if_neg h1] at hwl
    have HW := Lib.hid hwl
    have hil : i < l := by omega
    have c1 : decide ((i : Int) < (l : Int)) = true := by simpa using hil
    have HIL := Lib.hid hil
    obtain ⟨b0, b1⟩ := HT.out.at i HIN.out
    have ff0 := HT.out.own.frozenAt (i * 2)
    have ff1 := HT.out.own.frozenAt (i * 2 + 1)
    have T2 := HT.out.set i HIN.out lw lk
    obtain ⟨w2, hw2⟩ : ∃ W, (w.setCell ⟨g, i * 2, none⟩ (.int .i64 lw)).setCell ⟨g, i * 2 + 1, none⟩ (.int .i64 lk) = W := ⟨_, rfl⟩
    rw [hw2] at T2
    replace T2 := Lib.hid (T2.take l (by omega))
    rw [List.take_set] at T2
    have DN := Lib.hid (down12_any base g l d n i _ w2 T2.out.own (by omega) HIL.out (by omega))
    clear hwl h1 hil
    go_enter Try.func31, Try.ntmps31
    go_wp2_with fail
    refine DN.out.mono ?_
    rintro e w3 ⟨rfl, hT3⟩
    have T3 := Lib.hid (T2.out.trans hT3)
    have UP := Lib.hid (up12_any base g l d (i + 1) i _ w3 T3.out.own (by omega) HIL.out (by omega))
    clear hT3 a0 a1 b0 b1 ff0 ff1
    go_wp2_with fail
    refine UP.out.mono ?_
    rintro e w4 ⟨rfl, hT4⟩
    have T4 := Lib.hid (T3.out.trans hT4)
    clear hT4
    go_wp2
    go_ret
    rw [HW.out]
    exact ⟨rfl, T4.out⟩
end Go.Proofs.Ytehpfpphpffniaa
