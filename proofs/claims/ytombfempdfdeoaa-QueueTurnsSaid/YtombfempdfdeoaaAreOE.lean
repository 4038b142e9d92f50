/- What the program's own Give of layer 7 answers; for slices of up to 16384 records. -/
import Derived.Test.YtombfempdfdeoaaAreOD
namespace Go.Proofs.Ytombfempdfdeoaa
set_option linter.unusedVariables false
set_option linter.unusedSimpArgs false
open Go.RowKit
set_option maxRecDepth 100000 in
set_option maxHeartbeats 4000000 in
theorem arnLeads1_any (r : Rec3) (b : Nat) (i : Int) (w : World) (hb : w.heap[b]? = some (.cells #[.int .i64 i] 3)) :
    Calls Try.prog 56 #[.agg #[.int .i64 r.1, .int .i64 r.2.1, .int .i64 r.2.2], .pointer (some ⟨b, 0, none⟩)] w (YesPost w (r.2.2 == i)) := by
  obtain ⟨k, tt, x⟩ := r
  simp only
  have VB := Lib.hid hb
  clear hb
  obtain ⟨v1, hv1⟩ : ∃ W, w.alloc (.cells #[.int .i64 k, .int .i64 tt, .int .i64 x] 55) = W := ⟨_, rfl⟩
  have fr1 : Fr w v1 w.heap.size [.cells #[.int .i64 k, .int .i64 tt, .int .i64 x] 55] := hv1 ▸ Fr.first w _
  have z1 : v1.heap.size = w.heap.size + 1 := by rw [← hv1, Fr.size1]
  generalize hq : w.heap.size = q at *
  have FR := Lib.hid fr1
  clear fr1
  have hvb : v1.heap[b]? = some (.cells #[.int .i64 i] 3) := by rw [← hv1, heap_alloc_old _ _ (blk_lt VB.out)]; exact VB.out
  have cb := blk_cell hvb 0
  simp only [List.getElem?_toArray, List.getElem?_cons_zero] at cb
  clear hvb
  have c00 : v1.cell? ⟨q, 0, none⟩ = some (.int .i64 k) := FR.out.cell 0 0 rfl rfl rfl
  have c01 : v1.cell? ⟨q, 1, none⟩ = some (.int .i64 tt) := FR.out.cell 0 1 rfl rfl rfl
  have c02 : v1.cell? ⟨q, 2, none⟩ = some (.int .i64 x) := FR.out.cell 0 2 rfl rfl rfl
  go_enter Try.func56, Try.ntmps56
  go_wp2
  go_ret
  exact ⟨rfl, FR.out.out⟩
/-- a closure that knows a place. -/
def CloPost (w : World) (i : Int) (e : Ending) (w' : World) : Prop :=
  ∃ b, e = .returned (.func (.func 56) #[] #[.pointer (some ⟨b, 0, none⟩)]) ∧ w'.heap[b]? = some (.cells #[.int .i64 i] 3) ∧ w.heap.size ≤ b ∧ Below w.heap.size w w'
theorem arnLeads_any (i : Int) (w : World) : Calls Try.prog 51 #[.int .i64 i] w (CloPost w i) := by
  have hmf : ∀ (fn : Fn) (first cap : Array Value) (w : World), (Instr.makeFunc fn first cap).run Try.prog w = .ok (.func fn first cap) w := fun _ _ _ _ => rfl
  have hk := Lib.hid (heap_alloc_new w (.cells #[.int .i64 i] 3))
  have hb := Lib.hid ((Below.refl w.heap.size w).alloc (Nat.le_refl _) (.cells #[.int .i64 i] 3))
  go_enter Try.func51, Try.ntmps51
  go_wp2
  go_ret
  exact ⟨_, rfl, hk.out, Nat.le_refl _, hb.out⟩
/-- the first record that leads to a place. -/
def FindPost (w : World) (rs : List Rec3) (i : Int) (e : Ending) (w' : World) : Prop :=
  ∃ k : Int, e = .returned (.int .i64 k) ∧ (0 ≤ k ∧ anyLead rs i rs.length ∨ k = -1 ∧ ¬ anyLead rs i rs.length) ∧ Below w.heap.size w w'
set_option maxRecDepth 100000 in
set_option maxHeartbeats 4000000 in
theorem index7_any (A : Option Addr) (n c : Nat) (rs : List Rec3) (b : Nat) (i : Int) (w : World) (hx : Rs w A n c rs) (hb : w.heap[b]? = some (.cells #[.int .i64 i] 3)) (hn : n ≤ 16384) :
    Calls Try.prog 55 #[.slice A n c, .func (.func 56) #[] #[.pointer (some ⟨b, 0, none⟩)]] w (FindPost w rs i) := by
  have RX := Lib.hid hx
  have VB := Lib.hid hb
  have LD := Lib.hid (fun (W : World) (r : Rec3) h => arnLeads1_any r b i W h)
  have hlen := Lib.hid hx.len
  clear hx hb
  go_enter Try.func55, Try.ntmps55
  go_wp2
  go_loopw [8] (fun kv wr => ∃ k : Nat, kv = .int .i64 (k : Int) ∧ k ≤ n ∧ Hid (Below w.heap.size w wr) ∧ Hid (¬ anyLead rs i k)) (fun kv _ => n - (intOf kv).toNat)
  case atStart => exact ⟨0, rfl, by omega, Below.refl _ _, fun ⟨j, hj, _⟩ => by omega⟩
  case round =>
    obtain ⟨k, rfl, hk, HB, HN⟩ := hrel
    by_cases hlt : k < n
    · have b1 : decide ((k : Int) < (n : Int)) = true := by simpa using hlt
      obtain ⟨b2, off, rfl, hb0, k0, k1, k2⟩ := Rs.look (rs := rs) (Es.below RX.out HB.out) k hlt
      have hi0 : (0 : Int) ≤ (k : Int) := by omega
      have hi1 : (k : Int) < (n : Int) := by omega
      have LD2 := LD.out wr (recAt rs k) (blk_below VB.out HB.out (blk_lt VB.out))
      clear hb0
      by_cases he : (recAt rs k).2.2 = i
      · have hE : ((recAt rs k).2.2 == i) = true := by simp [he]
        rw [hE] at LD2
        replace LD2 := Lib.hid LD2
        have HA := Lib.hid (show anyLead rs i rs.length from ⟨k, by have := hlen.out; omega, he⟩)
        clear he hE
        go_wp2_with fail
        refine LD2.out.mono ?_
        rintro e w2 ⟨rfl, hb⟩
        have HB2 := Lib.hid (HB.out.trans (hb.mono HB.out.size))
        clear hb k0 k1 k2
        go_wp2
        go_ret
        exact ⟨_, rfl, Or.inl ⟨hi0, HA.out⟩, HB2.out⟩
      · have hE : ((recAt rs k).2.2 == i) = false := by simp [he]
        rw [hE] at LD2
        replace LD2 := Lib.hid LD2
        have HA := Lib.hid (anyLead_step HN.out he)
        clear he hE
        go_wp2_with fail
        refine LD2.out.mono ?_
        rintro e w2 ⟨rfl, hb⟩
        have HB2 := Lib.hid (HB.out.trans (hb.mono HB.out.size))
        clear hb k0 k1 k2
        go_wp2
        go_roundw
        case rel => exact ⟨k + 1, by go_num, by omega, HB2.out, HA.out⟩
        case measure => simp [intOf]; omega
    · have en : n = k := by omega
      subst en
      have b1 : decide ((n : Int) < (n : Int)) = false := by simp
      go_wp2
      go_ret
      exact ⟨_, rfl, Or.inr ⟨rfl, by rw [hlen.out]; exact HN.out⟩, HB.out⟩
def AnyPost (w : World) (rs : List Rec3) (i : Int) (e : Ending) (w' : World) : Prop :=
  ∃ y, e = .returned (.bool y) ∧ (y = true ↔ anyLead rs i rs.length) ∧ Below w.heap.size w w'
theorem contains7_any (A : Option Addr) (n c : Nat) (rs : List Rec3) (b : Nat) (i : Int) (w : World) (hx : Rs w A n c rs) (hb : w.heap[b]? = some (.cells #[.int .i64 i] 3)) (hn : n ≤ 16384) :
    Calls Try.prog 50 #[.slice A n c, .func (.func 56) #[] #[.pointer (some ⟨b, 0, none⟩)]] w (AnyPost w rs i) := by
  have IX := Lib.hid (index7_any A n c rs b i w hx hb hn)
  clear hx hb
  go_enter Try.func50, Try.ntmps50
  go_wp2_with fail
  refine IX.out.mono ?_
  rintro e w2 ⟨k, rfl, hk, hb⟩
  rcases hk with ⟨h0, h1⟩ | ⟨rfl, h1⟩
  · have b0 : decide (0 ≤ k) = true := by simpa using h0
    have H1 := Lib.hid h1; have HB := Lib.hid hb
    clear h0 h1 hb
    go_wp2
    go_ret
    exact ⟨_, rfl, ⟨fun _ => H1.out, fun _ => rfl⟩, HB.out⟩
  · have H1 := Lib.hid h1; have HB := Lib.hid hb
    clear h1 hb
    go_wp2
    go_ret
    exact ⟨_, rfl, ⟨fun h => (by cases h), fun h => absurd h H1.out⟩, HB.out⟩
set_option maxRecDepth 100000 in
set_option maxHeartbeats 4000000 in
theorem arnGive_all (A : Option Addr) (n c : Nat) (rs : List Rec3) (fr i : Int) (w : World) (hx : Rs w A n c rs) (hn : n ≤ 16384) :
    Calls Try.prog 42 #[.agg #[.slice A n c, .int .i64 fr], .int .i64 i] w (GiveAll w (arGive (rs, fr) i)) := by
  have hlen := hx.len
  have RX := Lib.hid hx
  have CP := Lib.hid (fun (W : World) (h : Rs W A n c rs) => arnCopied_any A n c rs fr W h hn)
  have RT := Lib.hid (fun (W : World) (B : Option Addr) (d : Nat) (h : Rs W B n d rs) => arnRight_any B n d rs fr W h hn)
  have TK := Lib.hid (fun (W : World) (B : Option Addr) (d : Nat) (h : Rs W B n d rs) => arnTaken_any B n d rs fr i W h hn)
  have CT := Lib.hid (fun (W : World) (B : Option Addr) (d b : Nat) (h : Rs W B n d rs) h2 => contains7_any B n d rs b i W h h2 hn)
  obtain ⟨R, hR⟩ : ∃ R, arGive (rs, fr) i = R := ⟨_, rfl⟩
  rw [hR]
  have HR := Lib.hid hR
  have HL := Lib.hid hlen
  clear hx hR hlen
  obtain ⟨v1, hv1⟩ : ∃ W, w.alloc (.cells #[.slice A n c, .int .i64 fr] 24) = W := ⟨_, rfl⟩
  have fr1 : Fr w v1 w.heap.size [.cells #[.slice A n c, .int .i64 fr] 24] := hv1 ▸ Fr.first w _
  have z1 : v1.heap.size = w.heap.size + 1 := by rw [← hv1, Fr.size1]
  obtain ⟨v2, hv2⟩ : ∃ W, v1.alloc (.cells #[.slice none 0 0, .int .i64 0] 24) = W := ⟨_, rfl⟩
  have fr2 : Fr w v2 w.heap.size [.cells #[.slice A n c, .int .i64 fr] 24, .cells #[.slice none 0 0, .int .i64 0] 24] := hv2 ▸ fr1.more z1 _
  have z2 : v2.heap.size = w.heap.size + 2 := by rw [← hv2, Fr.size1, z1]
  generalize hq : w.heap.size = q at *
  have FR := Lib.hid fr2
  clear fr1 fr2
  have CP2 := Lib.hid (CP.out _ (FR.out.es RX.out))
  cases hr : rightS (rs, fr)
  · rw [hr] at RT
    replace RT := Lib.hid RT.out
    have HE := Lib.hid (show R = ((rs, fr), 1) by rw [← HR.out]; unfold arGive; rw [if_pos hr])
    clear hr TK CT
    go_enter Try.func42, Try.ntmps42
    have c00 : v2.cell? ⟨q, 0, none⟩ = some (.slice A n c) := FR.out.cell 0 0 rfl rfl rfl
    have c01 : v2.cell? ⟨q, 1, none⟩ = some (.int .i64 fr) := FR.out.cell 0 1 rfl rfl rfl
    have c10 : v2.cell? ⟨q + 1, 0, none⟩ = some (.slice none 0 0) := FR.out.cell 1 0 rfl rfl rfl
    have c11 : v2.cell? ⟨q + 1, 1, none⟩ = some (.int .i64 0) := FR.out.cell 1 1 rfl rfl rfl
    go_wp2_with fail
    refine CP2.out.mono ?_
    rintro e w3 ⟨B, d, rfl, hown, hb⟩
    clear c00 c01 c10 c11
    have hsz := FR.out.sz
    simp only [List.length_cons, List.length_nil] at hsz
    replace FR := Lib.hid (FR.out.step hb)
    replace hown := own_base hown hsz
    have OW := Lib.hid hown
    clear hb hown hv1 hv2 z1 z2
    have pc00 : w3.cell? ⟨q, 0, none⟩ = some (.slice A n c) := FR.out.cell 0 0 rfl rfl rfl
    have pf00 : w3.frozen? ⟨q, 0, none⟩ = false := FR.out.frozen 0 0 rfl rfl
    have pc01 : w3.cell? ⟨q, 1, none⟩ = some (.int .i64 fr) := FR.out.cell 0 1 rfl rfl rfl
    have pf01 : w3.frozen? ⟨q, 1, none⟩ = false := FR.out.frozen 0 1 rfl rfl
    have hszw4 := FR.out.sz
    simp only [List.length_cons, List.length_nil] at hszw4
    obtain ⟨w4, hw4⟩ : ∃ W, ((w3.setCell ⟨q, 0, none⟩ (.slice B n d)).setCell ⟨q, 1, none⟩ (.int .i64 fr)) = W := ⟨_, rfl⟩
    replace FR := Lib.hid (show Fr w w4 q [.cells #[.slice B n d, .int .i64 fr] 24, .cells #[.slice none 0 0, .int .i64 0] 24] from hw4 ▸ ((FR.out.set 0 0 rfl rfl (.slice B n d)).set 0 1 rfl rfl (.int .i64 fr)))
    replace OW := Lib.hid (hw4 ▸ (own_apart (own_apart OW.out (k := q) (o := 0) (u := .slice B n d) (by omega)) (k := q) (o := 1) (u := .int .i64 fr) (by omega)))
    have RT2 := Lib.hid (RT.out _ _ _ (rs_own OW.out))
    have c00 : w4.cell? ⟨q, 0, none⟩ = some (.slice B n d) := FR.out.cell 0 0 rfl rfl rfl
    have c01 : w4.cell? ⟨q, 1, none⟩ = some (.int .i64 fr) := FR.out.cell 0 1 rfl rfl rfl
    have c10 : w4.cell? ⟨q + 1, 0, none⟩ = some (.slice none 0 0) := FR.out.cell 1 0 rfl rfl rfl
    have c11 : w4.cell? ⟨q + 1, 1, none⟩ = some (.int .i64 0) := FR.out.cell 1 1 rfl rfl rfl
    go_wp2_with fail
    refine (RT2.out).mono ?_
    rintro e w5 ⟨rfl, hb⟩
    clear c00 c01 c10 c11
    replace FR := Lib.hid (FR.out.step hb)
    replace OW := Lib.hid (own_below OW.out hb)
    clear hb
    have c10 : w5.cell? ⟨q + 1, 0, none⟩ = some (.slice none 0 0) := FR.out.cell 1 0 rfl rfl rfl
    have f10 : w5.frozen? ⟨q + 1, 0, none⟩ = false := FR.out.frozen 1 0 rfl rfl
    have c11 : w5.cell? ⟨q + 1, 1, none⟩ = some (.int .i64 0) := FR.out.cell 1 1 rfl rfl rfl
    have f11 : w5.frozen? ⟨q + 1, 1, none⟩ = false := FR.out.frozen 1 1 rfl rfl
    have c00 : w5.cell? ⟨q, 0, none⟩ = some (.slice B n d) := FR.out.cell 0 0 rfl rfl rfl
    have c01 : w5.cell? ⟨q, 1, none⟩ = some (.int .i64 fr) := FR.out.cell 0 1 rfl rfl rfl
    go_wp2
    have FZ : Fr w ((w5.setCell ⟨q + 1, 0, none⟩ (.slice B n d)).setCell ⟨q + 1, 1, none⟩ (.int .i64 fr)) q [.cells #[.slice B n d, .int .i64 fr] 24, .cells #[.slice B n d, .int .i64 fr] 24] := ((FR.out.set 1 0 rfl rfl (.slice B n d)).set 1 1 rfl rfl (.int .i64 fr))
    refine bodyPost_ret (res_cs Try.results42 (by rfl) (FZ.load 1 rfl rfl Try.underlying24 (by kernel_rfl))) rfl ?_
    rw [HE.out]
    exact ⟨B, n, d, rfl, own_base (own_apart (own_apart (OW.out) (k := q + 1) (o := 0) (u := .slice B n d) (by omega)) (k := q + 1) (o := 1) (u := .int .i64 fr) (by omega)) (by rw [hq]; omega), FZ.out⟩
  · rw [hr] at RT
    replace RT := Lib.hid RT.out
    have TKE := live_taken hr i
    cases hl : liveS (rs, fr) i
    · rw [TKE, hl] at TK
      replace TK := Lib.hid TK.out
      have HE := Lib.hid (show R = ((rs, fr), 7) by rw [← HR.out]; unfold arGive; rw [if_neg (by simp [hr]), if_pos hl])
      clear hr hl TKE CT
      go_enter Try.func42, Try.ntmps42
      have c00 : v2.cell? ⟨q, 0, none⟩ = some (.slice A n c) := FR.out.cell 0 0 rfl rfl rfl
      have c01 : v2.cell? ⟨q, 1, none⟩ = some (.int .i64 fr) := FR.out.cell 0 1 rfl rfl rfl
      have c10 : v2.cell? ⟨q + 1, 0, none⟩ = some (.slice none 0 0) := FR.out.cell 1 0 rfl rfl rfl
      have c11 : v2.cell? ⟨q + 1, 1, none⟩ = some (.int .i64 0) := FR.out.cell 1 1 rfl rfl rfl
      go_wp2_with fail
      refine CP2.out.mono ?_
      rintro e w3 ⟨B, d, rfl, hown, hb⟩
      clear c00 c01 c10 c11
      have hsz := FR.out.sz
      simp only [List.length_cons, List.length_nil] at hsz
      replace FR := Lib.hid (FR.out.step hb)
      replace hown := own_base hown hsz
      have OW := Lib.hid hown
      clear hb hown hv1 hv2 z1 z2
      have pc00 : w3.cell? ⟨q, 0, none⟩ = some (.slice A n c) := FR.out.cell 0 0 rfl rfl rfl
      have pf00 : w3.frozen? ⟨q, 0, none⟩ = false := FR.out.frozen 0 0 rfl rfl
      have pc01 : w3.cell? ⟨q, 1, none⟩ = some (.int .i64 fr) := FR.out.cell 0 1 rfl rfl rfl
      have pf01 : w3.frozen? ⟨q, 1, none⟩ = false := FR.out.frozen 0 1 rfl rfl
      have hszw4 := FR.out.sz
      simp only [List.length_cons, List.length_nil] at hszw4
      obtain ⟨w4, hw4⟩ : ∃ W, ((w3.setCell ⟨q, 0, none⟩ (.slice B n d)).setCell ⟨q, 1, none⟩ (.int .i64 fr)) = W := ⟨_, rfl⟩
      replace FR := Lib.hid (show Fr w w4 q [.cells #[.slice B n d, .int .i64 fr] 24, .cells #[.slice none 0 0, .int .i64 0] 24] from hw4 ▸ ((FR.out.set 0 0 rfl rfl (.slice B n d)).set 0 1 rfl rfl (.int .i64 fr)))
      replace OW := Lib.hid (hw4 ▸ (own_apart (own_apart OW.out (k := q) (o := 0) (u := .slice B n d) (by omega)) (k := q) (o := 1) (u := .int .i64 fr) (by omega)))
      have RT2 := Lib.hid (RT.out _ _ _ (rs_own OW.out))
      have c00 : w4.cell? ⟨q, 0, none⟩ = some (.slice B n d) := FR.out.cell 0 0 rfl rfl rfl
      have c01 : w4.cell? ⟨q, 1, none⟩ = some (.int .i64 fr) := FR.out.cell 0 1 rfl rfl rfl
      have c10 : w4.cell? ⟨q + 1, 0, none⟩ = some (.slice none 0 0) := FR.out.cell 1 0 rfl rfl rfl
      have c11 : w4.cell? ⟨q + 1, 1, none⟩ = some (.int .i64 0) := FR.out.cell 1 1 rfl rfl rfl
      go_wp2_with fail
      refine (RT2.out).mono ?_
      rintro e w5 ⟨rfl, hb⟩
      clear c00 c01 c10 c11
      replace FR := Lib.hid (FR.out.step hb)
      replace OW := Lib.hid (own_below OW.out hb)
      clear hb
      have TK2 := Lib.hid (TK.out _ _ _ (rs_own OW.out))
      have c00 : w5.cell? ⟨q, 0, none⟩ = some (.slice B n d) := FR.out.cell 0 0 rfl rfl rfl
      have c01 : w5.cell? ⟨q, 1, none⟩ = some (.int .i64 fr) := FR.out.cell 0 1 rfl rfl rfl
      have c10 : w5.cell? ⟨q + 1, 0, none⟩ = some (.slice none 0 0) := FR.out.cell 1 0 rfl rfl rfl
      have c11 : w5.cell? ⟨q + 1, 1, none⟩ = some (.int .i64 0) := FR.out.cell 1 1 rfl rfl rfl
      go_wp2_with fail
      refine (TK2.out).mono ?_
      rintro e w6 ⟨rfl, hb⟩
      clear c00 c01 c10 c11
      replace FR := Lib.hid (FR.out.step hb)
      replace OW := Lib.hid (own_below OW.out hb)
      clear hb
      have c10 : w6.cell? ⟨q + 1, 0, none⟩ = some (.slice none 0 0) := FR.out.cell 1 0 rfl rfl rfl
      have f10 : w6.frozen? ⟨q + 1, 0, none⟩ = false := FR.out.frozen 1 0 rfl rfl
      have c11 : w6.cell? ⟨q + 1, 1, none⟩ = some (.int .i64 0) := FR.out.cell 1 1 rfl rfl rfl
      have f11 : w6.frozen? ⟨q + 1, 1, none⟩ = false := FR.out.frozen 1 1 rfl rfl
      have c00 : w6.cell? ⟨q, 0, none⟩ = some (.slice B n d) := FR.out.cell 0 0 rfl rfl rfl
      have c01 : w6.cell? ⟨q, 1, none⟩ = some (.int .i64 fr) := FR.out.cell 0 1 rfl rfl rfl
      go_wp2
      have FZ : Fr w ((w6.setCell ⟨q + 1, 0, none⟩ (.slice B n d)).setCell ⟨q + 1, 1, none⟩ (.int .i64 fr)) q [.cells #[.slice B n d, .int .i64 fr] 24, .cells #[.slice B n d, .int .i64 fr] 24] := ((FR.out.set 1 0 rfl rfl (.slice B n d)).set 1 1 rfl rfl (.int .i64 fr))
      refine bodyPost_ret (res_cs Try.results42 (by rfl) (FZ.load 1 rfl rfl Try.underlying24 (by kernel_rfl))) rfl ?_
      rw [HE.out]
      exact ⟨B, n, d, rfl, own_base (own_apart (own_apart (OW.out) (k := q + 1) (o := 0) (u := .slice B n d) (by omega)) (k := q + 1) (o := 1) (u := .int .i64 fr) (by omega)) (by rw [hq]; omega), FZ.out⟩
    · rw [TKE, hl] at TK
      replace TK := Lib.hid TK.out
      have hlb := live_bounds hl
      simp only [HL.out] at hlb
      have AL := any_leads hr hl
      obtain ⟨i, rfl⟩ : ∃ j : Nat, i = j := ⟨i.toNat, by omega⟩
      have hi0 : (0 : Int) ≤ (i : Int) := hlb.1
      have hi1 : (i : Int) < (n : Int) := hlb.2
      have HT := Lib.hid (show anyLead rs i rs.length → R = ((rs, fr), 8) from fun h => by rw [← HR.out]; unfold arGive; rw [if_neg (by simp [hr]), if_neg (by simp [hl]), if_pos (leadsB_iff.2 (AL.1 h))])
      have HG := Lib.hid (show ¬ anyLead rs i rs.length → R = ((rs.set i (-1, -1, fr), (i : Int)), 0) from fun h => by rw [← HR.out]; unfold arGive; rw [if_neg (by simp [hr]), if_neg (by simp [hl]), if_neg (fun h2 => h (AL.2 (leadsB_iff.1 h2)))]; rfl)
      clear hr hl TKE hlb AL
      go_enter Try.func42, Try.ntmps42
      have c00 : v2.cell? ⟨q, 0, none⟩ = some (.slice A n c) := FR.out.cell 0 0 rfl rfl rfl
      have c01 : v2.cell? ⟨q, 1, none⟩ = some (.int .i64 fr) := FR.out.cell 0 1 rfl rfl rfl
      have c10 : v2.cell? ⟨q + 1, 0, none⟩ = some (.slice none 0 0) := FR.out.cell 1 0 rfl rfl rfl
      have c11 : v2.cell? ⟨q + 1, 1, none⟩ = some (.int .i64 0) := FR.out.cell 1 1 rfl rfl rfl
      go_wp2_with fail
      refine CP2.out.mono ?_
      rintro e w3 ⟨B, d, rfl, hown, hb⟩
      clear c00 c01 c10 c11
      have hsz := FR.out.sz
      simp only [List.length_cons, List.length_nil] at hsz
      replace FR := Lib.hid (FR.out.step hb)
      replace hown := own_base hown hsz
      have OW := Lib.hid hown
      clear hb hown hv1 hv2 z1 z2
      obtain ⟨g, rfl⟩ := own_some OW.out (by omega)
      have pc00 : w3.cell? ⟨q, 0, none⟩ = some (.slice A n c) := FR.out.cell 0 0 rfl rfl rfl
      have pf00 : w3.frozen? ⟨q, 0, none⟩ = false := FR.out.frozen 0 0 rfl rfl
      have pc01 : w3.cell? ⟨q, 1, none⟩ = some (.int .i64 fr) := FR.out.cell 0 1 rfl rfl rfl
      have pf01 : w3.frozen? ⟨q, 1, none⟩ = false := FR.out.frozen 0 1 rfl rfl
      have hszw4 := FR.out.sz
      simp only [List.length_cons, List.length_nil] at hszw4
      obtain ⟨w4, hw4⟩ : ∃ W, ((w3.setCell ⟨q, 0, none⟩ (.slice (some ⟨g, 0, none⟩) n d)).setCell ⟨q, 1, none⟩ (.int .i64 fr)) = W := ⟨_, rfl⟩
      replace FR := Lib.hid (show Fr w w4 q [.cells #[.slice (some ⟨g, 0, none⟩) n d, .int .i64 fr] 24, .cells #[.slice none 0 0, .int .i64 0] 24] from hw4 ▸ ((FR.out.set 0 0 rfl rfl (.slice (some ⟨g, 0, none⟩) n d)).set 0 1 rfl rfl (.int .i64 fr)))
      replace OW := Lib.hid (hw4 ▸ (own_apart (own_apart OW.out (k := q) (o := 0) (u := .slice (some ⟨g, 0, none⟩) n d) (by omega)) (k := q) (o := 1) (u := .int .i64 fr) (by omega)))
      have RT2 := Lib.hid (RT.out _ _ _ (rs_own OW.out))
      have c00 : w4.cell? ⟨q, 0, none⟩ = some (.slice (some ⟨g, 0, none⟩) n d) := FR.out.cell 0 0 rfl rfl rfl
      have c01 : w4.cell? ⟨q, 1, none⟩ = some (.int .i64 fr) := FR.out.cell 0 1 rfl rfl rfl
      have c10 : w4.cell? ⟨q + 1, 0, none⟩ = some (.slice none 0 0) := FR.out.cell 1 0 rfl rfl rfl
      have c11 : w4.cell? ⟨q + 1, 1, none⟩ = some (.int .i64 0) := FR.out.cell 1 1 rfl rfl rfl
      go_wp2_with fail
      refine (RT2.out).mono ?_
      rintro e w5 ⟨rfl, hb⟩
      clear c00 c01 c10 c11
      replace FR := Lib.hid (FR.out.step hb)
      replace OW := Lib.hid (own_below OW.out hb)
      clear hb
      have TK2 := Lib.hid (TK.out _ _ _ (rs_own OW.out))
      have c00 : w5.cell? ⟨q, 0, none⟩ = some (.slice (some ⟨g, 0, none⟩) n d) := FR.out.cell 0 0 rfl rfl rfl
      have c01 : w5.cell? ⟨q, 1, none⟩ = some (.int .i64 fr) := FR.out.cell 0 1 rfl rfl rfl
      have c10 : w5.cell? ⟨q + 1, 0, none⟩ = some (.slice none 0 0) := FR.out.cell 1 0 rfl rfl rfl
      have c11 : w5.cell? ⟨q + 1, 1, none⟩ = some (.int .i64 0) := FR.out.cell 1 1 rfl rfl rfl
      go_wp2_with fail
      refine (TK2.out).mono ?_
      rintro e w6 ⟨rfl, hb⟩
      clear c00 c01 c10 c11
      replace FR := Lib.hid (FR.out.step hb)
      replace OW := Lib.hid (own_below OW.out hb)
      clear hb
      have c00 : w6.cell? ⟨q, 0, none⟩ = some (.slice (some ⟨g, 0, none⟩) n d) := FR.out.cell 0 0 rfl rfl rfl
      have c01 : w6.cell? ⟨q, 1, none⟩ = some (.int .i64 fr) := FR.out.cell 0 1 rfl rfl rfl
      have c10 : w6.cell? ⟨q + 1, 0, none⟩ = some (.slice none 0 0) := FR.out.cell 1 0 rfl rfl rfl
      have c11 : w6.cell? ⟨q + 1, 1, none⟩ = some (.int .i64 0) := FR.out.cell 1 1 rfl rfl rfl
      go_wp2
      refine wp_region_noPanic ?_
      refine wp_region_held_drew (S := (fun wv => Hid (Fr w wv q [.cells #[.slice (some ⟨g, 0, none⟩) n d, .int .i64 fr] 24, .cells #[.slice none 0 0, .int .i64 0] 24] ∧ wv.ownsRow (q + 2) 55 3 (.slice (some ⟨g, 0, none⟩) n d) n (recC rs)))) (by kernel_rfl) (Lib.hid ⟨FR.out.drew, ⟨OW.out.1, OW.out.2⟩⟩) (fun hS => ?_)
      refine wpAnyH_take (i := 0) (oi := ⟨some 20, .fieldAddr 24 (.tmp 2) 0, 0, "arena.go:73", #[], none⟩) (v := ?_) rfl (by kernel_rfl) (by kernel_rfl) (by kernel_rfl) (fun _ _ _ h => h) (Or.inl ⟨by rfl, ?_⟩) hS ?_
      rotate_left
      · intro wv _; go_simp; try with_reducible rfl
      try simp only [Act.put, List.setIfInBounds_toArray, List.set_cons_zero, List.set_cons_succ]
      refine wpAnyH_take (i := 1) (oi := ⟨some 21, .load 22 (.tmp 20), 22, "arena.go:73", #[⟨0, .data⟩], none⟩) (v := ?_) rfl (by kernel_rfl) (by kernel_rfl) (by kernel_rfl) (fun _ _ _ h => h) (Or.inl ⟨by rfl, ?_⟩) hS ?_
      rotate_left
      · intro wv hS; have hrun := (show wv.cell? ⟨q, 0, none⟩ = some (.slice (some ⟨g, 0, none⟩) n d) from hS.out.1.cell 0 0 rfl rfl rfl); go_simp; try with_reducible rfl
      try simp only [Act.put, List.setIfInBounds_toArray, List.set_cons_zero, List.set_cons_succ]
      refine wpAnyH_take (i := 2) (oi := ⟨some 22, .move (.tmp 1), 3, "arena.go:73", #[], none⟩) (v := ?_) rfl (by kernel_rfl) (by kernel_rfl) (by kernel_rfl) (fun _ _ _ h => h) (Or.inl ⟨by rfl, ?_⟩) hS ?_
      rotate_left
      · intro wv _; go_simp; try with_reducible rfl
      try simp only [Act.put, List.setIfInBounds_toArray, List.set_cons_zero, List.set_cons_succ]
      refine wpAnyH_ready (rs := [3]) (by kernel_rfl) (by simp) (AllReadyH.cons (o := ⟨some 23, .call { callee := .value (.func 51), args := #[.tmp 22], argTypes := #[3] }, 68, "arena.go:73", #[⟨2, .data⟩], none⟩) rfl (fun K hK => ?_) AllReadyH.nil)
      go_simp
      refine (arnLeads_any _ _).mono ?_; rintro e wa ⟨b, rfl, hcb, hbq, hb⟩
      replace hS := Lib.hid (And.intro (hS.out.1.step hb) (own_below hS.out.2 hb))
      go_wp2_with fail
      refine Shut.out hK _ _ hS (fun _ => ?_)
      clear hK K
      try simp only [Act.put, List.setIfInBounds_toArray, List.set_cons_zero, List.set_cons_succ]
      refine wpAnyH_ready (rs := [4]) (by kernel_rfl) (by simp) (AllReadyH.cons (o := ⟨some 24, .call { callee := .value (.func 50), args := #[.tmp 21, .tmp 23], argTypes := #[22, 68] }, 4, "arena.go:73", #[⟨1, .data⟩, ⟨3, .data⟩, ⟨3, .chain⟩], none⟩) rfl (fun K hK => ?_) AllReadyH.nil)
      go_simp
      refine (CT.out _ _ _ _ (rs_own hS.out.2) hcb).mono ?_; rintro e wc ⟨y, rfl, hy, hb⟩
      replace hS := Lib.hid (And.intro (hS.out.1.step hb) (own_below hS.out.2 hb))
      go_wp2_with fail
      refine Shut.out hK _ _ hS (fun _ => ?_)
      clear hK K
      try simp only [Act.put, List.setIfInBounds_toArray, List.set_cons_zero, List.set_cons_succ]
      refine wpAnyH_take (i := 5) (oi := ⟨some 19, .assign (.tmp 24), 4, "arena.go:73", #[⟨4, .data⟩, ⟨4, .chain⟩], none⟩) (v := ?_) rfl (by kernel_rfl) (by kernel_rfl) (by kernel_rfl) (fun _ _ _ h => h) (Or.inl ⟨by rfl, ?_⟩) hS ?_
      rotate_left
      · intro wv _; go_simp; try with_reducible rfl
      try simp only [Act.put, List.setIfInBounds_toArray, List.set_cons_zero, List.set_cons_succ]
      refine wpAnyH_done (by kernel_rfl) ?_ _
      refine NoPanic.normal ?_
      clear FR OW
      have FR := Lib.hid hS.out.1
      have OW := Lib.hid hS.out.2
      clear hS hb hcb hbq
      clear c00 c01 c10 c11
      have hsz2 := FR.out.sz
      simp only [List.length_cons, List.length_nil] at hsz2
      cases y
      · have HE := Lib.hid (HG.out (fun h => by cases hy.2 h))
        clear hy HT HG
        have hg := (OW.out.lt g (by simp [Value.ownBlock])).1
        have RL := Lib.hid (arnRelease_any q g n d i (q + 2) rs fr wc (FR.out.blk 0 _ rfl) OW.out (by omega) (by omega))
        have c00 : wc.cell? ⟨q, 0, none⟩ = some (.slice (some ⟨g, 0, none⟩) n d) := FR.out.cell 0 0 rfl rfl rfl
        have f00 : wc.frozen? ⟨q, 0, none⟩ = false := FR.out.frozen 0 0 rfl rfl
        have c01 : wc.cell? ⟨q, 1, none⟩ = some (.int .i64 fr) := FR.out.cell 0 1 rfl rfl rfl
        have f01 : wc.frozen? ⟨q, 1, none⟩ = false := FR.out.frozen 0 1 rfl rfl
        have c10 : wc.cell? ⟨q + 1, 0, none⟩ = some (.slice none 0 0) := FR.out.cell 1 0 rfl rfl rfl
        have f10 : wc.frozen? ⟨q + 1, 0, none⟩ = false := FR.out.frozen 1 0 rfl rfl
        have c11 : wc.cell? ⟨q + 1, 1, none⟩ = some (.int .i64 0) := FR.out.cell 1 1 rfl rfl rfl
        have f11 : wc.frozen? ⟨q + 1, 1, none⟩ = false := FR.out.frozen 1 1 rfl rfl
        go_wp2_with fail
        refine RL.out.mono ?_
        rintro e w10 hrel
        clear c00 f00 c01 f01 c10 f10 c11 f11
        have hret := hrel.1
        subst hret
        have hrel2 := hrel
        replace OW := Lib.hid (hrel2.own OW.out (by omega) (by omega))
        replace FR := Lib.hid (show Fr w w10 q [.cells #[.slice (some ⟨g, 0, none⟩) n d, .int .i64 (i : Int)] 24, .cells #[.slice none 0 0, .int .i64 0] 24] from hrel2.fr (k := 0) FR.out rfl rfl (by simp only [List.length_cons, List.length_nil]; omega))
        clear hrel hrel2
        have c00 : w10.cell? ⟨q, 0, none⟩ = some (.slice (some ⟨g, 0, none⟩) n d) := FR.out.cell 0 0 rfl rfl rfl
        have f00 : w10.frozen? ⟨q, 0, none⟩ = false := FR.out.frozen 0 0 rfl rfl
        have c01 : w10.cell? ⟨q, 1, none⟩ = some (.int .i64 (i : Int)) := FR.out.cell 0 1 rfl rfl rfl
        have f01 : w10.frozen? ⟨q, 1, none⟩ = false := FR.out.frozen 0 1 rfl rfl
        have c10 : w10.cell? ⟨q + 1, 0, none⟩ = some (.slice none 0 0) := FR.out.cell 1 0 rfl rfl rfl
        have f10 : w10.frozen? ⟨q + 1, 0, none⟩ = false := FR.out.frozen 1 0 rfl rfl
        have c11 : w10.cell? ⟨q + 1, 1, none⟩ = some (.int .i64 0) := FR.out.cell 1 1 rfl rfl rfl
        have f11 : w10.frozen? ⟨q + 1, 1, none⟩ = false := FR.out.frozen 1 1 rfl rfl
        go_wp2
        have FZ : Fr w ((w10.setCell ⟨q + 1, 0, none⟩ (.slice (some ⟨g, 0, none⟩) n d)).setCell ⟨q + 1, 1, none⟩ (.int .i64 (i : Int))) q [.cells #[.slice (some ⟨g, 0, none⟩) n d, .int .i64 (i : Int)] 24, .cells #[.slice (some ⟨g, 0, none⟩) n d, .int .i64 (i : Int)] 24] := ((FR.out.set 1 0 rfl rfl (.slice (some ⟨g, 0, none⟩) n d)).set 1 1 rfl rfl (.int .i64 (i : Int)))
        refine bodyPost_ret (res_cs Try.results42 (by rfl) (FZ.load 1 rfl rfl Try.underlying24 (by kernel_rfl))) rfl ?_
        rw [HE.out]
        exact ⟨_, _, _, rfl, own_base (own_apart (own_apart (OW.out) (k := q + 1) (o := 0) (u := .slice (some ⟨g, 0, none⟩) n d) (by omega)) (k := q + 1) (o := 1) (u := .int .i64 (i : Int)) (by omega)) (by rw [hq]; omega), FZ.out⟩
      · have HE := Lib.hid (HT.out (hy.1 rfl))
        clear hy HT HG
        have c00 : wc.cell? ⟨q, 0, none⟩ = some (.slice (some ⟨g, 0, none⟩) n d) := FR.out.cell 0 0 rfl rfl rfl
        have f00 : wc.frozen? ⟨q, 0, none⟩ = false := FR.out.frozen 0 0 rfl rfl
        have c01 : wc.cell? ⟨q, 1, none⟩ = some (.int .i64 fr) := FR.out.cell 0 1 rfl rfl rfl
        have f01 : wc.frozen? ⟨q, 1, none⟩ = false := FR.out.frozen 0 1 rfl rfl
        have c10 : wc.cell? ⟨q + 1, 0, none⟩ = some (.slice none 0 0) := FR.out.cell 1 0 rfl rfl rfl
        have f10 : wc.frozen? ⟨q + 1, 0, none⟩ = false := FR.out.frozen 1 0 rfl rfl
        have c11 : wc.cell? ⟨q + 1, 1, none⟩ = some (.int .i64 0) := FR.out.cell 1 1 rfl rfl rfl
        have f11 : wc.frozen? ⟨q + 1, 1, none⟩ = false := FR.out.frozen 1 1 rfl rfl
        go_wp2
        have FZ : Fr w ((wc.setCell ⟨q + 1, 0, none⟩ (.slice (some ⟨g, 0, none⟩) n d)).setCell ⟨q + 1, 1, none⟩ (.int .i64 fr)) q [.cells #[.slice (some ⟨g, 0, none⟩) n d, .int .i64 fr] 24, .cells #[.slice (some ⟨g, 0, none⟩) n d, .int .i64 fr] 24] := ((FR.out.set 1 0 rfl rfl (.slice (some ⟨g, 0, none⟩) n d)).set 1 1 rfl rfl (.int .i64 fr))
        refine bodyPost_ret (res_cs Try.results42 (by rfl) (FZ.load 1 rfl rfl Try.underlying24 (by kernel_rfl))) rfl ?_
        rw [HE.out]
        exact ⟨_, _, _, rfl, own_base (own_apart (own_apart (OW.out) (k := q + 1) (o := 0) (u := .slice (some ⟨g, 0, none⟩) n d) (by omega)) (k := q + 1) (o := 1) (u := .int .i64 fr) (by omega)) (by rw [hq]; omega), FZ.out⟩
end Go.Proofs.Ytombfempdfdeoaa
