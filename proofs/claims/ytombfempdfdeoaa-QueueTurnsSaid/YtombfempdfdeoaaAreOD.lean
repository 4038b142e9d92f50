/- What the program's own Take and Set of layer 7 answer; for slices of up to 16384 records. -/
import Derived.Test.YtombfempdfdeoaaAreOC
namespace Go.Proofs.Ytombfempdfdeoaa
set_option linter.unusedVariables false
set_option linter.unusedSimpArgs false
open Go.RowKit

/-- an arena, a place, and what was wrong; the records are the call's own. -/
def TakeAll (w : World) (r : Aren × Int × Int) (e : Ending) (w' : World) : Prop :=
  ∃ B m d, e = .returned (.tuple #[.agg #[.slice B m d, .int .i64 r.1.2], .int .i64 r.2.1, .int .i64 r.2.2]) ∧ w'.ownsRow w.heap.size 55 3 (.slice B m d) m (recC r.1.1) ∧ Below w.heap.size w w'
def GiveAll (w : World) (r : Aren × Int) (e : Ending) (w' : World) : Prop :=
  ∃ B m d, e = .returned (.tuple #[.agg #[.slice B m d, .int .i64 r.1.2], .int .i64 r.2]) ∧ w'.ownsRow w.heap.size 55 3 (.slice B m d) m (recC r.1.1) ∧ Below w.heap.size w w'
theorem rs_own {w : World} {base n d : Nat} {B : Option Addr} {rs : List Rec3} (h : w.ownsRow base 55 3 (.slice B n d) n (recC rs)) : Rs w B n d rs := by
  obtain ⟨B', d', he, hrs⟩ := rs_of_own h
  injection he with he1 he2 he3; subst he1; subst he3; exact hrs
theorem TakeAll.own {w : World} {r : Aren × Int × Int} {e : Ending} {w' : World} (h : TakeAll w r e w') : TakeOwn w r e w' := by
  obtain ⟨B, m, d, h1, h2, h3⟩ := h; exact ⟨B, m, d, h1, rs_own h2, h3, fun _ => h2⟩
theorem TakeAll.post {w : World} {r : Aren × Int × Int} {e : Ending} {w' : World} (h : TakeAll w r e w') : TakePost w r e w' := by
  obtain ⟨B, m, d, h1, h2, h3⟩ := h; exact ⟨B, m, d, h1, rs_own h2, h3⟩
theorem GiveAll.own {w : World} {r : Aren × Int} {e : Ending} {w' : World} (h : GiveAll w r e w') : GiveOwn w r e w' := by
  obtain ⟨B, m, d, h1, h2, h3⟩ := h; exact ⟨B, m, d, h1, rs_own h2, h3, fun _ => h2⟩
theorem GiveAll.post {w : World} {r : Aren × Int} {e : Ending} {w' : World} (h : GiveAll w r e w') : GivePost w r e w' := by
  obtain ⟨B, m, d, h1, h2, h3⟩ := h; exact ⟨B, m, d, h1, rs_own h2, h3⟩
theorem right_free {rs : List Rec3} {fr : Int} (hr : rightS (rs, fr) = true) (h3 : fr ≠ -1) : 0 ≤ fr ∧ fr < (rs.length : Int) := by
  obtain ⟨l, hok⟩ := Ok.of hr
  cases l with
  | nil => exact absurd hok.chain h3
  | cons x l => obtain ⟨a, b0, b, _⟩ := hok.chain; simp only at a b; omega
theorem own_some {w : World} {base n d k : Nat} {e : TypeId} {B : Option Addr} {cs : List Value} (h : w.ownsRow base e k (.slice B n d) n cs) (hn : 0 < n) : ∃ g, B = some ⟨g, 0, none⟩ := by
  rcases h.2 with ⟨h, h0⟩ | ⟨g, cap, cur, h, _⟩
  · omega
  · injection h with h; exact ⟨g, h⟩
set_option maxRecDepth 100000 in
set_option maxHeartbeats 4000000 in
theorem arnTake_all (A : Option Addr) (n c : Nat) (rs : List Rec3) (fr key task : Int) (w : World) (hx : Rs w A n c rs) (hn : n ≤ 16384) :
    Calls Try.prog 33 #[.agg #[.slice A n c, .int .i64 fr], .int .i64 key, .int .i64 task] w (TakeAll w (arTake (rs, fr) key task)) := by
  have hlen := hx.len
  have RX := Lib.hid hx
  have CP := Lib.hid (fun (W : World) (h : Rs W A n c rs) => arnCopied_any A n c rs fr W h hn)
  have RT := Lib.hid (fun (W : World) (B : Option Addr) (d : Nat) (h : Rs W B n d rs) => arnRight_any B n d rs fr W h hn)
  obtain ⟨R, hR⟩ : ∃ R, arTake (rs, fr) key task = R := ⟨_, rfl⟩
  rw [hR]
  have HR := Lib.hid hR
  have HL := Lib.hid hlen
  clear hx hR hlen
  obtain ⟨v1, hv1⟩ : ∃ W, w.alloc (.cells #[.slice A n c, .int .i64 fr] 24) = W := ⟨_, rfl⟩
  have fr1 : Fr w v1 w.heap.size [.cells #[.slice A n c, .int .i64 fr] 24] := hv1 ▸ Fr.first w _
  have z1 : v1.heap.size = w.heap.size + 1 := by rw [← hv1, Fr.size1]
  obtain ⟨v2, hv2⟩ : ∃ W, v1.alloc (.cells #[.slice none 0 0, .int .i64 0] 24) = W := ⟨_, rfl⟩
  have fr2 : Fr w v2 w.heap.size [.cells #[.slice A n c, .int .i64 fr] 24, .cells #[.slice none 0 0, .int .i64 0] 24] := hv2 ▸ fr1.more z1 _
  have z2 : v2.heap.size = w.heap.size + 2 := by rw [← hv2, Fr.size1, z1]
  generalize hq : w.heap.size = q at *
  have FR := Lib.hid fr2
  clear fr1 fr2
  have CP2 := Lib.hid (CP.out _ (FR.out.es RX.out))
  cases hr : rightS (rs, fr)
  · rw [hr] at RT
    replace RT := Lib.hid RT.out
    have HE := Lib.hid (show R = ((rs, fr), 0, 1) by rw [← HR.out]; unfold arTake; rw [if_pos (Or.inl hr)])
    clear hr
    go_enter Try.func33, Try.ntmps33
    have c00 : v2.cell? ⟨q, 0, none⟩ = some (.slice A n c) := FR.out.cell 0 0 rfl rfl rfl
    have c01 : v2.cell? ⟨q, 1, none⟩ = some (.int .i64 fr) := FR.out.cell 0 1 rfl rfl rfl
    have c10 : v2.cell? ⟨q + 1, 0, none⟩ = some (.slice none 0 0) := FR.out.cell 1 0 rfl rfl rfl
    have c11 : v2.cell? ⟨q + 1, 1, none⟩ = some (.int .i64 0) := FR.out.cell 1 1 rfl rfl rfl
    go_wp2_with fail
    refine CP2.out.mono ?_
    rintro e w3 ⟨B, d, rfl, hown, hb⟩
    clear c00 c01 c10 c11
    have hsz := FR.out.sz
    simp only [List.length_cons, List.length_nil] at hsz
    replace FR := Lib.hid (FR.out.step hb)
    replace hown := own_base hown hsz
    have OW := Lib.hid hown
    clear hb hown hv1 hv2 z1 z2
    have pc00 : w3.cell? ⟨q, 0, none⟩ = some (.slice A n c) := FR.out.cell 0 0 rfl rfl rfl
    have pf00 : w3.frozen? ⟨q, 0, none⟩ = false := FR.out.frozen 0 0 rfl rfl
    have pc01 : w3.cell? ⟨q, 1, none⟩ = some (.int .i64 fr) := FR.out.cell 0 1 rfl rfl rfl
    have pf01 : w3.frozen? ⟨q, 1, none⟩ = false := FR.out.frozen 0 1 rfl rfl
    have hszw4 := FR.out.sz
    simp only [List.length_cons, List.length_nil] at hszw4
    obtain ⟨w4, hw4⟩ : ∃ W, ((w3.setCell ⟨q, 0, none⟩ (.slice B n d)).setCell ⟨q, 1, none⟩ (.int .i64 fr)) = W := ⟨_, rfl⟩
    replace FR := Lib.hid (show Fr w w4 q [.cells #[.slice B n d, .int .i64 fr] 24, .cells #[.slice none 0 0, .int .i64 0] 24] from hw4 ▸ ((FR.out.set 0 0 rfl rfl (.slice B n d)).set 0 1 rfl rfl (.int .i64 fr)))
    replace OW := Lib.hid (hw4 ▸ (own_apart (own_apart OW.out (k := q) (o := 0) (u := .slice B n d) (by omega)) (k := q) (o := 1) (u := .int .i64 fr) (by omega)))
    have RT2 := Lib.hid (RT.out _ _ _ (rs_own OW.out))
    have c00 : w4.cell? ⟨q, 0, none⟩ = some (.slice B n d) := FR.out.cell 0 0 rfl rfl rfl
    have c01 : w4.cell? ⟨q, 1, none⟩ = some (.int .i64 fr) := FR.out.cell 0 1 rfl rfl rfl
    have c10 : w4.cell? ⟨q + 1, 0, none⟩ = some (.slice none 0 0) := FR.out.cell 1 0 rfl rfl rfl
    have c11 : w4.cell? ⟨q + 1, 1, none⟩ = some (.int .i64 0) := FR.out.cell 1 1 rfl rfl rfl
    go_wp2_with fail
    refine (RT2.out).mono ?_
    rintro e w5 ⟨rfl, hb⟩
    clear c00 c01 c10 c11
    replace FR := Lib.hid (FR.out.step hb)
    replace OW := Lib.hid (own_below OW.out hb)
    clear hb
    have c10 : w5.cell? ⟨q + 1, 0, none⟩ = some (.slice none 0 0) := FR.out.cell 1 0 rfl rfl rfl
    have f10 : w5.frozen? ⟨q + 1, 0, none⟩ = false := FR.out.frozen 1 0 rfl rfl
    have c11 : w5.cell? ⟨q + 1, 1, none⟩ = some (.int .i64 0) := FR.out.cell 1 1 rfl rfl rfl
    have f11 : w5.frozen? ⟨q + 1, 1, none⟩ = false := FR.out.frozen 1 1 rfl rfl
    have c00 : w5.cell? ⟨q, 0, none⟩ = some (.slice B n d) := FR.out.cell 0 0 rfl rfl rfl
    have c01 : w5.cell? ⟨q, 1, none⟩ = some (.int .i64 fr) := FR.out.cell 0 1 rfl rfl rfl
    go_wp2
    have FZ : Fr w ((w5.setCell ⟨q + 1, 0, none⟩ (.slice B n d)).setCell ⟨q + 1, 1, none⟩ (.int .i64 fr)) q [.cells #[.slice B n d, .int .i64 fr] 24, .cells #[.slice B n d, .int .i64 fr] 24] := ((FR.out.set 1 0 rfl rfl (.slice B n d)).set 1 1 rfl rfl (.int .i64 fr))
    refine bodyPost_ret (res_css Try.results33 (by rfl) (FZ.load 1 rfl rfl Try.underlying24 (by kernel_rfl))) rfl ?_
    rw [HE.out]
    exact ⟨B, n, d, rfl, own_base (own_apart (own_apart (OW.out) (k := q + 1) (o := 0) (u := .slice B n d) (by omega)) (k := q + 1) (o := 1) (u := .int .i64 fr) (by omega)) (by rw [hq]; omega), FZ.out⟩
  · by_cases h1 : key < 0
    · rw [hr] at RT
      replace RT := Lib.hid RT.out
      have HE := Lib.hid (show R = ((rs, fr), 0, 1) by rw [← HR.out]; unfold arTake; rw [if_pos (Or.inr (Or.inl h1))])
      have b1 : decide (key < 0) = true := by simpa using h1
      clear hr h1
      go_enter Try.func33, Try.ntmps33
      have c00 : v2.cell? ⟨q, 0, none⟩ = some (.slice A n c) := FR.out.cell 0 0 rfl rfl rfl
      have c01 : v2.cell? ⟨q, 1, none⟩ = some (.int .i64 fr) := FR.out.cell 0 1 rfl rfl rfl
      have c10 : v2.cell? ⟨q + 1, 0, none⟩ = some (.slice none 0 0) := FR.out.cell 1 0 rfl rfl rfl
      have c11 : v2.cell? ⟨q + 1, 1, none⟩ = some (.int .i64 0) := FR.out.cell 1 1 rfl rfl rfl
      go_wp2_with fail
      refine CP2.out.mono ?_
      rintro e w3 ⟨B, d, rfl, hown, hb⟩
      clear c00 c01 c10 c11
      have hsz := FR.out.sz
      simp only [List.length_cons, List.length_nil] at hsz
      replace FR := Lib.hid (FR.out.step hb)
      replace hown := own_base hown hsz
      have OW := Lib.hid hown
      clear hb hown hv1 hv2 z1 z2
      have pc00 : w3.cell? ⟨q, 0, none⟩ = some (.slice A n c) := FR.out.cell 0 0 rfl rfl rfl
      have pf00 : w3.frozen? ⟨q, 0, none⟩ = false := FR.out.frozen 0 0 rfl rfl
      have pc01 : w3.cell? ⟨q, 1, none⟩ = some (.int .i64 fr) := FR.out.cell 0 1 rfl rfl rfl
      have pf01 : w3.frozen? ⟨q, 1, none⟩ = false := FR.out.frozen 0 1 rfl rfl
      have hszw4 := FR.out.sz
      simp only [List.length_cons, List.length_nil] at hszw4
      obtain ⟨w4, hw4⟩ : ∃ W, ((w3.setCell ⟨q, 0, none⟩ (.slice B n d)).setCell ⟨q, 1, none⟩ (.int .i64 fr)) = W := ⟨_, rfl⟩
      replace FR := Lib.hid (show Fr w w4 q [.cells #[.slice B n d, .int .i64 fr] 24, .cells #[.slice none 0 0, .int .i64 0] 24] from hw4 ▸ ((FR.out.set 0 0 rfl rfl (.slice B n d)).set 0 1 rfl rfl (.int .i64 fr)))
      replace OW := Lib.hid (hw4 ▸ (own_apart (own_apart OW.out (k := q) (o := 0) (u := .slice B n d) (by omega)) (k := q) (o := 1) (u := .int .i64 fr) (by omega)))
      have RT2 := Lib.hid (RT.out _ _ _ (rs_own OW.out))
      have c00 : w4.cell? ⟨q, 0, none⟩ = some (.slice B n d) := FR.out.cell 0 0 rfl rfl rfl
      have c01 : w4.cell? ⟨q, 1, none⟩ = some (.int .i64 fr) := FR.out.cell 0 1 rfl rfl rfl
      have c10 : w4.cell? ⟨q + 1, 0, none⟩ = some (.slice none 0 0) := FR.out.cell 1 0 rfl rfl rfl
      have c11 : w4.cell? ⟨q + 1, 1, none⟩ = some (.int .i64 0) := FR.out.cell 1 1 rfl rfl rfl
      go_wp2_with fail
      refine (RT2.out).mono ?_
      rintro e w5 ⟨rfl, hb⟩
      clear c00 c01 c10 c11
      replace FR := Lib.hid (FR.out.step hb)
      replace OW := Lib.hid (own_below OW.out hb)
      clear hb
      have c10 : w5.cell? ⟨q + 1, 0, none⟩ = some (.slice none 0 0) := FR.out.cell 1 0 rfl rfl rfl
      have f10 : w5.frozen? ⟨q + 1, 0, none⟩ = false := FR.out.frozen 1 0 rfl rfl
      have c11 : w5.cell? ⟨q + 1, 1, none⟩ = some (.int .i64 0) := FR.out.cell 1 1 rfl rfl rfl
      have f11 : w5.frozen? ⟨q + 1, 1, none⟩ = false := FR.out.frozen 1 1 rfl rfl
      have c00 : w5.cell? ⟨q, 0, none⟩ = some (.slice B n d) := FR.out.cell 0 0 rfl rfl rfl
      have c01 : w5.cell? ⟨q, 1, none⟩ = some (.int .i64 fr) := FR.out.cell 0 1 rfl rfl rfl
      go_wp2
      have FZ : Fr w ((w5.setCell ⟨q + 1, 0, none⟩ (.slice B n d)).setCell ⟨q + 1, 1, none⟩ (.int .i64 fr)) q [.cells #[.slice B n d, .int .i64 fr] 24, .cells #[.slice B n d, .int .i64 fr] 24] := ((FR.out.set 1 0 rfl rfl (.slice B n d)).set 1 1 rfl rfl (.int .i64 fr))
      refine bodyPost_ret (res_css Try.results33 (by rfl) (FZ.load 1 rfl rfl Try.underlying24 (by kernel_rfl))) rfl ?_
      rw [HE.out]
      exact ⟨B, n, d, rfl, own_base (own_apart (own_apart (OW.out) (k := q + 1) (o := 0) (u := .slice B n d) (by omega)) (k := q + 1) (o := 1) (u := .int .i64 fr) (by omega)) (by rw [hq]; omega), FZ.out⟩
    · have b1 : decide (key < 0) = false := by simpa using h1
      by_cases h2 : task < 0
      · rw [hr] at RT
        replace RT := Lib.hid RT.out
        have HE := Lib.hid (show R = ((rs, fr), 0, 1) by rw [← HR.out]; unfold arTake; rw [if_pos (Or.inr (Or.inr h2))])
        have b2 : decide (task < 0) = true := by simpa using h2
        clear hr h1 h2
        go_enter Try.func33, Try.ntmps33
        have c00 : v2.cell? ⟨q, 0, none⟩ = some (.slice A n c) := FR.out.cell 0 0 rfl rfl rfl
        have c01 : v2.cell? ⟨q, 1, none⟩ = some (.int .i64 fr) := FR.out.cell 0 1 rfl rfl rfl
        have c10 : v2.cell? ⟨q + 1, 0, none⟩ = some (.slice none 0 0) := FR.out.cell 1 0 rfl rfl rfl
        have c11 : v2.cell? ⟨q + 1, 1, none⟩ = some (.int .i64 0) := FR.out.cell 1 1 rfl rfl rfl
        go_wp2_with fail
        refine CP2.out.mono ?_
        rintro e w3 ⟨B, d, rfl, hown, hb⟩
        clear c00 c01 c10 c11
        have hsz := FR.out.sz
        simp only [List.length_cons, List.length_nil] at hsz
        replace FR := Lib.hid (FR.out.step hb)
        replace hown := own_base hown hsz
        have OW := Lib.hid hown
        clear hb hown hv1 hv2 z1 z2
        have pc00 : w3.cell? ⟨q, 0, none⟩ = some (.slice A n c) := FR.out.cell 0 0 rfl rfl rfl
        have pf00 : w3.frozen? ⟨q, 0, none⟩ = false := FR.out.frozen 0 0 rfl rfl
        have pc01 : w3.cell? ⟨q, 1, none⟩ = some (.int .i64 fr) := FR.out.cell 0 1 rfl rfl rfl
        have pf01 : w3.frozen? ⟨q, 1, none⟩ = false := FR.out.frozen 0 1 rfl rfl
        have hszw4 := FR.out.sz
        simp only [List.length_cons, List.length_nil] at hszw4
        obtain ⟨w4, hw4⟩ : ∃ W, ((w3.setCell ⟨q, 0, none⟩ (.slice B n d)).setCell ⟨q, 1, none⟩ (.int .i64 fr)) = W := ⟨_, rfl⟩
        replace FR := Lib.hid (show Fr w w4 q [.cells #[.slice B n d, .int .i64 fr] 24, .cells #[.slice none 0 0, .int .i64 0] 24] from hw4 ▸ ((FR.out.set 0 0 rfl rfl (.slice B n d)).set 0 1 rfl rfl (.int .i64 fr)))
        replace OW := Lib.hid (hw4 ▸ (own_apart (own_apart OW.out (k := q) (o := 0) (u := .slice B n d) (by omega)) (k := q) (o := 1) (u := .int .i64 fr) (by omega)))
        have RT2 := Lib.hid (RT.out _ _ _ (rs_own OW.out))
        have c00 : w4.cell? ⟨q, 0, none⟩ = some (.slice B n d) := FR.out.cell 0 0 rfl rfl rfl
        have c01 : w4.cell? ⟨q, 1, none⟩ = some (.int .i64 fr) := FR.out.cell 0 1 rfl rfl rfl
        have c10 : w4.cell? ⟨q + 1, 0, none⟩ = some (.slice none 0 0) := FR.out.cell 1 0 rfl rfl rfl
        have c11 : w4.cell? ⟨q + 1, 1, none⟩ = some (.int .i64 0) := FR.out.cell 1 1 rfl rfl rfl
        go_wp2_with fail
        refine (RT2.out).mono ?_
        rintro e w5 ⟨rfl, hb⟩
        clear c00 c01 c10 c11
        replace FR := Lib.hid (FR.out.step hb)
        replace OW := Lib.hid (own_below OW.out hb)
        clear hb
        have c10 : w5.cell? ⟨q + 1, 0, none⟩ = some (.slice none 0 0) := FR.out.cell 1 0 rfl rfl rfl
        have f10 : w5.frozen? ⟨q + 1, 0, none⟩ = false := FR.out.frozen 1 0 rfl rfl
        have c11 : w5.cell? ⟨q + 1, 1, none⟩ = some (.int .i64 0) := FR.out.cell 1 1 rfl rfl rfl
        have f11 : w5.frozen? ⟨q + 1, 1, none⟩ = false := FR.out.frozen 1 1 rfl rfl
        have c00 : w5.cell? ⟨q, 0, none⟩ = some (.slice B n d) := FR.out.cell 0 0 rfl rfl rfl
        have c01 : w5.cell? ⟨q, 1, none⟩ = some (.int .i64 fr) := FR.out.cell 0 1 rfl rfl rfl
        go_wp2
        have FZ : Fr w ((w5.setCell ⟨q + 1, 0, none⟩ (.slice B n d)).setCell ⟨q + 1, 1, none⟩ (.int .i64 fr)) q [.cells #[.slice B n d, .int .i64 fr] 24, .cells #[.slice B n d, .int .i64 fr] 24] := ((FR.out.set 1 0 rfl rfl (.slice B n d)).set 1 1 rfl rfl (.int .i64 fr))
        refine bodyPost_ret (res_css Try.results33 (by rfl) (FZ.load 1 rfl rfl Try.underlying24 (by kernel_rfl))) rfl ?_
        rw [HE.out]
        exact ⟨B, n, d, rfl, own_base (own_apart (own_apart (OW.out) (k := q + 1) (o := 0) (u := .slice B n d) (by omega)) (k := q + 1) (o := 1) (u := .int .i64 fr) (by omega)) (by rw [hq]; omega), FZ.out⟩
      · have b2 : decide (task < 0) = false := by simpa using h2
        by_cases h3 : fr = -1
        · rw [hr] at RT
          replace RT := Lib.hid RT.out
          have HE := Lib.hid (show R = ((rs, fr), 0, 6) by rw [← HR.out]; unfold arTake; rw [if_neg (by simp [hr, h1, h2]), if_pos h3])
          have b3 : (fr == -1) = true := by simp [h3]
          clear hr h1 h2 h3
          go_enter Try.func33, Try.ntmps33
          have c00 : v2.cell? ⟨q, 0, none⟩ = some (.slice A n c) := FR.out.cell 0 0 rfl rfl rfl
          have c01 : v2.cell? ⟨q, 1, none⟩ = some (.int .i64 fr) := FR.out.cell 0 1 rfl rfl rfl
          have c10 : v2.cell? ⟨q + 1, 0, none⟩ = some (.slice none 0 0) := FR.out.cell 1 0 rfl rfl rfl
          have c11 : v2.cell? ⟨q + 1, 1, none⟩ = some (.int .i64 0) := FR.out.cell 1 1 rfl rfl rfl
          go_wp2_with fail
          refine CP2.out.mono ?_
          rintro e w3 ⟨B, d, rfl, hown, hb⟩
          clear c00 c01 c10 c11
          have hsz := FR.out.sz
          simp only [List.length_cons, List.length_nil] at hsz
          replace FR := Lib.hid (FR.out.step hb)
          replace hown := own_base hown hsz
          have OW := Lib.hid hown
          clear hb hown hv1 hv2 z1 z2
          have pc00 : w3.cell? ⟨q, 0, none⟩ = some (.slice A n c) := FR.out.cell 0 0 rfl rfl rfl
          have pf00 : w3.frozen? ⟨q, 0, none⟩ = false := FR.out.frozen 0 0 rfl rfl
          have pc01 : w3.cell? ⟨q, 1, none⟩ = some (.int .i64 fr) := FR.out.cell 0 1 rfl rfl rfl
          have pf01 : w3.frozen? ⟨q, 1, none⟩ = false := FR.out.frozen 0 1 rfl rfl
          have hszw4 := FR.out.sz
          simp only [List.length_cons, List.length_nil] at hszw4
          obtain ⟨w4, hw4⟩ : ∃ W, ((w3.setCell ⟨q, 0, none⟩ (.slice B n d)).setCell ⟨q, 1, none⟩ (.int .i64 fr)) = W := ⟨_, rfl⟩
          replace FR := Lib.hid (show Fr w w4 q [.cells #[.slice B n d, .int .i64 fr] 24, .cells #[.slice none 0 0, .int .i64 0] 24] from hw4 ▸ ((FR.out.set 0 0 rfl rfl (.slice B n d)).set 0 1 rfl rfl (.int .i64 fr)))
          replace OW := Lib.hid (hw4 ▸ (own_apart (own_apart OW.out (k := q) (o := 0) (u := .slice B n d) (by omega)) (k := q) (o := 1) (u := .int .i64 fr) (by omega)))
          have RT2 := Lib.hid (RT.out _ _ _ (rs_own OW.out))
          have c00 : w4.cell? ⟨q, 0, none⟩ = some (.slice B n d) := FR.out.cell 0 0 rfl rfl rfl
          have c01 : w4.cell? ⟨q, 1, none⟩ = some (.int .i64 fr) := FR.out.cell 0 1 rfl rfl rfl
          have c10 : w4.cell? ⟨q + 1, 0, none⟩ = some (.slice none 0 0) := FR.out.cell 1 0 rfl rfl rfl
          have c11 : w4.cell? ⟨q + 1, 1, none⟩ = some (.int .i64 0) := FR.out.cell 1 1 rfl rfl rfl
          go_wp2_with fail
          refine (RT2.out).mono ?_
          rintro e w5 ⟨rfl, hb⟩
          clear c00 c01 c10 c11
          replace FR := Lib.hid (FR.out.step hb)
          replace OW := Lib.hid (own_below OW.out hb)
          clear hb
          have c10 : w5.cell? ⟨q + 1, 0, none⟩ = some (.slice none 0 0) := FR.out.cell 1 0 rfl rfl rfl
          have f10 : w5.frozen? ⟨q + 1, 0, none⟩ = false := FR.out.frozen 1 0 rfl rfl
          have c11 : w5.cell? ⟨q + 1, 1, none⟩ = some (.int .i64 0) := FR.out.cell 1 1 rfl rfl rfl
          have f11 : w5.frozen? ⟨q + 1, 1, none⟩ = false := FR.out.frozen 1 1 rfl rfl
          have c00 : w5.cell? ⟨q, 0, none⟩ = some (.slice B n d) := FR.out.cell 0 0 rfl rfl rfl
          have c01 : w5.cell? ⟨q, 1, none⟩ = some (.int .i64 fr) := FR.out.cell 0 1 rfl rfl rfl
          go_wp2
          have FZ : Fr w ((w5.setCell ⟨q + 1, 0, none⟩ (.slice B n d)).setCell ⟨q + 1, 1, none⟩ (.int .i64 fr)) q [.cells #[.slice B n d, .int .i64 fr] 24, .cells #[.slice B n d, .int .i64 fr] 24] := ((FR.out.set 1 0 rfl rfl (.slice B n d)).set 1 1 rfl rfl (.int .i64 fr))
          refine bodyPost_ret (res_css Try.results33 (by rfl) (FZ.load 1 rfl rfl Try.underlying24 (by kernel_rfl))) rfl ?_
          rw [HE.out]
          exact ⟨B, n, d, rfl, own_base (own_apart (own_apart (OW.out) (k := q + 1) (o := 0) (u := .slice B n d) (by omega)) (k := q + 1) (o := 1) (u := .int .i64 fr) (by omega)) (by rw [hq]; omega), FZ.out⟩
        · have b3 : (fr == -1) = false := by simp [h3]
          have hfr := right_free hr h3
          rw [HL.out] at hfr
          obtain ⟨i, rfl⟩ : ∃ i : Nat, fr = i := ⟨fr.toNat, by omega⟩
          have HE := Lib.hid (show R = ((rs.set i (key, task, -1), (recAt rs i).2.2), (i : Int), 0) by rw [← HR.out]; unfold arTake; rw [if_neg (by simp [hr, h1, h2]), if_neg h3]; rfl)
          have hi0 : (0 : Int) ≤ (i : Int) := hfr.1
          have hi1 : (i : Int) < (n : Int) := hfr.2
          rw [hr] at RT
          replace RT := Lib.hid RT.out
          clear hr h1 h2 h3 hfr
          go_enter Try.func33, Try.ntmps33
          have c00 : v2.cell? ⟨q, 0, none⟩ = some (.slice A n c) := FR.out.cell 0 0 rfl rfl rfl
          have c01 : v2.cell? ⟨q, 1, none⟩ = some (.int .i64 (i : Int)) := FR.out.cell 0 1 rfl rfl rfl
          have c10 : v2.cell? ⟨q + 1, 0, none⟩ = some (.slice none 0 0) := FR.out.cell 1 0 rfl rfl rfl
          have c11 : v2.cell? ⟨q + 1, 1, none⟩ = some (.int .i64 0) := FR.out.cell 1 1 rfl rfl rfl
          go_wp2_with fail
          refine CP2.out.mono ?_
          rintro e w3 ⟨B, d, rfl, hown, hb⟩
          clear c00 c01 c10 c11
          have hsz := FR.out.sz
          simp only [List.length_cons, List.length_nil] at hsz
          replace FR := Lib.hid (FR.out.step hb)
          replace hown := own_base hown hsz
          have OW := Lib.hid hown
          clear hb hown hv1 hv2 z1 z2
          obtain ⟨g, rfl⟩ := own_some OW.out (by omega)
          have pc00 : w3.cell? ⟨q, 0, none⟩ = some (.slice A n c) := FR.out.cell 0 0 rfl rfl rfl
          have pf00 : w3.frozen? ⟨q, 0, none⟩ = false := FR.out.frozen 0 0 rfl rfl
          have pc01 : w3.cell? ⟨q, 1, none⟩ = some (.int .i64 (i : Int)) := FR.out.cell 0 1 rfl rfl rfl
          have pf01 : w3.frozen? ⟨q, 1, none⟩ = false := FR.out.frozen 0 1 rfl rfl
          have hszw4 := FR.out.sz
          simp only [List.length_cons, List.length_nil] at hszw4
          obtain ⟨w4, hw4⟩ : ∃ W, ((w3.setCell ⟨q, 0, none⟩ (.slice (some ⟨g, 0, none⟩) n d)).setCell ⟨q, 1, none⟩ (.int .i64 (i : Int))) = W := ⟨_, rfl⟩
          replace FR := Lib.hid (show Fr w w4 q [.cells #[.slice (some ⟨g, 0, none⟩) n d, .int .i64 (i : Int)] 24, .cells #[.slice none 0 0, .int .i64 0] 24] from hw4 ▸ ((FR.out.set 0 0 rfl rfl (.slice (some ⟨g, 0, none⟩) n d)).set 0 1 rfl rfl (.int .i64 (i : Int))))
          replace OW := Lib.hid (hw4 ▸ (own_apart (own_apart OW.out (k := q) (o := 0) (u := .slice (some ⟨g, 0, none⟩) n d) (by omega)) (k := q) (o := 1) (u := .int .i64 (i : Int)) (by omega)))
          have RT2 := Lib.hid (RT.out _ _ _ (rs_own OW.out))
          have c00 : w4.cell? ⟨q, 0, none⟩ = some (.slice (some ⟨g, 0, none⟩) n d) := FR.out.cell 0 0 rfl rfl rfl
          have c01 : w4.cell? ⟨q, 1, none⟩ = some (.int .i64 (i : Int)) := FR.out.cell 0 1 rfl rfl rfl
          have c10 : w4.cell? ⟨q + 1, 0, none⟩ = some (.slice none 0 0) := FR.out.cell 1 0 rfl rfl rfl
          have c11 : w4.cell? ⟨q + 1, 1, none⟩ = some (.int .i64 0) := FR.out.cell 1 1 rfl rfl rfl
          go_wp2_with fail
          refine (RT2.out).mono ?_
          rintro e w5 ⟨rfl, hb⟩
          clear c00 c01 c10 c11
          replace FR := Lib.hid (FR.out.step hb)
          replace OW := Lib.hid (own_below OW.out hb)
          clear hb
          have hsz2 := FR.out.sz
          simp only [List.length_cons, List.length_nil] at hsz2
          obtain ⟨e0, e1, e2⟩ := recC_at rs i (by have := HL.out; omega)
          have g0 := (OW.out.cellAt (i * 3) (by omega)).trans e0
          have ff0 := OW.out.frozenAt (i * 3)
          have g1 := (OW.out.cellAt (i * 3 + 1) (by omega)).trans e1
          have ff1 := OW.out.frozenAt (i * 3 + 1)
          have g2 := (OW.out.cellAt (i * 3 + 2) (by omega)).trans e2
          have ff2 := OW.out.frozenAt (i * 3 + 2)
          have hg := (OW.out.lt g (by simp [Value.ownBlock])).1
          have q2 : g ≠ q := by omega
          have q3 : g ≠ q + 1 := by omega
          have q2' := q2.symm; have q3' := q3.symm
          clear e0 e1 e2
          have c00 : w5.cell? ⟨q, 0, none⟩ = some (.slice (some ⟨g, 0, none⟩) n d) := FR.out.cell 0 0 rfl rfl rfl
          have f00 : w5.frozen? ⟨q, 0, none⟩ = false := FR.out.frozen 0 0 rfl rfl
          have c01 : w5.cell? ⟨q, 1, none⟩ = some (.int .i64 (i : Int)) := FR.out.cell 0 1 rfl rfl rfl
          have f01 : w5.frozen? ⟨q, 1, none⟩ = false := FR.out.frozen 0 1 rfl rfl
          have c10 : w5.cell? ⟨q + 1, 0, none⟩ = some (.slice none 0 0) := FR.out.cell 1 0 rfl rfl rfl
          have f10 : w5.frozen? ⟨q + 1, 0, none⟩ = false := FR.out.frozen 1 0 rfl rfl
          have c11 : w5.cell? ⟨q + 1, 1, none⟩ = some (.int .i64 0) := FR.out.cell 1 1 rfl rfl rfl
          have f11 : w5.frozen? ⟨q + 1, 1, none⟩ = false := FR.out.frozen 1 1 rfl rfl
          go_wp2
          have FZ : Fr w ((((((w5.setCell ⟨q, 1, none⟩ (.int .i64 (recAt rs i).2.2)).setCell ⟨g, i * 3, none⟩ (.int .i64 key)).setCell ⟨g, i * 3 + 1, none⟩ (.int .i64 task)).setCell ⟨g, i * 3 + 2, none⟩ (.int .i64 (-1))).setCell ⟨q + 1, 0, none⟩ (.slice (some ⟨g, 0, none⟩) n d)).setCell ⟨q + 1, 1, none⟩ (.int .i64 (recAt rs i).2.2)) q [.cells #[.slice (some ⟨g, 0, none⟩) n d, .int .i64 (recAt rs i).2.2] 24, .cells #[.slice (some ⟨g, 0, none⟩) n d, .int .i64 (recAt rs i).2.2] 24] := ((((((FR.out.set 0 1 rfl rfl (.int .i64 (recAt rs i).2.2)).other (b := g) (j := i * 3) (by first | (simp only [List.length_set, List.length_cons, List.length_nil]; omega) | (simp; omega)) (.int .i64 key)).other (b := g) (j := i * 3 + 1) (by first | (simp only [List.length_set, List.length_cons, List.length_nil]; omega) | (simp; omega)) (.int .i64 task)).other (b := g) (j := i * 3 + 2) (by first | (simp only [List.length_set, List.length_cons, List.length_nil]; omega) | (simp; omega)) (.int .i64 (-1))).set 1 0 rfl rfl (.slice (some ⟨g, 0, none⟩) n d)).set 1 1 rfl rfl (.int .i64 (recAt rs i).2.2))
          refine bodyPost_ret (res_css Try.results33 (by rfl) (FZ.load 1 rfl rfl Try.underlying24 (by kernel_rfl))) rfl ?_
          have own6 := own_apart OW.out (k := q) (o := 1) (u := .int .i64 (recAt rs i).2.2) (by omega)
          have own7 := (((own6.stored (i * 3) (.int .i64 key)).1.stored (i * 3 + 1) (.int .i64 task)).1.stored (i * 3 + 2) (.int .i64 (-1))).1
          rw [← recC_set rs i (key, task, -1) (by have := HL.out; omega)] at own7
          rw [HE.out]
          exact ⟨_, _, _, rfl, own_base (own_apart (own_apart (own7) (k := q + 1) (o := 0) (u := .slice (some ⟨g, 0, none⟩) n d) (by omega)) (k := q + 1) (o := 1) (u := .int .i64 (recAt rs i).2.2) (by omega)) (by rw [hq]; omega), FZ.out⟩
set_option maxRecDepth 100000 in
set_option maxHeartbeats 4000000 in
theorem arnSet_all (A : Option Addr) (n c : Nat) (rs : List Rec3) (fr i next : Int) (w : World) (hx : Rs w A n c rs) (hn : n ≤ 16384) :
    Calls Try.prog 34 #[.agg #[.slice A n c, .int .i64 fr], .int .i64 i, .int .i64 next] w (GiveAll w (arSet (rs, fr) i next)) := by
  have hlen := hx.len
  have RX := Lib.hid hx
  have CP := Lib.hid (fun (W : World) (h : Rs W A n c rs) => arnCopied_any A n c rs fr W h hn)
  have RT := Lib.hid (fun (W : World) (B : Option Addr) (d : Nat) (h : Rs W B n d rs) => arnRight_any B n d rs fr W h hn)
  have TK := Lib.hid (fun (W : World) (B : Option Addr) (d : Nat) (h : Rs W B n d rs) => arnTaken_any B n d rs fr i W h hn)
  have LD := Lib.hid (fun (W : World) (B : Option Addr) (d : Nat) (h : Rs W B n d rs) => arnLead_any B n d rs fr next W h hn)
  obtain ⟨R, hR⟩ : ∃ R, arSet (rs, fr) i next = R := ⟨_, rfl⟩
  rw [hR]
  have HR := Lib.hid hR
  have HL := Lib.hid hlen
  clear hx hR hlen
  obtain ⟨v1, hv1⟩ : ∃ W, w.alloc (.cells #[.slice A n c, .int .i64 fr] 24) = W := ⟨_, rfl⟩
  have fr1 : Fr w v1 w.heap.size [.cells #[.slice A n c, .int .i64 fr] 24] := hv1 ▸ Fr.first w _
  have z1 : v1.heap.size = w.heap.size + 1 := by rw [← hv1, Fr.size1]
  obtain ⟨v2, hv2⟩ : ∃ W, v1.alloc (.cells #[.slice none 0 0, .int .i64 0] 24) = W := ⟨_, rfl⟩
  have fr2 : Fr w v2 w.heap.size [.cells #[.slice A n c, .int .i64 fr] 24, .cells #[.slice none 0 0, .int .i64 0] 24] := hv2 ▸ fr1.more z1 _
  have z2 : v2.heap.size = w.heap.size + 2 := by rw [← hv2, Fr.size1, z1]
  generalize hq : w.heap.size = q at *
  have FR := Lib.hid fr2
  clear fr1 fr2
  have CP2 := Lib.hid (CP.out _ (FR.out.es RX.out))
  cases hr : rightS (rs, fr)
  · rw [hr] at RT
    replace RT := Lib.hid RT.out
    have HE := Lib.hid (show R = ((rs, fr), 1) by rw [← HR.out]; unfold arSet; rw [if_pos hr])
    clear hr TK LD
    go_enter Try.func34, Try.ntmps34
    have c00 : v2.cell? ⟨q, 0, none⟩ = some (.slice A n c) := FR.out.cell 0 0 rfl rfl rfl
    have c01 : v2.cell? ⟨q, 1, none⟩ = some (.int .i64 fr) := FR.out.cell 0 1 rfl rfl rfl
    have c10 : v2.cell? ⟨q + 1, 0, none⟩ = some (.slice none 0 0) := FR.out.cell 1 0 rfl rfl rfl
    have c11 : v2.cell? ⟨q + 1, 1, none⟩ = some (.int .i64 0) := FR.out.cell 1 1 rfl rfl rfl
    go_wp2_with fail
    refine CP2.out.mono ?_
    rintro e w3 ⟨B, d, rfl, hown, hb⟩
    clear c00 c01 c10 c11
    have hsz := FR.out.sz
    simp only [List.length_cons, List.length_nil] at hsz
    replace FR := Lib.hid (FR.out.step hb)
    replace hown := own_base hown hsz
    have OW := Lib.hid hown
    clear hb hown hv1 hv2 z1 z2
    have pc00 : w3.cell? ⟨q, 0, none⟩ = some (.slice A n c) := FR.out.cell 0 0 rfl rfl rfl
    have pf00 : w3.frozen? ⟨q, 0, none⟩ = false := FR.out.frozen 0 0 rfl rfl
    have pc01 : w3.cell? ⟨q, 1, none⟩ = some (.int .i64 fr) := FR.out.cell 0 1 rfl rfl rfl
    have pf01 : w3.frozen? ⟨q, 1, none⟩ = false := FR.out.frozen 0 1 rfl rfl
    have hszw4 := FR.out.sz
    simp only [List.length_cons, List.length_nil] at hszw4
    obtain ⟨w4, hw4⟩ : ∃ W, ((w3.setCell ⟨q, 0, none⟩ (.slice B n d)).setCell ⟨q, 1, none⟩ (.int .i64 fr)) = W := ⟨_, rfl⟩
    replace FR := Lib.hid (show Fr w w4 q [.cells #[.slice B n d, .int .i64 fr] 24, .cells #[.slice none 0 0, .int .i64 0] 24] from hw4 ▸ ((FR.out.set 0 0 rfl rfl (.slice B n d)).set 0 1 rfl rfl (.int .i64 fr)))
    replace OW := Lib.hid (hw4 ▸ (own_apart (own_apart OW.out (k := q) (o := 0) (u := .slice B n d) (by omega)) (k := q) (o := 1) (u := .int .i64 fr) (by omega)))
    have RT2 := Lib.hid (RT.out _ _ _ (rs_own OW.out))
    have c00 : w4.cell? ⟨q, 0, none⟩ = some (.slice B n d) := FR.out.cell 0 0 rfl rfl rfl
    have c01 : w4.cell? ⟨q, 1, none⟩ = some (.int .i64 fr) := FR.out.cell 0 1 rfl rfl rfl
    have c10 : w4.cell? ⟨q + 1, 0, none⟩ = some (.slice none 0 0) := FR.out.cell 1 0 rfl rfl rfl
    have c11 : w4.cell? ⟨q + 1, 1, none⟩ = some (.int .i64 0) := FR.out.cell 1 1 rfl rfl rfl
    go_wp2_with fail
    refine (RT2.out).mono ?_
    rintro e w5 ⟨rfl, hb⟩
    clear c00 c01 c10 c11
    replace FR := Lib.hid (FR.out.step hb)
    replace OW := Lib.hid (own_below OW.out hb)
    clear hb
    have c10 : w5.cell? ⟨q + 1, 0, none⟩ = some (.slice none 0 0) := FR.out.cell 1 0 rfl rfl rfl
    have f10 : w5.frozen? ⟨q + 1, 0, none⟩ = false := FR.out.frozen 1 0 rfl rfl
    have c11 : w5.cell? ⟨q + 1, 1, none⟩ = some (.int .i64 0) := FR.out.cell 1 1 rfl rfl rfl
    have f11 : w5.frozen? ⟨q + 1, 1, none⟩ = false := FR.out.frozen 1 1 rfl rfl
    have c00 : w5.cell? ⟨q, 0, none⟩ = some (.slice B n d) := FR.out.cell 0 0 rfl rfl rfl
    have c01 : w5.cell? ⟨q, 1, none⟩ = some (.int .i64 fr) := FR.out.cell 0 1 rfl rfl rfl
    go_wp2
    have FZ : Fr w ((w5.setCell ⟨q + 1, 0, none⟩ (.slice B n d)).setCell ⟨q + 1, 1, none⟩ (.int .i64 fr)) q [.cells #[.slice B n d, .int .i64 fr] 24, .cells #[.slice B n d, .int .i64 fr] 24] := ((FR.out.set 1 0 rfl rfl (.slice B n d)).set 1 1 rfl rfl (.int .i64 fr))
    refine bodyPost_ret (res_cs Try.results34 (by rfl) (FZ.load 1 rfl rfl Try.underlying24 (by kernel_rfl))) rfl ?_
    rw [HE.out]
    exact ⟨B, n, d, rfl, own_base (own_apart (own_apart (OW.out) (k := q + 1) (o := 0) (u := .slice B n d) (by omega)) (k := q + 1) (o := 1) (u := .int .i64 fr) (by omega)) (by rw [hq]; omega), FZ.out⟩
  · rw [hr] at RT
    replace RT := Lib.hid RT.out
    have TKE := live_taken hr i
    cases hl : liveS (rs, fr) i
    · rw [TKE, hl] at TK
      replace TK := Lib.hid TK.out
      have HE := Lib.hid (show R = ((rs, fr), 7) by rw [← HR.out]; unfold arSet; rw [if_neg (by simp [hr]), if_pos hl])
      clear hr hl TKE LD
      go_enter Try.func34, Try.ntmps34
      have c00 : v2.cell? ⟨q, 0, none⟩ = some (.slice A n c) := FR.out.cell 0 0 rfl rfl rfl
      have c01 : v2.cell? ⟨q, 1, none⟩ = some (.int .i64 fr) := FR.out.cell 0 1 rfl rfl rfl
      have c10 : v2.cell? ⟨q + 1, 0, none⟩ = some (.slice none 0 0) := FR.out.cell 1 0 rfl rfl rfl
      have c11 : v2.cell? ⟨q + 1, 1, none⟩ = some (.int .i64 0) := FR.out.cell 1 1 rfl rfl rfl
      go_wp2_with fail
      refine CP2.out.mono ?_
      rintro e w3 ⟨B, d, rfl, hown, hb⟩
      clear c00 c01 c10 c11
      have hsz := FR.out.sz
      simp only [List.length_cons, List.length_nil] at hsz
      replace FR := Lib.hid (FR.out.step hb)
      replace hown := own_base hown hsz
      have OW := Lib.hid hown
      clear hb hown hv1 hv2 z1 z2
      have pc00 : w3.cell? ⟨q, 0, none⟩ = some (.slice A n c) := FR.out.cell 0 0 rfl rfl rfl
      have pf00 : w3.frozen? ⟨q, 0, none⟩ = false := FR.out.frozen 0 0 rfl rfl
      have pc01 : w3.cell? ⟨q, 1, none⟩ = some (.int .i64 fr) := FR.out.cell 0 1 rfl rfl rfl
      have pf01 : w3.frozen? ⟨q, 1, none⟩ = false := FR.out.frozen 0 1 rfl rfl
      have hszw4 := FR.out.sz
      simp only [List.length_cons, List.length_nil] at hszw4
      obtain ⟨w4, hw4⟩ : ∃ W, ((w3.setCell ⟨q, 0, none⟩ (.slice B n d)).setCell ⟨q, 1, none⟩ (.int .i64 fr)) = W := ⟨_, rfl⟩
      replace FR := Lib.hid (show Fr w w4 q [.cells #[.slice B n d, .int .i64 fr] 24, .cells #[.slice none 0 0, .int .i64 0] 24] from hw4 ▸ ((FR.out.set 0 0 rfl rfl (.slice B n d)).set 0 1 rfl rfl (.int .i64 fr)))
      replace OW := Lib.hid (hw4 ▸ (own_apart (own_apart OW.out (k := q) (o := 0) (u := .slice B n d) (by omega)) (k := q) (o := 1) (u := .int .i64 fr) (by omega)))
      have RT2 := Lib.hid (RT.out _ _ _ (rs_own OW.out))
      have c00 : w4.cell? ⟨q, 0, none⟩ = some (.slice B n d) := FR.out.cell 0 0 rfl rfl rfl
      have c01 : w4.cell? ⟨q, 1, none⟩ = some (.int .i64 fr) := FR.out.cell 0 1 rfl rfl rfl
      have c10 : w4.cell? ⟨q + 1, 0, none⟩ = some (.slice none 0 0) := FR.out.cell 1 0 rfl rfl rfl
      have c11 : w4.cell? ⟨q + 1, 1, none⟩ = some (.int .i64 0) := FR.out.cell 1 1 rfl rfl rfl
      go_wp2_with fail
      refine (RT2.out).mono ?_
      rintro e w5 ⟨rfl, hb⟩
      clear c00 c01 c10 c11
      replace FR := Lib.hid (FR.out.step hb)
      replace OW := Lib.hid (own_below OW.out hb)
      clear hb
      have TK2 := Lib.hid (TK.out _ _ _ (rs_own OW.out))
      have c00 : w5.cell? ⟨q, 0, none⟩ = some (.slice B n d) := FR.out.cell 0 0 rfl rfl rfl
      have c01 : w5.cell? ⟨q, 1, none⟩ = some (.int .i64 fr) := FR.out.cell 0 1 rfl rfl rfl
      have c10 : w5.cell? ⟨q + 1, 0, none⟩ = some (.slice none 0 0) := FR.out.cell 1 0 rfl rfl rfl
      have c11 : w5.cell? ⟨q + 1, 1, none⟩ = some (.int .i64 0) := FR.out.cell 1 1 rfl rfl rfl
      go_wp2_with fail
      refine (TK2.out).mono ?_
      rintro e w6 ⟨rfl, hb⟩
      clear c00 c01 c10 c11
      replace FR := Lib.hid (FR.out.step hb)
      replace OW := Lib.hid (own_below OW.out hb)
      clear hb
      have c10 : w6.cell? ⟨q + 1, 0, none⟩ = some (.slice none 0 0) := FR.out.cell 1 0 rfl rfl rfl
      have f10 : w6.frozen? ⟨q + 1, 0, none⟩ = false := FR.out.frozen 1 0 rfl rfl
      have c11 : w6.cell? ⟨q + 1, 1, none⟩ = some (.int .i64 0) := FR.out.cell 1 1 rfl rfl rfl
      have f11 : w6.frozen? ⟨q + 1, 1, none⟩ = false := FR.out.frozen 1 1 rfl rfl
      have c00 : w6.cell? ⟨q, 0, none⟩ = some (.slice B n d) := FR.out.cell 0 0 rfl rfl rfl
      have c01 : w6.cell? ⟨q, 1, none⟩ = some (.int .i64 fr) := FR.out.cell 0 1 rfl rfl rfl
      go_wp2
      have FZ : Fr w ((w6.setCell ⟨q + 1, 0, none⟩ (.slice B n d)).setCell ⟨q + 1, 1, none⟩ (.int .i64 fr)) q [.cells #[.slice B n d, .int .i64 fr] 24, .cells #[.slice B n d, .int .i64 fr] 24] := ((FR.out.set 1 0 rfl rfl (.slice B n d)).set 1 1 rfl rfl (.int .i64 fr))
      refine bodyPost_ret (res_cs Try.results34 (by rfl) (FZ.load 1 rfl rfl Try.underlying24 (by kernel_rfl))) rfl ?_
      rw [HE.out]
      exact ⟨B, n, d, rfl, own_base (own_apart (own_apart (OW.out) (k := q + 1) (o := 0) (u := .slice B n d) (by omega)) (k := q + 1) (o := 1) (u := .int .i64 fr) (by omega)) (by rw [hq]; omega), FZ.out⟩
    · rw [TKE, hl] at TK
      replace TK := Lib.hid TK.out
      have hlb := live_bounds hl
      simp only [HL.out] at hlb
      have LE : leadOk rs next = true ↔ ¬ (next ≠ -1 ∧ liveS (rs, fr) next = false) := by rw [leadOk_iff, live_taken hr next]; cases liveS (rs, fr) next <;> simp
      cases hd : leadOk rs next
      · have HE := Lib.hid (show R = ((rs, fr), 1) by rw [← HR.out]; unfold arSet; rw [if_neg (by simp [hr]), if_neg (by simp [hl]), if_pos (Decidable.byContradiction fun h => by rw [LE.2 h] at hd; cases hd)])
        rw [hd] at LD
        replace LD := Lib.hid LD.out
        clear hr hl TKE hlb LE hd
        go_enter Try.func34, Try.ntmps34
        have c00 : v2.cell? ⟨q, 0, none⟩ = some (.slice A n c) := FR.out.cell 0 0 rfl rfl rfl
        have c01 : v2.cell? ⟨q, 1, none⟩ = some (.int .i64 fr) := FR.out.cell 0 1 rfl rfl rfl
        have c10 : v2.cell? ⟨q + 1, 0, none⟩ = some (.slice none 0 0) := FR.out.cell 1 0 rfl rfl rfl
        have c11 : v2.cell? ⟨q + 1, 1, none⟩ = some (.int .i64 0) := FR.out.cell 1 1 rfl rfl rfl
        go_wp2_with fail
        refine CP2.out.mono ?_
        rintro e w3 ⟨B, d, rfl, hown, hb⟩
        clear c00 c01 c10 c11
        have hsz := FR.out.sz
        simp only [List.length_cons, List.length_nil] at hsz
        replace FR := Lib.hid (FR.out.step hb)
        replace hown := own_base hown hsz
        have OW := Lib.hid hown
        clear hb hown hv1 hv2 z1 z2
        have pc00 : w3.cell? ⟨q, 0, none⟩ = some (.slice A n c) := FR.out.cell 0 0 rfl rfl rfl
        have pf00 : w3.frozen? ⟨q, 0, none⟩ = false := FR.out.frozen 0 0 rfl rfl
        have pc01 : w3.cell? ⟨q, 1, none⟩ = some (.int .i64 fr) := FR.out.cell 0 1 rfl rfl rfl
        have pf01 : w3.frozen? ⟨q, 1, none⟩ = false := FR.out.frozen 0 1 rfl rfl
        have hszw4 := FR.out.sz
        simp only [List.length_cons, List.length_nil] at hszw4
        obtain ⟨w4, hw4⟩ : ∃ W, ((w3.setCell ⟨q, 0, none⟩ (.slice B n d)).setCell ⟨q, 1, none⟩ (.int .i64 fr)) = W := ⟨_, rfl⟩
        replace FR := Lib.hid (show Fr w w4 q [.cells #[.slice B n d, .int .i64 fr] 24, .cells #[.slice none 0 0, .int .i64 0] 24] from hw4 ▸ ((FR.out.set 0 0 rfl rfl (.slice B n d)).set 0 1 rfl rfl (.int .i64 fr)))
        replace OW := Lib.hid (hw4 ▸ (own_apart (own_apart OW.out (k := q) (o := 0) (u := .slice B n d) (by omega)) (k := q) (o := 1) (u := .int .i64 fr) (by omega)))
        have RT2 := Lib.hid (RT.out _ _ _ (rs_own OW.out))
        have c00 : w4.cell? ⟨q, 0, none⟩ = some (.slice B n d) := FR.out.cell 0 0 rfl rfl rfl
        have c01 : w4.cell? ⟨q, 1, none⟩ = some (.int .i64 fr) := FR.out.cell 0 1 rfl rfl rfl
        have c10 : w4.cell? ⟨q + 1, 0, none⟩ = some (.slice none 0 0) := FR.out.cell 1 0 rfl rfl rfl
        have c11 : w4.cell? ⟨q + 1, 1, none⟩ = some (.int .i64 0) := FR.out.cell 1 1 rfl rfl rfl
        go_wp2_with fail
        refine (RT2.out).mono ?_
        rintro e w5 ⟨rfl, hb⟩
        clear c00 c01 c10 c11
        replace FR := Lib.hid (FR.out.step hb)
        replace OW := Lib.hid (own_below OW.out hb)
        clear hb
        have TK2 := Lib.hid (TK.out _ _ _ (rs_own OW.out))
        have c00 : w5.cell? ⟨q, 0, none⟩ = some (.slice B n d) := FR.out.cell 0 0 rfl rfl rfl
        have c01 : w5.cell? ⟨q, 1, none⟩ = some (.int .i64 fr) := FR.out.cell 0 1 rfl rfl rfl
        have c10 : w5.cell? ⟨q + 1, 0, none⟩ = some (.slice none 0 0) := FR.out.cell 1 0 rfl rfl rfl
        have c11 : w5.cell? ⟨q + 1, 1, none⟩ = some (.int .i64 0) := FR.out.cell 1 1 rfl rfl rfl
        go_wp2_with fail
        refine (TK2.out).mono ?_
        rintro e w6 ⟨rfl, hb⟩
        clear c00 c01 c10 c11
        replace FR := Lib.hid (FR.out.step hb)
        replace OW := Lib.hid (own_below OW.out hb)
        clear hb
        have LD2 := Lib.hid (LD.out _ _ _ (rs_own OW.out))
        have c00 : w6.cell? ⟨q, 0, none⟩ = some (.slice B n d) := FR.out.cell 0 0 rfl rfl rfl
        have c01 : w6.cell? ⟨q, 1, none⟩ = some (.int .i64 fr) := FR.out.cell 0 1 rfl rfl rfl
        have c10 : w6.cell? ⟨q + 1, 0, none⟩ = some (.slice none 0 0) := FR.out.cell 1 0 rfl rfl rfl
        have c11 : w6.cell? ⟨q + 1, 1, none⟩ = some (.int .i64 0) := FR.out.cell 1 1 rfl rfl rfl
        go_wp2_with fail
        refine (LD2.out).mono ?_
        rintro e w7 ⟨rfl, hb⟩
        clear c00 c01 c10 c11
        replace FR := Lib.hid (FR.out.step hb)
        replace OW := Lib.hid (own_below OW.out hb)
        clear hb
        have c10 : w7.cell? ⟨q + 1, 0, none⟩ = some (.slice none 0 0) := FR.out.cell 1 0 rfl rfl rfl
        have f10 : w7.frozen? ⟨q + 1, 0, none⟩ = false := FR.out.frozen 1 0 rfl rfl
        have c11 : w7.cell? ⟨q + 1, 1, none⟩ = some (.int .i64 0) := FR.out.cell 1 1 rfl rfl rfl
        have f11 : w7.frozen? ⟨q + 1, 1, none⟩ = false := FR.out.frozen 1 1 rfl rfl
        have c00 : w7.cell? ⟨q, 0, none⟩ = some (.slice B n d) := FR.out.cell 0 0 rfl rfl rfl
        have c01 : w7.cell? ⟨q, 1, none⟩ = some (.int .i64 fr) := FR.out.cell 0 1 rfl rfl rfl
        go_wp2
        have FZ : Fr w ((w7.setCell ⟨q + 1, 0, none⟩ (.slice B n d)).setCell ⟨q + 1, 1, none⟩ (.int .i64 fr)) q [.cells #[.slice B n d, .int .i64 fr] 24, .cells #[.slice B n d, .int .i64 fr] 24] := ((FR.out.set 1 0 rfl rfl (.slice B n d)).set 1 1 rfl rfl (.int .i64 fr))
        refine bodyPost_ret (res_cs Try.results34 (by rfl) (FZ.load 1 rfl rfl Try.underlying24 (by kernel_rfl))) rfl ?_
        rw [HE.out]
        exact ⟨B, n, d, rfl, own_base (own_apart (own_apart (OW.out) (k := q + 1) (o := 0) (u := .slice B n d) (by omega)) (k := q + 1) (o := 1) (u := .int .i64 fr) (by omega)) (by rw [hq]; omega), FZ.out⟩
      · obtain ⟨i, rfl⟩ : ∃ j : Nat, i = j := ⟨i.toNat, by omega⟩
        have hi0 : (0 : Int) ≤ (i : Int) := hlb.1
        have hi1 : (i : Int) < (n : Int) := hlb.2
        have HE := Lib.hid (show R = ((rs.set i ((recAt rs i).1, (recAt rs i).2.1, next), fr), 0) by rw [← HR.out]; unfold arSet; rw [if_neg (by simp [hr]), if_neg (by simp [hl]), if_neg (LE.1 hd)]; rfl)
        rw [hd] at LD
        replace LD := Lib.hid LD.out
        clear hr hl TKE hlb LE hd
        go_enter Try.func34, Try.ntmps34
        have c00 : v2.cell? ⟨q, 0, none⟩ = some (.slice A n c) := FR.out.cell 0 0 rfl rfl rfl
        have c01 : v2.cell? ⟨q, 1, none⟩ = some (.int .i64 fr) := FR.out.cell 0 1 rfl rfl rfl
        have c10 : v2.cell? ⟨q + 1, 0, none⟩ = some (.slice none 0 0) := FR.out.cell 1 0 rfl rfl rfl
        have c11 : v2.cell? ⟨q + 1, 1, none⟩ = some (.int .i64 0) := FR.out.cell 1 1 rfl rfl rfl
        go_wp2_with fail
        refine CP2.out.mono ?_
        rintro e w3 ⟨B, d, rfl, hown, hb⟩
        clear c00 c01 c10 c11
        have hsz := FR.out.sz
        simp only [List.length_cons, List.length_nil] at hsz
        replace FR := Lib.hid (FR.out.step hb)
        replace hown := own_base hown hsz
        have OW := Lib.hid hown
        clear hb hown hv1 hv2 z1 z2
        obtain ⟨g, rfl⟩ := own_some OW.out (by omega)
        have pc00 : w3.cell? ⟨q, 0, none⟩ = some (.slice A n c) := FR.out.cell 0 0 rfl rfl rfl
        have pf00 : w3.frozen? ⟨q, 0, none⟩ = false := FR.out.frozen 0 0 rfl rfl
        have pc01 : w3.cell? ⟨q, 1, none⟩ = some (.int .i64 fr) := FR.out.cell 0 1 rfl rfl rfl
        have pf01 : w3.frozen? ⟨q, 1, none⟩ = false := FR.out.frozen 0 1 rfl rfl
        have hszw4 := FR.out.sz
        simp only [List.length_cons, List.length_nil] at hszw4
        obtain ⟨w4, hw4⟩ : ∃ W, ((w3.setCell ⟨q, 0, none⟩ (.slice (some ⟨g, 0, none⟩) n d)).setCell ⟨q, 1, none⟩ (.int .i64 fr)) = W := ⟨_, rfl⟩
        replace FR := Lib.hid (show Fr w w4 q [.cells #[.slice (some ⟨g, 0, none⟩) n d, .int .i64 fr] 24, .cells #[.slice none 0 0, .int .i64 0] 24] from hw4 ▸ ((FR.out.set 0 0 rfl rfl (.slice (some ⟨g, 0, none⟩) n d)).set 0 1 rfl rfl (.int .i64 fr)))
        replace OW := Lib.hid (hw4 ▸ (own_apart (own_apart OW.out (k := q) (o := 0) (u := .slice (some ⟨g, 0, none⟩) n d) (by omega)) (k := q) (o := 1) (u := .int .i64 fr) (by omega)))
        have RT2 := Lib.hid (RT.out _ _ _ (rs_own OW.out))
        have c00 : w4.cell? ⟨q, 0, none⟩ = some (.slice (some ⟨g, 0, none⟩) n d) := FR.out.cell 0 0 rfl rfl rfl
        have c01 : w4.cell? ⟨q, 1, none⟩ = some (.int .i64 fr) := FR.out.cell 0 1 rfl rfl rfl
        have c10 : w4.cell? ⟨q + 1, 0, none⟩ = some (.slice none 0 0) := FR.out.cell 1 0 rfl rfl rfl
        have c11 : w4.cell? ⟨q + 1, 1, none⟩ = some (.int .i64 0) := FR.out.cell 1 1 rfl rfl rfl
        go_wp2_with fail
        refine (RT2.out).mono ?_
        rintro e w5 ⟨rfl, hb⟩
        clear c00 c01 c10 c11
        replace FR := Lib.hid (FR.out.step hb)
        replace OW := Lib.hid (own_below OW.out hb)
        clear hb
        have TK2 := Lib.hid (TK.out _ _ _ (rs_own OW.out))
        have c00 : w5.cell? ⟨q, 0, none⟩ = some (.slice (some ⟨g, 0, none⟩) n d) := FR.out.cell 0 0 rfl rfl rfl
        have c01 : w5.cell? ⟨q, 1, none⟩ = some (.int .i64 fr) := FR.out.cell 0 1 rfl rfl rfl
        have c10 : w5.cell? ⟨q + 1, 0, none⟩ = some (.slice none 0 0) := FR.out.cell 1 0 rfl rfl rfl
        have c11 : w5.cell? ⟨q + 1, 1, none⟩ = some (.int .i64 0) := FR.out.cell 1 1 rfl rfl rfl
        go_wp2_with fail
        refine (TK2.out).mono ?_
        rintro e w6 ⟨rfl, hb⟩
        clear c00 c01 c10 c11
        replace FR := Lib.hid (FR.out.step hb)
        replace OW := Lib.hid (own_below OW.out hb)
        clear hb
        have LD2 := Lib.hid (LD.out _ _ _ (rs_own OW.out))
        have c00 : w6.cell? ⟨q, 0, none⟩ = some (.slice (some ⟨g, 0, none⟩) n d) := FR.out.cell 0 0 rfl rfl rfl
        have c01 : w6.cell? ⟨q, 1, none⟩ = some (.int .i64 fr) := FR.out.cell 0 1 rfl rfl rfl
        have c10 : w6.cell? ⟨q + 1, 0, none⟩ = some (.slice none 0 0) := FR.out.cell 1 0 rfl rfl rfl
        have c11 : w6.cell? ⟨q + 1, 1, none⟩ = some (.int .i64 0) := FR.out.cell 1 1 rfl rfl rfl
        go_wp2_with fail
        refine (LD2.out).mono ?_
        rintro e w7 ⟨rfl, hb⟩
        clear c00 c01 c10 c11
        replace FR := Lib.hid (FR.out.step hb)
        replace OW := Lib.hid (own_below OW.out hb)
        clear hb
        have hsz2 := FR.out.sz
        simp only [List.length_cons, List.length_nil] at hsz2
        obtain ⟨e0, e1, e2⟩ := recC_at rs i (by have := HL.out; omega)
        have g0 := (OW.out.cellAt (i * 3) (by omega)).trans e0
        have ff0 := OW.out.frozenAt (i * 3)
        have g1 := (OW.out.cellAt (i * 3 + 1) (by omega)).trans e1
        have ff1 := OW.out.frozenAt (i * 3 + 1)
        have g2 := (OW.out.cellAt (i * 3 + 2) (by omega)).trans e2
        have ff2 := OW.out.frozenAt (i * 3 + 2)
        have hg := (OW.out.lt g (by simp [Value.ownBlock])).1
        have q2 : g ≠ q := by omega
        have q3 : g ≠ q + 1 := by omega
        have q2' := q2.symm; have q3' := q3.symm
        clear e0 e1 e2
        have c00 : w7.cell? ⟨q, 0, none⟩ = some (.slice (some ⟨g, 0, none⟩) n d) := FR.out.cell 0 0 rfl rfl rfl
        have f00 : w7.frozen? ⟨q, 0, none⟩ = false := FR.out.frozen 0 0 rfl rfl
        have c01 : w7.cell? ⟨q, 1, none⟩ = some (.int .i64 fr) := FR.out.cell 0 1 rfl rfl rfl
        have f01 : w7.frozen? ⟨q, 1, none⟩ = false := FR.out.frozen 0 1 rfl rfl
        have c10 : w7.cell? ⟨q + 1, 0, none⟩ = some (.slice none 0 0) := FR.out.cell 1 0 rfl rfl rfl
        have f10 : w7.frozen? ⟨q + 1, 0, none⟩ = false := FR.out.frozen 1 0 rfl rfl
        have c11 : w7.cell? ⟨q + 1, 1, none⟩ = some (.int .i64 0) := FR.out.cell 1 1 rfl rfl rfl
        have f11 : w7.frozen? ⟨q + 1, 1, none⟩ = false := FR.out.frozen 1 1 rfl rfl
        go_wp2
        have FZ : Fr w (((w7.setCell ⟨g, i * 3 + 2, none⟩ (.int .i64 next)).setCell ⟨q + 1, 0, none⟩ (.slice (some ⟨g, 0, none⟩) n d)).setCell ⟨q + 1, 1, none⟩ (.int .i64 fr)) q [.cells #[.slice (some ⟨g, 0, none⟩) n d, .int .i64 fr] 24, .cells #[.slice (some ⟨g, 0, none⟩) n d, .int .i64 fr] 24] := (((FR.out.other (b := g) (j := i * 3 + 2) (by first | (simp only [List.length_set, List.length_cons, List.length_nil]; omega) | (simp; omega)) (.int .i64 next)).set 1 0 rfl rfl (.slice (some ⟨g, 0, none⟩) n d)).set 1 1 rfl rfl (.int .i64 fr))
        refine bodyPost_ret (res_cs Try.results34 (by rfl) (FZ.load 1 rfl rfl Try.underlying24 (by kernel_rfl))) rfl ?_
        have own7 := (OW.out.stored (i * 3 + 2) (.int .i64 next)).1
        rw [← recC_next rs i next (by have := HL.out; omega)] at own7
        rw [HE.out]
        exact ⟨_, _, _, rfl, own_base (own_apart (own_apart (own7) (k := q + 1) (o := 0) (u := .slice (some ⟨g, 0, none⟩) n d) (by omega)) (k := q + 1) (o := 1) (u := .int .i64 fr) (by omega)) (by rw [hq]; omega), FZ.out⟩
end Go.Proofs.Ytombfempdfdeoaa
