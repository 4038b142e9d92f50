/- What the program's own copied, release, Take, Set of layer 7 answer; for slices of up to 16384 records. -/
import Derived.Test.YtombfempdfdeoaaAreOB
import Derived.Test.YtombfempdfdeoaaAreF
namespace Go.Proofs.Ytombfempdfdeoaa
set_option linter.unusedVariables false
set_option linter.unusedSimpArgs false
open Go.RowKit

/-- records of the call's own. -/
def RowPost (w : World) (n : Nat) (rs : List Rec3) (e : Ending) (w' : World) : Prop :=
  ∃ B d, e = .returned (.slice B n d) ∧ w'.ownsRow w.heap.size 55 3 (.slice B n d) n (recC rs) ∧ Below w.heap.size w w'
set_option maxHeartbeats 1000000 in
theorem clone7_any (A : Option Addr) (n c : Nat) (rs : List Rec3) (w : World) (hx : Rs w A n c rs) (hn : n ≤ 16384) :
    Calls Try.prog 41 #[.slice A n c] w (RowPost w n rs) := by
  cases A with
  | none =>
    have h0 : n = 0 := by
      rcases Nat.eq_zero_or_pos n with h0 | h0
      · exact h0
      · obtain ⟨b, off, e, _⟩ := Es.mem hx h0; cases e
    subst h0
    obtain rfl : rs = [] := List.eq_nil_of_length_eq_zero hx.len
    have hq : ∀ W : World, (binOp .eql 22 (.slice none 0 c) (.slice none 0 0)).run Try.prog W = .ok (.bool true) W := fun _ => by kernel_rfl
    go_enter Try.func41, Try.ntmps41
    go_wp2
    go_ret
    exact ⟨none, 0, rfl, World.ownsRow_nil _ _ _ _, Below.refl _ _⟩
  | some ad =>
    obtain ⟨i5, hi5, hz0, hz1, hz2⟩ := info_of infoRec
    have hown0 : (w.alloc (.cells #[] 55)).ownsRow w.heap.size 55 3 (.slice (some ⟨w.heap.size, 0, none⟩) 0 0) 0 [] := World.ownsRow_lit w #[] 0 (Nat.le_refl _) (by unfold maxLen; omega) (by simp)
    obtain ⟨v, w3, hap, hown, hgr, hvk⟩ := eapp_own (P := Try.prog) (w.alloc (.cells #[] 55)) w.heap.size 22 22 55 i5 _ 3 24 Try.underlying22 hi5 hz0 hz1 hz2 rfl (by decide) _ 0 _ hown0 (some ad) n c _ (Es.alloc hx _) (by unfold maxLen; omega) (by omega) (by simp)
    rw [Nat.zero_add, List.nil_append] at hown
    have hb3 : Below w.heap.size w w3 := ((Below.refl _ _).alloc (Nat.le_refl _) _).grown hgr (by simp) (by simp [Value.ownBlock])
    obtain ⟨B, d, rfl, _⟩ := rs_of_own hown
    have HO := Lib.hid hown; have HB3 := Lib.hid hb3
    have hq : ∀ W : World, (binOp .eql 22 (.slice (some ad) n c) (.slice none 0 0)).run Try.prog W = .ok (.bool false) W := fun _ => by kernel_rfl
    clear hown hgr hb3 hown0 hx hi5 hz0 hz1 hz2 hvk
    go_enter Try.func41, Try.ntmps41
    go_wp2_with (at_builtin; refine eapp_run (by rfl) rfl rfl rfl hap ?_)
    go_ret
    exact ⟨_, _, rfl, HO.out, HB3.out⟩
set_option maxRecDepth 100000 in
set_option maxHeartbeats 4000000 in
theorem arnCopied_any (A : Option Addr) (n c : Nat) (rs : List Rec3) (fr : Int) (w : World) (hx : Rs w A n c rs) (hn : n ≤ 16384) :
    Calls Try.prog 45 #[.agg #[.slice A n c, .int .i64 fr]] w (CopyPost w n rs fr) := by
  have RX := Lib.hid hx
  have CL := Lib.hid (fun (W : World) (h : Rs W A n c rs) => clone7_any A n c rs W h hn)
  clear hx
  obtain ⟨v1, hv1⟩ : ∃ W, w.alloc (.cells #[.slice A n c, .int .i64 fr] 24) = W := ⟨_, rfl⟩
  have fr1 : Fr w v1 w.heap.size [.cells #[.slice A n c, .int .i64 fr] 24] := hv1 ▸ Fr.first w _
  have z1 : v1.heap.size = w.heap.size + 1 := by rw [← hv1, Fr.size1]
  obtain ⟨v2, hv2⟩ : ∃ W, v1.alloc (.cells #[.slice none 0 0, .int .i64 0] 24) = W := ⟨_, rfl⟩
  have fr2 : Fr w v2 w.heap.size [.cells #[.slice A n c, .int .i64 fr] 24, .cells #[.slice none 0 0, .int .i64 0] 24] := hv2 ▸ fr1.more z1 _
  have z2 : v2.heap.size = w.heap.size + 2 := by rw [← hv2, Fr.size1, z1]
  generalize hq : w.heap.size = q at *
  have FR := Lib.hid fr2
  clear fr1 fr2
  have CL2 := Lib.hid (CL.out _ (FR.out.es RX.out))
  go_enter Try.func45, Try.ntmps45
  have c00 : v2.cell? ⟨q, 0, none⟩ = some (.slice A n c) := FR.out.cell 0 0 rfl rfl rfl
  have c01 : v2.cell? ⟨q, 1, none⟩ = some (.int .i64 fr) := FR.out.cell 0 1 rfl rfl rfl
  have c10 : v2.cell? ⟨q + 1, 0, none⟩ = some (.slice none 0 0) := FR.out.cell 1 0 rfl rfl rfl
  have c11 : v2.cell? ⟨q + 1, 1, none⟩ = some (.int .i64 0) := FR.out.cell 1 1 rfl rfl rfl
  go_wp2_with fail
  refine CL2.out.mono ?_
  rintro e w3 ⟨B, d, rfl, hown, hb⟩
  clear c00 c01 c10 c11
  have hsz := FR.out.sz
  simp only [List.length_cons, List.length_nil] at hsz
  replace FR := Lib.hid (FR.out.step hb)
  replace hown := own_base hown hsz
  have OW := Lib.hid hown
  clear hb hown
  have c00 : w3.cell? ⟨q, 0, none⟩ = some (.slice A n c) := FR.out.cell 0 0 rfl rfl rfl
  have f00 : w3.frozen? ⟨q, 0, none⟩ = false := FR.out.frozen 0 0 rfl rfl
  have c01 : w3.cell? ⟨q, 1, none⟩ = some (.int .i64 fr) := FR.out.cell 0 1 rfl rfl rfl
  have f01 : w3.frozen? ⟨q, 1, none⟩ = false := FR.out.frozen 0 1 rfl rfl
  have c10 : w3.cell? ⟨q + 1, 0, none⟩ = some (.slice none 0 0) := FR.out.cell 1 0 rfl rfl rfl
  have f10 : w3.frozen? ⟨q + 1, 0, none⟩ = false := FR.out.frozen 1 0 rfl rfl
  have c11 : w3.cell? ⟨q + 1, 1, none⟩ = some (.int .i64 0) := FR.out.cell 1 1 rfl rfl rfl
  have f11 : w3.frozen? ⟨q + 1, 1, none⟩ = false := FR.out.frozen 1 1 rfl rfl
  go_wp2
  have FZ : Fr w (((w3.setCell ⟨q, 0, none⟩ (.slice B n d)).setCell ⟨q + 1, 0, none⟩ (.slice B n d)).setCell ⟨q + 1, 1, none⟩ (.int .i64 fr)) q [.cells #[.slice B n d, .int .i64 fr] 24, .cells #[.slice B n d, .int .i64 fr] 24] := (((FR.out.set 0 0 rfl rfl (.slice B n d)).set 1 0 rfl rfl (.slice B n d)).set 1 1 rfl rfl (.int .i64 fr))
  refine bodyPost_ret (res_c Try.results45 (by rfl) (FZ.load 1 rfl rfl Try.underlying24 (by kernel_rfl))) rfl ?_
  exact ⟨B, d, rfl, own_base (own_apart (own_apart (own_apart (OW.out) (k := q) (o := 0) (u := .slice B n d) (by omega)) (k := q + 1) (o := 0) (u := .slice B n d) (by omega)) (k := q + 1) (o := 1) (u := .int .i64 fr) (by omega)) (by rw [hq]; omega), FZ.out⟩
/-- what release leaves. -/
def RelPost (w : World) (p g : Nat) (n d : Nat) (i : Nat) (rs : List Rec3) (fr : Int) (e : Ending) (w' : World) : Prop :=
  e = .returned (.tuple #[]) ∧ w' = ((((w.setCell ⟨g, i * 3, none⟩ (.int .i64 (-1))).setCell ⟨g, i * 3 + 1, none⟩ (.int .i64 (-1))).setCell ⟨g, i * 3 + 2, none⟩ (.int .i64 fr)).setCell ⟨p, 1, none⟩ (.int .i64 (i : Int))).drew
set_option maxRecDepth 100000 in
set_option maxHeartbeats 4000000 in
theorem arnRelease_any (p g n d i base : Nat) (rs : List Rec3) (fr : Int) (w : World) (hp : w.heap[p]? = some (.cells #[.slice (some ⟨g, 0, none⟩) n d, .int .i64 fr] 24)) (ho : w.ownsRow base 55 3 (.slice (some ⟨g, 0, none⟩) n d) n (recC rs)) (hi : i < n) (hpg : p ≠ g) :
    Calls Try.prog 52 #[.pointer (some ⟨p, 0, none⟩), .int .i64 (i : Int)] w (RelPost w p g n d i rs fr) := by
  have x0 := blk_cell hp 0; have x1 := blk_cell hp 1; have x2 := blk_frozen hp 1
  simp only [List.getElem?_toArray, List.getElem?_cons_zero, List.getElem?_cons_succ] at x0 x1
  have hl : (recC rs).length = n * 3 := ho.1
  have hrl : rs.length = n := by rw [recC_len] at hl; omega
  obtain ⟨e0, e1, e2⟩ := recC_at rs i (by omega)
  have g0 := (ho.cellAt (i * 3) (by omega)).trans e0
  have g1 := (ho.cellAt (i * 3 + 1) (by omega)).trans e1
  have g2 := (ho.cellAt (i * 3 + 2) (by omega)).trans e2
  have f0 := ho.frozenAt (i * 3); have f1 := ho.frozenAt (i * 3 + 1); have f2 := ho.frozenAt (i * 3 + 2)
  have hi0 : (0 : Int) ≤ (i : Int) := by omega
  have hi1 : (i : Int) < (n : Int) := by omega
  have hgp := hpg.symm
  clear hp ho e0 e1 e2 hl hrl
  go_enter Try.func52, Try.ntmps52
  go_wp2
  go_region
  go_wp2
  refine bodyPost_end (results_none rfl _ _ _) rfl ?_
  exact ⟨rfl, rfl⟩
theorem RelPost.own {w w' : World} {p g n d i base : Nat} {rs : List Rec3} {fr : Int} {e : Ending} (h : RelPost w p g n d i rs fr e w') (ho : w.ownsRow base 55 3 (.slice (some ⟨g, 0, none⟩) n d) n (recC rs)) (hi : i < n) (hpg : p ≠ g) :
    w'.ownsRow base 55 3 (.slice (some ⟨g, 0, none⟩) n d) n (recC (rs.set i (-1, -1, fr))) := by
  have hl : (recC rs).length = n * 3 := ho.1
  have hrl : rs.length = n := by rw [recC_len] at hl; omega
  obtain ⟨_, rfl⟩ := h
  have own7 := (((ho.stored (i * 3) (.int .i64 (-1))).1.stored (i * 3 + 1) (.int .i64 (-1))).1.stored (i * 3 + 2) (.int .i64 fr)).1
  rw [← recC_set rs i (-1, -1, fr) (by omega)] at own7
  have own6 := own_other own7 (k := p) (o := 1) (u := .int .i64 (i : Int)) (by simp [Value.ownBlock]; exact hpg.symm)
  exact ⟨own6.1, own6.2⟩
theorem RelPost.fr {w0 w w' : World} {q k p g n d i : Nat} {L : List Obj} {v : Value} {rs : List Rec3} {fr : Int} {e : Ending} (h : RelPost w p g n d i rs fr e w') (hf : Fr w0 w q L) (hk : L[k]? = some (.cells #[v, .int .i64 fr] 24)) (hp : p = q + k) (hg : q + L.length ≤ g) :
    Fr w0 w' q (L.set k (.cells #[v, .int .i64 (i : Int)] 24)) := by
  obtain ⟨_, rfl⟩ := h
  exact ((((hf.other hg _).other hg _).other hg _).set k 1 (cs := [v, .int .i64 fr]) hk hp _).drew
theorem RelPost.fr0 {w0 w w' : World} {q p g n d i : Nat} {L : List Obj} {rs : List Rec3} {fr : Int} {e : Ending} (h : RelPost w p g n d i rs fr e w') (hf : Fr w0 w q L) (hp : q + L.length ≤ p) (hg : q + L.length ≤ g) : Fr w0 w' q L := by
  obtain ⟨_, rfl⟩ := h
  exact ((((hf.other hg _).other hg _).other hg _).other hp _).drew
theorem RelPost.box {w w' : World} {p g n d i : Nat} {v : Value} {rs : List Rec3} {fr : Int} {e : Ending} (h : RelPost w p g n d i rs fr e w') (hf : w.heap[p]? = some (.cells #[v, .int .i64 fr] 24)) (hpg : p ≠ g) : w'.heap[p]? = some (.cells #[v, .int .i64 (i : Int)] 24) := by
  obtain ⟨_, rfl⟩ := h
  have h1 : (((w.setCell ⟨g, i * 3, none⟩ (.int .i64 (-1))).setCell ⟨g, i * 3 + 1, none⟩ (.int .i64 (-1))).setCell ⟨g, i * 3 + 2, none⟩ (.int .i64 fr)).heap[p]? = some (.cells #[v, .int .i64 fr] 24) := by
    rw [Below.heap_setCell _ _ _ _ hpg, Below.heap_setCell _ _ _ _ hpg, Below.heap_setCell _ _ _ _ hpg]; exact hf
  exact blk_snd h1 _
theorem RelPost.below {w0 w w' : World} {m p g n d i : Nat} {rs : List Rec3} {fr : Int} {e : Ending} (h : RelPost w p g n d i rs fr e w') (hb : Below m w0 w) (hp : m ≤ p) (hg : m ≤ g) : Below m w0 w' := by
  obtain ⟨_, rfl⟩ := h
  exact ((((hb.setCell (by simpa using hg) _).setCell (by simpa using hg) _).setCell (by simpa using hg) _).setCell (by simpa using hp) _).drew
end Go.Proofs.Ytombfempdfdeoaa
