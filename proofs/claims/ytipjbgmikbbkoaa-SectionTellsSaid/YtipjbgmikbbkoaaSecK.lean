/- What the program's List answers; for bytes up to 16384. -/
import Derived.Test.YtipjbgmikbbkoaaSecJ
namespace Go.Proofs.Ytipjbgmikbbkoaa
set_option linter.unusedVariables false
set_option linter.unusedSimpArgs false
open Go.RowKit

/-- sections and an error as the answer. -/
def ListPost (w : World) (R : List (Int × List Int) × Int) (e : Ending) (w' : World) : Prop :=
  ∃ A n c, e = .returned (.tuple #[.slice A n c, .int .i64 R.2]) ∧ Ss w' A n c R.1 ∧ Below w.heap.size w w'
theorem list_mk {w w' : World} {R : List (Int × List Int) × Int} {l : List (Int × List Int)} {e : Int} (h1 : R.1 = l) (h2 : R.2 = e) {A : Option Addr} {n c : Nat} (hs : Ss w' A n c l) (hw : Below w.heap.size w w') :
    ListPost w R (.returned (.tuple #[.slice A n c, .int .i64 e])) w' := by subst h1; subst h2; exact ⟨A, n, c, rfl, hs, hw⟩
theorem one0 {w : World} {b : Nat} {x : Value} {T : TypeId} (h : w.heap[b]? = some (.cells #[x] T)) : w.cell? ⟨b, 0, none⟩ = some x := by rw [cell_of_row w _ 0 _ _ (0, 0) h]; rfl
theorem heap_one {w : World} {b : Nat} {x : Value} {T : TypeId} (h : w.heap[b]? = some (.cells #[x] T)) (u : Value) : (w.setCell ⟨b, 0, none⟩ u).heap[b]? = some (.cells #[u] T) := by
  simp only [World.setCell, Array.getElem?_modify]
  rw [if_pos trivial, h]
  rfl
theorem listS_err0 {bs : List Int} : ∀ {f k : Nat} {acc : List (Int × List Int)}, (listA bs f k acc).2 ≠ 0 → (listA bs f k acc).1 = []
  | 0, k, acc, h => absurd rfl h
  | f + 1, k, acc, h => by
    rw [listA] at h ⊢
    split
    · rename_i h1; rw [if_pos h1] at h; exact absurd rfl h
    · rename_i h1
      rw [if_neg h1] at h
      split
      · rfl
      · rename_i h2
        rw [if_neg h2] at h
        split
        · rfl
        · rename_i h3
          rw [if_neg h3] at h
          exact listS_err0 h

theorem listCl_err (r lb : Nat) (A : Option Addr) (n c : Nat) (bs : List Int) (w : World) (hb : Bs w A n c bs) (hr : Rd w r A n c ((0 : Nat) : Int)) (hn : n ≤ 16384) (he : (listS bs).2 ≠ 0) :
    Calls Try.prog 32 #[.pointer (some ⟨r, 0, none⟩), .pointer (some ⟨lb, 0, none⟩)] w fun e w' => e = .panicked [PE (listS bs).2] ∧ w.grownBy w' (some r) := by
  have N := Lib.hid (sections_any r A n c bs w hb hr hn)
  have HE := Lib.hid he
  clear hb hr he
  go_enter Try.func32, Try.ntmps32
  go_wp2_with fail
  refine N.out.mono ?_; rintro e w1 ⟨hg1, h1⟩
  rcases h1 with ⟨h1, _⟩ | ⟨_, rfl⟩
  · exact absurd h1 HE.out
  · have HG1 := Lib.hid hg1
    clear hg1
    go_wp2_with fail
    exact ⟨rfl, rfl, HG1.out⟩
theorem listCl_ok (r lb : Nat) (A : Option Addr) (n c : Nat) (bs : List Int) (A0 : Option Addr) (n0 c0 : Nat) (w : World) (hb : Bs w A n c bs) (hr : Rd w r A n c ((0 : Nat) : Int)) (hn : n ≤ 16384) (he : (listS bs).2 = 0)
    (hl : w.heap[lb]? = some (.cells #[.slice A0 n0 c0] 32)) (hne : lb ≠ r) :
    Calls Try.prog 32 #[.pointer (some ⟨r, 0, none⟩), .pointer (some ⟨lb, 0, none⟩)] w fun e w' => e = .returned (.tuple #[]) ∧ But (fun k => k = r ∨ k = lb) w w' ∧
      ∃ v, w'.heap[lb]? = some (.cells #[v] 32) ∧ OwnSs w' w.heap.size v (listS bs).1 := by
  have N := Lib.hid (sections_any r A n c bs w hb hr hn)
  have HE := Lib.hid he; have HL := Lib.hid hl; have HNE := Lib.hid hne
  clear hb hr he hl hne
  go_enter Try.func32, Try.ntmps32
  go_wp2_with fail
  refine N.out.mono ?_; rintro e w1 ⟨hg1, h1⟩
  rcases h1 with ⟨_, v, rfl, hos⟩ | ⟨h1, _⟩
  · obtain ⟨A3, n3, c3, rfl, _⟩ := hos.ss
    have hl1 := (hg1.block lb (heap_lt HL.out) (by have := HNE.out; simpa using this)).trans HL.out
    have k0 := one0 hl1; have z0 := row_z hl1 0
    have HG1 := Lib.hid hg1; have HOs := Lib.hid hos; have HL1 := Lib.hid hl1
    clear hg1 hos hl1
    go_wp2
    go_end0
    have hlt := heap_lt HL.out
    exact ⟨rfl, (But.of_grown HG1.out (Or.inl rfl)).setCell (Or.inl (Or.inr rfl)) _ _, _, heap_one HL1.out _, HOs.out.turn (grown_setCell _ _ _ _) (fun k hk => by injection hk with hk; omega)⟩
  · exact absurd HE.out h1

theorem secList_any (A : Option Addr) (n c : Nat) (bs : List Int) (w : World) (hb : Bs w A n c bs) (hn : n ≤ 16384) :
    Calls Try.prog 13 #[.slice A n c] w (ListPost w (listS bs)) := by
  have hmf : ∀ (fn : Fn) (first cap : Array Value) (w : World), (Instr.makeFunc fn first cap).run Try.prog w = .ok (.func fn first cap) w := fun _ _ _ _ => rfl
  have HB := Lib.hid hb
  clear hb
  by_cases he : (listS bs).2 = 0
  · have HE := Lib.hid he
    clear he
    go_enter Try.func13, Try.ntmps13
    go_wp2_with fail
    have hrd : Rd ((w.alloc (.cells #[.slice none 0 0] 32)).alloc (.cells #[.slice A n c, .int .i64 0] 54)) (w.heap.size + 1) A n c ((0 : Nat) : Int) := by
      have h := heap_alloc_new (w.alloc (.cells #[.slice none 0 0] 32)) (.cells #[.slice A n c, .int .i64 0] 54)
      have e : (w.alloc (.cells #[.slice none 0 0] 32)).heap.size = w.heap.size + 1 := by simp
      rw [e] at h; exact h
    have hlb : ((w.alloc (.cells #[.slice none 0 0] 32)).alloc (.cells #[.slice A n c, .int .i64 0] 54)).heap[w.heap.size]? = some (.cells #[.slice none 0 0] 32) := by
      rw [heap_alloc_old _ _ (by simp)]; exact heap_alloc_new w _
    have hbw : Below w.heap.size w ((w.alloc (.cells #[.slice none 0 0] 32)).alloc (.cells #[.slice A n c, .int .i64 0] 54)) := ((Below.refl _ _).alloc (Nat.le_refl _) _).alloc (by simp) _
    have hsz : ((w.alloc (.cells #[.slice none 0 0] 32)).alloc (.cells #[.slice A n c, .int .i64 0] 54)).heap.size = w.heap.size + 2 := by simp
    generalize ((w.alloc (.cells #[.slice none 0 0] 32)).alloc (.cells #[.slice A n c, .int .i64 0] 54)) = w2 at *
    have hb2 := HB.out.below hbw
    have hd3 : Below w2.heap.size w2 (w2.alloc (.cells #[.int .i64 0] 26)) := (Below.refl _ _).alloc (Nat.le_refl _) _
    have hcl := listCl_ok (w.heap.size + 1) w.heap.size A n c bs none 0 0 (w2.alloc (.cells #[.int .i64 0] 26)) (hb2.below hd3) (hrd.below hd3) hn HE.out (by rw [heap_alloc_old _ _ (by omega)]; exact hlb) (by omega)
    have hca := caught_ok 32 #[.pointer (some ⟨w.heap.size + 1, 0, none⟩), .pointer (some ⟨w.heap.size, 0, none⟩)] w2 _ (fun W => by rfl)
      (hcl.mono fun e w' ⟨h1, h2, h3⟩ => ⟨h1, (h2.block w2.heap.size (by simp) (by omega)).trans (heap_alloc_new w2 _), And.intro h2 h3⟩)
    have HBW := Lib.hid hbw; have HSZ := Lib.hid hsz
    clear hrd hlb hbw hb2 hd3 hcl hsz
    refine hca.mono ?_; rintro e wq ⟨rfl, w1, ⟨hbut, v, hl1, hos⟩, rfl⟩
    clear hca
    have hsz := HSZ.out
    have hszb := hbut.size
    have e3 : (w2.alloc (.cells #[.int .i64 0] 26)).heap.size = w.heap.size + 3 := by simp; omega
    rw [e3] at hszb hos
    have hl' : (w1.setCell ⟨w2.heap.size, 0, none⟩ (.int .i64 0)).heap[w.heap.size]? = some (.cells #[v] 32) := by
      rw [Below.heap_setCell _ _ _ _ (by simp only; omega)]; exact hl1
    have hos' := hos.turn (grown_setCell w1 w2.heap.size 0 (.int .i64 0)) (fun k hk => by injection hk with hk; omega)
    have hbw' : Below w.heap.size w (w1.setCell ⟨w2.heap.size, 0, none⟩ (.int .i64 0)) :=
      (HBW.out.trans (((hd0 w2).mono (by omega)).trans (hbut.below (by simp; omega) (fun k hk hn => by omega)))).setCell (by simp only; omega) _
    generalize w1.setCell ⟨w2.heap.size, 0, none⟩ (.int .i64 0) = w4 at *
    obtain ⟨A3, n3, c3, rfl, hss⟩ := hos'.ss
    have k0 := one0 hl'
    have HSS := Lib.hid hss; have HBW4 := Lib.hid hbw'
    clear hbut hl1 hos hl' hos' hbw' hsz hszb hss e3
    go_wp2
    go_ret2
    exact list_mk rfl HE.out HSS.out HBW4.out
  · obtain ⟨k, hk⟩ : ∃ k, (listS bs).2 = k := ⟨_, rfl⟩
    have HK := Lib.hid hk
    have H0 := Lib.hid (show (listS bs).1 = [] from listS_err0 he)
    have HE := Lib.hid he
    clear he hk
    go_enter Try.func13, Try.ntmps13
    go_wp2_with fail
    have hrd : Rd ((w.alloc (.cells #[.slice none 0 0] 32)).alloc (.cells #[.slice A n c, .int .i64 0] 54)) (w.heap.size + 1) A n c ((0 : Nat) : Int) := by
      have h := heap_alloc_new (w.alloc (.cells #[.slice none 0 0] 32)) (.cells #[.slice A n c, .int .i64 0] 54)
      have e : (w.alloc (.cells #[.slice none 0 0] 32)).heap.size = w.heap.size + 1 := by simp
      rw [e] at h; exact h
    have hlb : ((w.alloc (.cells #[.slice none 0 0] 32)).alloc (.cells #[.slice A n c, .int .i64 0] 54)).heap[w.heap.size]? = some (.cells #[.slice none 0 0] 32) := by
      rw [heap_alloc_old _ _ (by simp)]; exact heap_alloc_new w _
    have hbw : Below w.heap.size w ((w.alloc (.cells #[.slice none 0 0] 32)).alloc (.cells #[.slice A n c, .int .i64 0] 54)) := ((Below.refl _ _).alloc (Nat.le_refl _) _).alloc (by simp) _
    have hsz : ((w.alloc (.cells #[.slice none 0 0] 32)).alloc (.cells #[.slice A n c, .int .i64 0] 54)).heap.size = w.heap.size + 2 := by simp
    generalize ((w.alloc (.cells #[.slice none 0 0] 32)).alloc (.cells #[.slice A n c, .int .i64 0] 54)) = w2 at *
    have hb2 := HB.out.below hbw
    have hd3 : Below w2.heap.size w2 (w2.alloc (.cells #[.int .i64 0] 26)) := (Below.refl _ _).alloc (Nat.le_refl _) _
    have hcl := listCl_err (w.heap.size + 1) w.heap.size A n c bs (w2.alloc (.cells #[.int .i64 0] 26)) (hb2.below hd3) (hrd.below hd3) hn HE.out
    rw [HK.out] at hcl
    have hca := caught_err 32 #[.pointer (some ⟨w.heap.size + 1, 0, none⟩), .pointer (some ⟨w.heap.size, 0, none⟩)] w2 k _ (fun W => by rfl)
      (hcl.mono fun e w' ⟨h1, h2⟩ => ⟨h1, (h2.block w2.heap.size (by simp) (by simp; omega)).trans (heap_alloc_new w2 _), h2⟩)
    have HBW := Lib.hid hbw; have HSZ := Lib.hid hsz; have HLB := Lib.hid hlb
    clear hrd hlb hbw hb2 hd3 hcl hsz
    refine hca.mono ?_; rintro e wq ⟨rfl, w1, hbut, rfl⟩
    clear hca
    have hsz := HSZ.out
    have hl' : (w1.setCell ⟨w2.heap.size, 0, none⟩ (.int .i64 k)).heap[w.heap.size]? = some (.cells #[.slice none 0 0] 32) := by
      rw [Below.heap_setCell _ _ _ _ (by simp only; omega)]
      exact (hbut.block _ (by simp; omega) (by simp)).trans ((heap_alloc_old _ _ (by omega)).trans HLB.out)
    have hbw' : Below w.heap.size w (w1.setCell ⟨w2.heap.size, 0, none⟩ (.int .i64 k)) :=
      (HBW.out.trans (((hd0 w2).mono (by omega)).trans ((But.of_grown (S := fun k => k = w.heap.size + 1) hbut rfl).below (by simp; omega) (fun k hk hn => by omega)))).setCell (by simp only; omega) _
    generalize w1.setCell ⟨w2.heap.size, 0, none⟩ (.int .i64 k) = w4 at *
    have k0 := one0 hl'
    have HBW4 := Lib.hid hbw'
    clear hbut hl' hbw' hsz
    go_wp2
    go_ret2
    exact list_mk H0.out HK.out (Ss.nil _ _ _) HBW4.out
end Go.Proofs.Ytipjbgmikbbkoaa
