/- What slices.Grow of nothing, slices.Concat of two, written and Append (the program's and the document's own) answer; for bytes up to 16384. -/
import Derived.Test.YtipjbgmikbbkoaaSecF
import Derived.LoopTactic
import Derived.Lib.AppendZerosOnto
import Derived.Lib.AppendZeros
namespace Go.Proofs.Ytipjbgmikbbkoaa
set_option linter.unusedVariables false
set_option linter.unusedSimpArgs false
open Go.RowKit

/-- a row of the call's own as the answer. -/
def OwnPost (w : World) (bs : List Int) (e : Ending) (w' : World) : Prop :=
  ∃ v n, e = .returned v ∧ w'.ownsRow w.heap.size 5 1 v n (bs.map (Value.int .u8)) ∧ Below w.heap.size w w'
theorem grow_nil (n : Nat) (hn : n ≤ 65536) (w : World) :
    Calls Try.prog 38 #[.slice none 0 0, .int .i64 n] w (OwnPost w []) := by
  rcases Nat.eq_zero_or_pos n with h0 | h0
  · subst h0
    go_enter Try.func38, Try.ntmps38
    go_wp2
    go_ret
    exact ⟨_, 0, rfl, World.ownsRow_nil _ _ _ _, Below.refl _ _⟩
  · obtain ⟨i5, hi5, hz0, hz1, hz2⟩ := info_parts infoByte
    have hap := Lib.run_append_grow_zeros (P := Try.prog) w 22 3 22 5 i5 _ .i64 .i64 Try.underlying22 Try.underlying3 hi5 hz0 none 0 0 [] (run_firstCells_none w.drew i5.size 0 0 0) n h0 (by omega) (by omega) (by omega) (by rw [hz2]; omega)
      (by refine growslice_fits (by omega) ?_; rw [hz2]; omega)
    obtain ⟨G, hG⟩ : ∃ G, grownCap w (0 + n) 0 5 = G := ⟨_, rfl⟩
    have hGn : 0 + n ≤ G := by rw [← hG]; exact grownCap_ge w _ _ _
    have hGm : G ≤ maxLen := by rw [← hG]; exact grownCap_le_maxLen w _ _ _ (by unfold maxLen; omega)
    rw [hG] at hap
    have hown : (w.drew.alloc (.cells (([] : List Value).toArray ++ Builtin.zeroCells (Value.int .u8 0).cells n ++ Builtin.zeroCells (Value.int .u8 0).cells (G - (0 + n))) 5)).ownsRow w.drew.heap.size 5 1 (.slice (some ⟨w.drew.heap.size, 0, none⟩) 0 G) 0 [] :=
      World.ownsRow_made w.drew _ G (Nat.le_refl _) hGm (by simp [size_zeroCells, Value.cells]; omega)
    have hbel : Below w.heap.size w (w.drew.alloc (.cells (([] : List Value).toArray ++ Builtin.zeroCells (Value.int .u8 0).cells n ++ Builtin.zeroCells (Value.int .u8 0).cells (G - (0 + n))) 5)) := (Below.refl _ _).drew.alloc (Nat.le_refl _) _
    generalize w.drew.alloc (.cells (([] : List Value).toArray ++ Builtin.zeroCells (Value.int .u8 0).cells n ++ Builtin.zeroCells (Value.int .u8 0).cells (G - (0 + n))) 5) = w1 at *
    have HO := Lib.hid hown; have HB := Lib.hid hbel; have HG := Lib.hid hGn; have HGM := Lib.hid hGm
    have hg63 : (G : Int) ≤ 9223372036854775807 := by unfold maxLen at hGm; omega
    clear hown hbel hG hi5 hz0 hz1 hz2 hGn hGm
    go_enter Try.func38, Try.ntmps38
    go_wp2_with (at_builtin; refine Lib.wpList_append_run _ rfl _ _ _ _ rfl _ _ rfl rfl _ _ hap ?_)
    go_ret
    exact ⟨_, 0, rfl, HO.out, HB.out⟩
theorem concat_two (g : Nat) (A1 A2 : Option Addr) (n1 c1 n2 c2 : Nat) (xs ys : List Int) (w : World) (h : w.heap[g]? = some (.cells #[.slice A1 n1 c1, .slice A2 n2 c2] 22)) (h1 : Bs w A1 n1 c1 xs) (h2 : Bs w A2 n2 c2 ys) (hn : n1 + n2 ≤ 32768) :
    Calls Try.prog 22 #[.slice (some ⟨g, 0, none⟩) 2 2] w (BytesOnly w (xs ++ ys)) := by
  have p0 := pair0 h; have p1 := pair1 h
  have HG := Lib.hid (heap_lt h); have P0 := Lib.hid p0; have P1 := Lib.hid p1
  have H1 := Lib.hid h1; have H2 := Lib.hid h2
  have hb1 := Lib.hid h1.byte; have hb2 := Lib.hid h2.byte
  clear h h1 h2
  go_enter Try.func22, Try.ntmps22
  go_wp2
  go_loop [3, 11] (fun x iv => (iv = .int .i64 0 ∧ x = .int .i64 0) ∨ (iv = .int .i64 1 ∧ x = .int .i64 (n1 : Int)) ∨ (iv = .int .i64 2 ∧ x = .int .i64 ((n1 : Int) + (n2 : Int)))) (fun _ iv => 2 - (intOf iv).toNat)
  case atStart => exact Or.inl ⟨rfl, rfl⟩
  case round =>
    rcases hrel with ⟨rfl, rfl⟩ | ⟨rfl, rfl⟩ | ⟨rfl, rfl⟩
    · go_wp2
      go_round
      case rel => exact Or.inr (Or.inl ⟨rfl, by go_num⟩)
      case measure => simp [intOf]
    · go_wp2
      go_round
      case rel => exact Or.inr (Or.inr ⟨rfl, by go_num⟩)
      case measure => simp [intOf]
    · clear p0 p1
      obtain ⟨m, hm⟩ : ∃ m : Nat, (n1 : Int) + (n2 : Int) = (m : Int) := ⟨n1 + n2, by omega⟩
      rw [hm]
      have hm2 : m ≤ 65536 := by omega
      go_wp2_with fail
      refine (grow_nil m hm2 w).mono ?_; rintro e w1 ⟨v, nv, rfl, hown, hbel⟩
      have HO := Lib.hid hown; have HB := Lib.hid hbel
      clear hown hbel
      go_wp2
      go_loopw [6, 27] (fun v i wr => ∃ (k : Nat) (zs : List Int), ((i = .int .i64 0 ∧ zs = [] ∧ k = 0) ∨ (i = .int .i64 1 ∧ zs = xs ∧ k = n1) ∨ (i = .int .i64 2 ∧ zs = xs ++ ys ∧ k = n1 + n2)) ∧ wr.ownsRow w.heap.size 5 1 v k (zs.map (Value.int .u8)) ∧ Below w.heap.size w wr) (fun _ i _ => 2 - (intOf i).toNat)
      case atStart =>
        have h0 := HO.out.1
        simp at h0
        exact ⟨0, [], Or.inl ⟨rfl, rfl, rfl⟩, by rw [h0]; exact HO.out, HB.out⟩
      case round =>
        obtain ⟨k, zs, hcase, hown, hbel⟩ := hrel
        obtain ⟨i5, hi5, hz0, hz1, hz2⟩ := info_parts infoByte
        rcases hcase with ⟨rfl, rfl, rfl⟩ | ⟨rfl, rfl, rfl⟩ | ⟨rfl, rfl, rfl⟩
        · obtain ⟨v', w', hap, hown', hgr, hbase⟩ := app_own (P := Try.prog) wr w.heap.size 22 22 5 i5 _ Try.underlying22 hi5 hz0 hz1 hz2 rfl _ 0 [] hown A1 n1 c1 xs (H1.out.below hbel) (by omega) hbel.size
          have HO' := Lib.hid hown'; have HB' := Lib.hid (hbel.grown hgr hbel.size fun k hk => (hown.lt k hk).1)
          have q0 := (hbel.cell (p := ⟨g, 0, none⟩) HG.out).trans P0.out
          clear hown hbel hown' hgr hbase hi5 hz0 hz1 hz2
          go_wp2_with (at_builtin; refine wpl_app_run rfl rfl rfl rfl hap ?_)
          clear hap
          go_roundw
          case rel => exact ⟨n1, xs, Or.inr (Or.inl ⟨rfl, rfl, rfl⟩), by have := HO'.out; rw [Nat.zero_add, List.nil_append] at this; exact this, HB'.out⟩
          case measure => simp [intOf]
        · obtain ⟨v', w', hap, hown', hgr, hbase⟩ := app_own (P := Try.prog) wr w.heap.size 22 22 5 i5 _ Try.underlying22 hi5 hz0 hz1 hz2 rfl _ _ _ hown A2 n2 c2 ys (H2.out.below hbel) (by omega) hbel.size
          have HO' := Lib.hid hown'; have HB' := Lib.hid (hbel.grown hgr hbel.size fun k hk => (hown.lt k hk).1)
          have q1 := (hbel.cell (p := ⟨g, 1, none⟩) HG.out).trans P1.out
          clear hown hbel hown' hgr hbase hi5 hz0 hz1 hz2
          go_wp2_with (at_builtin; refine wpl_app_run rfl rfl rfl rfl hap ?_)
          clear hap
          go_roundw
          case rel => exact ⟨_, _, Or.inr (Or.inr ⟨rfl, rfl, rfl⟩), HO'.out, HB'.out⟩
          case measure => simp [intOf]
        · have hby : ∀ b ∈ xs ++ ys, 0 ≤ b ∧ b ≤ 255 := by
            intro b hb
            rcases List.mem_append.1 hb with h | h
            · exact hb1.out b h
            · exact hb2.out b h
          obtain ⟨A3, c3, rfl, hbs⟩ := Bs.of_own hown hby
          have HBS := Lib.hid hbs; have HB' := Lib.hid hbel
          clear hown hbel hby hbs hi5 hz0 hz1 hz2
          go_wp2
          go_ret
          exact ⟨_, _, _, rfl, HBS.out, HB'.out⟩
end Go.Proofs.Ytipjbgmikbbkoaa
