/- What the document's own Same of layer 11 answers of equal lists, and the statements' own has and without; for lists of up to 16384. -/
import Derived.Test.YtpkegfochfkkcaaNotD
namespace Go.Proofs.Ytpkegfochfkkcaa
set_option linter.unusedVariables false
set_option linter.unusedSimpArgs false
open Go.RowKit
/-- a list but for a number. -/
def wo11 (k : Int) : List Int → List Int
  | [] => []
  | x :: l => if x = k then wo11 k l else x :: wo11 k l
theorem wo11_add (k x : Int) : ∀ (l : List Int), wo11 k (l ++ [x]) = if x = k then wo11 k l else wo11 k l ++ [x]
  | [] => by show (if x = k then wo11 k [] else x :: wo11 k []) = _; split <;> rfl
  | y :: l => by
    show (if y = k then wo11 k (l ++ [x]) else y :: wo11 k (l ++ [x])) = _
    rw [wo11_add k x l]
    by_cases hy : y = k
    · rw [if_pos hy, show wo11 k (y :: l) = wo11 k l from if_pos hy]
    · rw [if_neg hy, show wo11 k (y :: l) = y :: wo11 k l from if_neg hy]
      split <;> rfl
theorem wo11_len (k : Int) : ∀ l, (wo11 k l).length ≤ l.length
  | [] => Nat.le_refl _
  | y :: l => by
    have := wo11_len k l
    unfold wo11
    split <;> simp <;> omega
def OwnN (w : World) (xs : List Int) (e : Ending) (w' : World) : Prop := ∃ A n c, e = .returned (.slice A n c) ∧ w'.ownsRow w.heap.size 3 1 (.slice A n c) n (intC xs) ∧ Below w.heap.size w w'
theorem ints_at {xs : List Int} {i : Nat} {x : Int} (h : xs.drop i = x :: xs.drop (i + 1)) : i < xs.length ∧ xs.take (i + 1) = xs.take i ++ [x] := by
  have hl : i < xs.length := by
    rcases Nat.lt_or_ge i xs.length with h1 | h1
    · exact h1
    · rw [List.drop_of_length_le h1] at h; cases h
  refine ⟨hl, ?_⟩
  have h2 := List.drop_eq_getElem_cons hl
  rw [h] at h2; injection h2 with h2 _
  rw [List.take_add_one, List.getElem?_eq_getElem hl, ← h2]; rfl
set_option maxRecDepth 100000 in
set_option maxHeartbeats 4000000 in
theorem refSame11_eq (A : Option Addr) (n c : Nat) (ws : List Wt) (wa to : Int) (B : Option Addr) (m d : Nat) (w : World) (hx : Wts w A n c ws) (hy : Wts w B m d ws) (hn : n ≤ 16384) :
    Calls Try.prog 29 #[.agg #[.int .u32 wa, .int .u32 to, .slice A n c], .agg #[.int .u32 wa, .int .u32 to, .slice B m d]] w (YesN w true) := by
  have hlen := hx.len
  have hm : m = n := by have := hy.len; omega
  subst hm
  have RX := Lib.hid hx; have RY := Lib.hid hy
  clear hx hy
  obtain ⟨v1, hv1⟩ : ∃ W, w.alloc (.cells #[.int .u32 wa, .int .u32 to, .slice A m c] 26) = W := ⟨_, rfl⟩
  have fr1 : Fr w v1 w.heap.size [.cells #[.int .u32 wa, .int .u32 to, .slice A m c] 26] := hv1 ▸ Fr.first w _
  have z1 : v1.heap.size = w.heap.size + 1 := by rw [← hv1, Fr.size1]
  obtain ⟨v2, hv2⟩ : ∃ W, v1.alloc (.cells #[.int .u32 wa, .int .u32 to, .slice B m d] 26) = W := ⟨_, rfl⟩
  have fr2 : Fr w v2 w.heap.size [.cells #[.int .u32 wa, .int .u32 to, .slice A m c] 26, .cells #[.int .u32 wa, .int .u32 to, .slice B m d] 26] := hv2 ▸ fr1.more z1 _
  have z2 : v2.heap.size = w.heap.size + 2 := by rw [← hv2, Fr.size1, z1]
  generalize hq : w.heap.size = q at *
  have FR := Lib.hid fr2
  clear fr1 fr2
  have e0 : (wa != wa) = false := by simp
  have e1 : (to != to) = false := by simp
  have e2 : ((m : Int) != (m : Int)) = false := by simp
  have e2n : (m != m) = false := by simp
  have c00 : v2.cell? ⟨q, 0, none⟩ = some (.int .u32 wa) := FR.out.cell 0 0 rfl rfl rfl
  have c01 : v2.cell? ⟨q, 1, none⟩ = some (.int .u32 to) := FR.out.cell 0 1 rfl rfl rfl
  have c02 : v2.cell? ⟨q, 2, none⟩ = some (.slice A m c) := FR.out.cell 0 2 rfl rfl rfl
  have c10 : v2.cell? ⟨q + 1, 0, none⟩ = some (.int .u32 wa) := FR.out.cell 1 0 rfl rfl rfl
  have c11 : v2.cell? ⟨q + 1, 1, none⟩ = some (.int .u32 to) := FR.out.cell 1 1 rfl rfl rfl
  have c12 : v2.cell? ⟨q + 1, 2, none⟩ = some (.slice B m d) := FR.out.cell 1 2 rfl rfl rfl
  go_enter Try.func29, Try.ntmps29
  go_wp2
  clear c00 c01 c02 c10 c11 c12
  clear hv1 hv2 z1 z2
  go_loopw [5] (fun iv wr => ∃ (i : Nat), iv = .int .i64 (i : Int) ∧ i ≤ m ∧ Hid (Fr w wr q [.cells #[.int .u32 wa, .int .u32 to, .slice A m c] 26, .cells #[.int .u32 wa, .int .u32 to, .slice B m d] 26])) (fun iv _ => m - (intOf iv).toNat)
  case atStart => exact ⟨0, rfl, by omega, FR.out⟩
  case round =>
    clear FR
    obtain ⟨i, rfl, hi, FR⟩ := hrel
    by_cases hlt : i < m
    · have c1 : decide ((i : Int) < (m : Int)) = true := by simpa using hlt
      have i0 : (0 : Int) ≤ (i : Int) := by omega
      have i1 : (i : Int) < (m : Int) := by omega
      obtain ⟨b, off, rfl, _, k0, k1⟩ := Wts.look (ws := ws) (FR.out.es RX.out) i hlt
      obtain ⟨b2, off2, rfl, _, g0, g1⟩ := Wts.look (ws := ws) (FR.out.es RY.out) i hlt
      have hne := wt_neq (wtAt ws i) (wtAt ws i)
      rw [decide_eq_false (fun h => h rfl)] at hne
      generalize wtAt ws i = r at *
      have c00 : wr.cell? ⟨q, 0, none⟩ = some (.int .u32 wa) := FR.out.cell 0 0 rfl rfl rfl
      have c01 : wr.cell? ⟨q, 1, none⟩ = some (.int .u32 to) := FR.out.cell 0 1 rfl rfl rfl
      have c02 : wr.cell? ⟨q, 2, none⟩ = some (.slice (some ⟨b, off, none⟩) m c) := FR.out.cell 0 2 rfl rfl rfl
      have c10 : wr.cell? ⟨q + 1, 0, none⟩ = some (.int .u32 wa) := FR.out.cell 1 0 rfl rfl rfl
      have c11 : wr.cell? ⟨q + 1, 1, none⟩ = some (.int .u32 to) := FR.out.cell 1 1 rfl rfl rfl
      have c12 : wr.cell? ⟨q + 1, 2, none⟩ = some (.slice (some ⟨b2, off2, none⟩) m d) := FR.out.cell 1 2 rfl rfl rfl
      go_wp2
      go_quiet (fail)
      go_wp2
      go_roundw
      case rel => exact ⟨i + 1, by go_num, by omega, ⟨FR.out.blk, bel_drewN FR.out.bel _, FR.out.sz, FR.out.q0⟩⟩
      case measure => simp [intOf]; omega
    · have en : i = m := by omega
      have c1 : decide ((i : Int) < (m : Int)) = false := by simp; omega
      have c1n : decide (i < m) = false := by simp; omega
      clear en hlt hi
      have c00 : wr.cell? ⟨q, 0, none⟩ = some (.int .u32 wa) := FR.out.cell 0 0 rfl rfl rfl
      have c01 : wr.cell? ⟨q, 1, none⟩ = some (.int .u32 to) := FR.out.cell 0 1 rfl rfl rfl
      have c02 : wr.cell? ⟨q, 2, none⟩ = some (.slice A m c) := FR.out.cell 0 2 rfl rfl rfl
      have c10 : wr.cell? ⟨q + 1, 0, none⟩ = some (.int .u32 wa) := FR.out.cell 1 0 rfl rfl rfl
      have c11 : wr.cell? ⟨q + 1, 1, none⟩ = some (.int .u32 to) := FR.out.cell 1 1 rfl rfl rfl
      have c12 : wr.cell? ⟨q + 1, 2, none⟩ = some (.slice B m d) := FR.out.cell 1 2 rfl rfl rfl
      go_wp2
      go_ret
      exact ⟨rfl, FR.out.out⟩
end Go.Proofs.Ytpkegfochfkkcaa
