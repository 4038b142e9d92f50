/- Words on memory for slices of sections: how such a slice reads as a list of sections, and what appending one leaves; over any world. -/
import Derived.Test.YtipjbgmikbbkoaaSecH
namespace Go.Proofs.Ytipjbgmikbbkoaa
set_option linter.unusedVariables false
set_option linter.unusedSimpArgs false
open Go.RowKit

/-- the slice value '.slice A n c' reads, in w, as the sections ss. -/
structure Ss (w : World) (A : Option Addr) (n c : Nat) (ss : List (Int × List Int)) : Prop where
  len : ss.length = n
  cap : n ≤ c
  tag : ∀ s ∈ ss, 0 ≤ s.1 ∧ s.1 ≤ 255
  mem : 0 < n → ∃ b off, A = some ⟨b, off, none⟩ ∧ b < w.heap.size ∧ ∀ i, i < n → ∃ B m d, w.cell? ⟨b, off + i * 2, none⟩ = some (.int .u8 (ss.getD i (0, [])).1) ∧
    w.cell? ⟨b, off + i * 2 + 1, none⟩ = some (.slice B m d) ∧ Bs w B m d (ss.getD i (0, [])).2
/-- what lies in a row of sections. -/
abbrev SRow := Int × Option Addr × Nat × Nat
def flat : List SRow → List Value
  | [] => []
  | r :: rs => .int .u8 r.1 :: .slice r.2.1 r.2.2.1 r.2.2.2 :: flat rs
theorem flat_len : ∀ rs : List SRow, (flat rs).length = rs.length * 2
  | [] => rfl
  | r :: rs => by simp only [flat, List.length_cons, flat_len rs]; omega
theorem flat_append : ∀ xs ys : List SRow, flat (xs ++ ys) = flat xs ++ flat ys
  | [], _ => rfl
  | x :: xs, ys => by simp only [List.cons_append, flat, flat_append xs ys]
theorem flat_get : ∀ (rs : List SRow) (i : Nat) (r : SRow), rs[i]? = some r → (flat rs)[i * 2]? = some (.int .u8 r.1) ∧ (flat rs)[i * 2 + 1]? = some (.slice r.2.1 r.2.2.1 r.2.2.2)
  | [], i, r, h => by simp at h
  | x :: rs, 0, r, h => by simp at h; subst h; exact ⟨rfl, rfl⟩
  | x :: rs, i + 1, r, h => by
    have h2 := flat_get rs i r (by simpa using h)
    have e : (i + 1) * 2 = i * 2 + 1 + 1 := by omega
    rw [e]
    simpa [flat] using h2
theorem flat_one : ∀ (rs : List SRow), ∀ v ∈ flat rs, v.oneCell' = true
  | [], v, h => by simp [flat] at h
  | x :: rs, v, h => by
    simp only [flat, List.mem_cons] at h
    rcases h with rfl | rfl | h
    · rfl
    · rfl
    · exact flat_one rs v h
/-- the row's cells read as the sections; the bodies lie in blocks from base on, but not in g. -/
def Rows4 (w : World) (base : Nat) (g : Option Nat) : List SRow → List (Int × List Int) → Prop
  | [], [] => True
  | r :: rs, s :: ss => r.1 = s.1 ∧ (0 ≤ s.1 ∧ s.1 ≤ 255) ∧ Bs w r.2.1 r.2.2.1 r.2.2.2 s.2 ∧ (0 < r.2.2.1 → ∀ a, r.2.1 = some a → base ≤ a.block ∧ some a.block ≠ g) ∧ Rows4 w base g rs ss
  | _, _ => False
theorem Rows4.len {w : World} {base : Nat} {g : Option Nat} : ∀ {rs : List SRow} {ss : List (Int × List Int)}, Rows4 w base g rs ss → rs.length = ss.length
  | [], [], _ => rfl
  | r :: rs, s :: ss, h => by simp only [List.length_cons]; rw [h.2.2.2.2.len]
  | [], s :: ss, h => h.elim
  | r :: rs, [], h => h.elim
theorem Rows4.tag {w : World} {base : Nat} {g : Option Nat} : ∀ {rs : List SRow} {ss : List (Int × List Int)}, Rows4 w base g rs ss → ∀ s ∈ ss, 0 ≤ s.1 ∧ s.1 ≤ 255
  | [], [], _, s, hs => by simp at hs
  | r :: rs, s :: ss, h, x, hx => by
    rcases List.mem_cons.1 hx with rfl | hx
    · exact h.2.1
    · exact h.2.2.2.2.tag x hx
  | [], s :: ss, h, _, _ => h.elim
  | r :: rs, [], h, _, _ => h.elim
theorem Rows4.get {w : World} {base : Nat} {g : Option Nat} : ∀ {rs : List SRow} {ss : List (Int × List Int)} (i : Nat), Rows4 w base g rs ss → i < ss.length → ∃ r, rs[i]? = some r ∧ r.1 = (ss.getD i (0, [])).1 ∧ Bs w r.2.1 r.2.2.1 r.2.2.2 (ss.getD i (0, [])).2
  | [], [], i, _, hi => by simp at hi
  | r :: rs, s :: ss, 0, h, _ => ⟨r, rfl, by simpa using h.1, by simpa using h.2.2.1⟩
  | r :: rs, s :: ss, i + 1, h, hi => by
    obtain ⟨r', h1, h2, h3⟩ := h.2.2.2.2.get i (by simpa using hi)
    exact ⟨r', by simpa using h1, by simpa using h2, by simpa using h3⟩
  | [], s :: ss, _, h, _ => h.elim
  | r :: rs, [], _, h, _ => h.elim
theorem Rows4.append {w : World} {base : Nat} {g : Option Nat} {rs2 : List SRow} {ss2 : List (Int × List Int)} (h2 : Rows4 w base g rs2 ss2) : ∀ {rs : List SRow} {ss : List (Int × List Int)}, Rows4 w base g rs ss → Rows4 w base g (rs ++ rs2) (ss ++ ss2)
  | [], [], _ => h2
  | r :: rs, s :: ss, h => ⟨h.1, h.2.1, h.2.2.1, h.2.2.2.1, Rows4.append h2 h.2.2.2.2⟩
  | [], s :: ss, h => h.elim
  | r :: rs, [], h => h.elim
/-- in a later world in which only block q may have turned, and no body lies there. -/
theorem Rows4.turn {w w' : World} {base : Nat} {g g' : Option Nat} {q : Option Nat} (hg : w.grownBy w' q) (hq : ∀ k, base ≤ k → some k ≠ g → k < w.heap.size → some k ≠ q ∧ some k ≠ g') :
    ∀ {rs : List SRow} {ss : List (Int × List Int)}, Rows4 w base g rs ss → Rows4 w' base g' rs ss
  | [], [], _ => trivial
  | r :: rs, s :: ss, h => by
    have hlt : ∀ a, 0 < r.2.2.1 → r.2.1 = some a → a.block < w.heap.size := fun a hm ha => by
      obtain ⟨b, off, e, hb, _⟩ := h.2.2.1.mem hm
      rw [ha] at e; injection e with e; subst e; exact hb
    refine ⟨h.1, h.2.1, h.2.2.1.grownF hg fun hm a ha => ?_, fun hm a ha => ⟨(h.2.2.2.1 hm a ha).1, ?_⟩, Rows4.turn hg hq h.2.2.2.2⟩
    · exact (hq a.block (h.2.2.2.1 hm a ha).1 (h.2.2.2.1 hm a ha).2 (hlt a hm ha)).1
    · exact (hq a.block (h.2.2.2.1 hm a ha).1 (h.2.2.2.1 hm a ha).2 (hlt a hm ha)).2
  | [], s :: ss, h => h.elim
  | r :: rs, [], h => h.elim
/-- a row of sections of the call's own. -/
def OwnSs (w : World) (base : Nat) (v : Value) (ss : List (Int × List Int)) : Prop :=
  ∃ rs, w.ownsRow base 24 2 v ss.length (flat rs) ∧ Rows4 w base v.ownBlock rs ss
theorem OwnSs.nil (w : World) (base : Nat) : OwnSs w base (.slice none 0 0) [] := ⟨[], World.ownsRow_nil _ _ _ _, trivial⟩
theorem OwnSs.ss {w : World} {base : Nat} {v : Value} {ss : List (Int × List Int)} (h : OwnSs w base v ss) : ∃ A n c, v = .slice A n c ∧ Ss w A n c ss := by
  obtain ⟨rs, ho, hr⟩ := h
  have hl := hr.len
  rcases ho.2 with ⟨rfl, h0⟩ | ⟨g, cap, cur, rfl, hg, hh, hnc, hcap, hsz, hcur⟩
  · obtain rfl : ss = [] := List.eq_nil_of_length_eq_zero h0
    exact ⟨_, _, _, rfl, rfl, Nat.le_refl _, by simp, fun h => absurd h (by simp)⟩
  · refine ⟨_, _, _, rfl, rfl, hnc, hr.tag, fun hn => ⟨g, 0, rfl, heap_lt hh, fun i hi => ?_⟩⟩
    obtain ⟨r, h1, h2, h3⟩ := hr.get i hi
    obtain ⟨f1, f2⟩ := flat_get rs i r h1
    have c1 := ho.cells (g := g) (by simp [Value.ownBlock]) _ _ f1
    have c2 := ho.cells (g := g) (by simp [Value.ownBlock]) _ _ f2
    rw [add_plain] at c1 c2
    exact ⟨_, _, _, by rw [← h2]; exact c1, by rw [Nat.add_assoc]; exact c2, h3⟩
theorem OwnSs.block {w : World} {base : Nat} {v : Value} {ss : List (Int × List Int)} (h : OwnSs w base v ss) : ∀ k, v.ownBlock = some k → base ≤ k ∧ k < w.heap.size := by
  obtain ⟨rs, ho, hr⟩ := h; exact ho.lt
/-- .. still so, where only a block below base, or none, has turned. -/
theorem OwnSs.turn {w w' : World} {base : Nat} {v : Value} {ss : List (Int × List Int)} {q : Option Nat} (h : OwnSs w base v ss) (hg : w.grownBy w' q) (hq : ∀ k, q = some k → k < base ∨ w.heap.size ≤ k) : OwnSs w' base v ss := by
  obtain ⟨rs, ho, hr⟩ := h
  have hne : ∀ k, base ≤ k → k < w.heap.size → some k ≠ q := fun k hk hl he => by rcases hq k he.symm with h | h <;> omega
  refine ⟨rs, ?_, hr.turn hg fun k h1 h2 h3 => ⟨hne k h1 h3, h2⟩⟩
  refine ho.kept hg ?_
  cases hv : v.ownBlock with
  | none => exact Or.inl rfl
  | some k => exact Or.inr (hne k (ho.lt k hv).1 (ho.lt k hv).2)
theorem infoSec : (Try.prog.info? 24).map (fun i => (i.zero, i.size, i.bytes)) = some (some (.agg #[.int .u8 0, .slice none 0 0]), 2, 32) := by kernel_rfl
/-- one section more. -/
theorem OwnSs.app {w : World} {base : Nat} {v : Value} {ss : List (Int × List Int)} (h : OwnSs w base v ss) (hbase : base ≤ w.heap.size) (hn : ss.length ≤ 65535) {t : Int} {B : Option Addr} {m d : Nat} {body : List Int} (hb : Bs w B m d body) (ht : 0 ≤ t ∧ t ≤ 255)
    (hne : 0 < m → ∀ a, B = some a → base ≤ a.block ∧ some a.block ≠ v.ownBlock) (ty : TypeId) :
    ∃ v' w', (Builtin.append_ #[32, 32] ty #[v, .slice (some ⟨w.heap.size, 0, none⟩) 1 1]).run Try.prog (w.alloc (.cells #[.int .u8 t, .slice B m d] 24)) = .ok v' w' ∧
      OwnSs w' base v' (ss ++ [(t, body)]) ∧ w.grownBy w' v.ownBlock ∧ ∃ A n c, v' = .slice A n c := by
  obtain ⟨rs, ho, hr⟩ := h
  obtain ⟨i, hi, hz0, hz1, hz2⟩ := info_parts infoSec
  have hnew : ∀ j u, ([Value.int .u8 t, .slice B m d])[j]? = some u → (w.alloc (.cells #[.int .u8 t, .slice B m d] 24)).cell? ((⟨w.heap.size, 0, none⟩ : Addr).add j) = some u := by
    intro j u hj
    rw [add_plain, cell_of_row _ w.heap.size _ _ _ (0, 0) (heap_alloc_new w _)]
    simpa using hj
  obtain ⟨v', w', hrun, hown, hgr, _, hblk⟩ := run_append_own_at (P := Try.prog) (w.alloc (.cells #[.int .u8 t, .slice B m d] 24)) base 32 ty 24 i _ 2 32 Try.underlying32 hi hz0 hz1 hz2 rfl (by omega) v ss.length _ (ho.alloc _)
    ⟨w.heap.size, 0, none⟩ 1 1 [.int .u8 t, .slice B m d] rfl hnew (by
      intro u hu
      simp at hu
      rcases hu with rfl | rfl <;> rfl) (by unfold maxLen; omega) (by omega) (by simp; omega)
  have hg2 : w.grownBy w' v.ownBlock := grown_trans (grown_alloc (World.grownBy.refl w _) _) hgr
  have hr1 : Rows4 w base v.ownBlock (rs ++ [(t, B, m, d)]) (ss ++ [(t, body)]) := Rows4.append (rs2 := [(t, B, m, d)]) (ss2 := [(t, body)]) ⟨rfl, ht, hb, hne, trivial⟩ hr
  have hos : OwnSs w' base v' (ss ++ [(t, body)]) := by
    refine ⟨rs ++ [(t, B, m, d)], ?_, hr1.turn hg2 fun k h1 h2 h3 => ⟨h2, ?_⟩⟩
    · rw [flat_append, List.length_append]; exact hown
    · rcases hblk with h | h
      · rw [h]; exact h2
      · rw [h]; simp; omega
  obtain ⟨A, n, c, e, _⟩ := hos.ss
  exact ⟨v', w', hrun, hos, hg2, A, n, c, e⟩
section
variable {w w' : World} {A : Option Addr} {n c : Nat} {ss : List (Int × List Int)}
theorem Ss.below (h : Ss w A n c ss) (hb : Below w.heap.size w w') : Ss w' A n c ss :=
  ⟨h.len, h.cap, h.tag, fun hn => by
    obtain ⟨b, off, e, hl, hc⟩ := h.mem hn
    refine ⟨b, off, e, by have := hb.size; omega, fun i hi => ?_⟩
    obtain ⟨B, m, d, c1, c2, h3⟩ := hc i hi
    exact ⟨B, m, d, (hb.cell (p := ⟨_, _, none⟩) hl).trans c1, (hb.cell (p := ⟨_, _, none⟩) hl).trans c2, h3.below hb⟩⟩
theorem Ss.drew (h : Ss w A n c ss) : Ss w.drew A n c ss := h.below (Below.refl _ _).drew
theorem Ss.nil (w : World) (A : Option Addr) (c : Nat) : Ss w A 0 c [] := ⟨rfl, Nat.zero_le _, by simp, fun h => absurd h (by omega)⟩
/-- one section of such a slice. -/
theorem Ss.look (h : Ss w A n c ss) (i : Nat) (hi : i < n) : ∃ b off s B m d, A = some ⟨b, off, none⟩ ∧ b < w.heap.size ∧ w.cell? ⟨b, off + i * 2, none⟩ = some (.int .u8 s.1) ∧ w.cell? ⟨b, off + i * 2 + 1, none⟩ = some (.slice B m d) ∧
    Bs w B m d s.2 ∧ (0 ≤ s.1 ∧ s.1 ≤ 255) ∧ ss.drop i = s :: ss.drop (i + 1) ∧ ss.getD i (0, []) = s := by
  obtain ⟨b, off, e, hl, hc⟩ := h.mem (by omega)
  obtain ⟨B, m, d, c1, c2, h3⟩ := hc i hi
  have hil : i < ss.length := by have := h.len; omega
  have hs : ss.getD i (0, []) ∈ ss := by simp [List.getD, List.getElem?_eq_getElem hil]
  exact ⟨b, off, _, B, m, d, e, hl, c1, c2, h3, h.tag _ hs, by rw [List.drop_eq_getElem_cons hil]; simp [List.getD, List.getElem?_eq_getElem hil], rfl⟩
end
end Go.Proofs.Ytipjbgmikbbkoaa
