/- How data of any shape that came in is opened: numbers, structs, slices, one within the other; no condition but those in each theorem. -/
import Derived.Test.YtpkegfochfkkcaaL
import Derived.Test.YtpkegfochfkkcaaE
namespace Go.Proofs.Ytpkegfochfkkcaa
set_option maxRecDepth 100000
set_option linter.unusedVariables false
set_option linter.unusedSimpArgs false
open Go.ChangeShapes Go.WideShapes Go.ChangeAt Go.RowKit

/-- what comes in at type t reads as something that R tells. -/
def Opens (t : TypeId) {α : Type} (R : World → List Value → α → Prop) : Prop :=
  ∀ {H : Type} {enc : TypeId × Value → H} {w : World} {base : Nat} {sp : Nat → Bool} {held : Bool} {fuel : Nat} {cs : List Value} {x : DataW H × List MemPlace},
    DataW.trod enc Try.prog w base sp held fuel t cs = some x → ∃ a, R w cs a
/-- the slice '.slice A n c', of elements of k cells each, reads, in w, as the list l, element by element by R. -/
structure Sl {α : Type} (R : World → List Value → α → Prop) (k : Nat) (w : World) (A : Option Addr) (n c : Nat) (l : List α) : Prop where
  len : l.length = n
  cap : n ≤ c
  mem : 0 < n → ∃ b off, A = some ⟨b, off, none⟩ ∧ b < w.heap.size
  elt : ∀ b off, A = some ⟨b, off, none⟩ → ∀ i a, l[i]? = some a → ∃ es : List Value, es.length = k ∧ (∀ j u, es[j]? = some u → w.cell? ⟨b, off + i * k + j, none⟩ = some u) ∧ R w es a

theorem opens_int {t : TypeId} {k : IntKind} (ht : Try.prog.underlying t = some (.int k)) : Opens t (fun _ cs (n : Int) => cs = [.int k n] ∧ (Lit.int k n).wf = true) := by
  intro H enc w base sp held fuel cs x h
  obtain ⟨n, h1, _, h2⟩ := DataW.trod_int ht h
  exact ⟨n, h1, h2⟩
theorem opens_bool {t : TypeId} (ht : Try.prog.underlying t = some .bool) : Opens t (fun _ cs (b : Bool) => cs = [.bool b]) := by
  intro H enc w base sp held fuel cs x h
  obtain ⟨b, h1, _⟩ := DataW.trod_bool ht h
  exact ⟨b, h1⟩
/-- a struct's fields, one by one. -/
theorem opens_fields {t : TypeId} {fs : Array Field} {k : Nat} (ht : Try.prog.underlying t = some (.struct fs)) (hk : Try.prog.cellsOf t = k)
    {H : Type} {enc : TypeId × Value → H} {w : World} {base : Nat} {sp : Nat → Bool} {held : Bool} {fuel : Nat} {cs : List Value} {x : DataW H × List MemPlace} (h : DataW.trod enc Try.prog w base sp held fuel t cs = some x) :
    cs.length = k ∧ ∀ (i : Nat) (f : Field) (o m : Nat), fs[i]? = some f → f.offset = o → Try.prog.cellsOf f.type = m → ∀ {α : Type} {R : World → List Value → α → Prop}, Opens f.type R → ∃ a, R w ((cs.drop o).take m) a := by
  obtain ⟨xs, n, _, _, hl, hxl, hf⟩ := DataW.trod_struct ht h
  refine ⟨hl.trans hk, fun i f o m hi ho hm α R hR => ?_⟩
  have h1 := hf i f hi
  rw [ho, hm] at h1
  have hlt : i < xs.length := by
    rw [hxl]
    rcases Nat.lt_or_ge i fs.size with h2 | h2
    · exact h2
    · rw [Array.getElem?_eq_none h2] at hi; cases hi
  rw [List.getElem?_eq_getElem hlt] at h1
  exact hR h1
theorem opens_slice {t e : TypeId} {k : Nat} (ht : Try.prog.underlying t = some (.slice e)) (hk : Try.prog.cellsOf e = k) (hk0 : 0 < k) {α : Type} [Inhabited α] {R : World → List Value → α → Prop} (hR : Opens e R) :
    Opens t (fun w cs (l : List α) => ∃ A n c, cs = [.slice A n c] ∧ Sl R k w A n c l) := by
  intro H enc w base sp held fuel cs x h
  rcases DataW.trod_slice ht h with ⟨hcs, _⟩ | ⟨ad, l, c, elems, rest, m, _, hcs, _, _, hle, _, hel, hall, _, _⟩
  · exact ⟨[], none, 0, 0, hcs, rfl, Nat.le_refl _, fun h => absurd h (by omega), fun _ _ _ i a hi => by simp at hi⟩
  · have hone : ∀ i, ∃ a : α, i < l → ∃ es : List Value, es.length = k ∧ (∀ j u, es[j]? = some u → w.cell? ((ad.add (i * k)).add j) = some u) ∧ R w es a := by
      intro i
      by_cases hi : i < l
      · have h1 := hall i hi
        rw [hk, List.getElem?_eq_getElem (by omega), Option.bind_eq_some_iff] at h1
        obtain ⟨es, h2, h3⟩ := h1
        obtain ⟨a, ha⟩ := hR h3
        obtain ⟨_, h6, h7⟩ := World.cells?_some h2
        refine ⟨a, fun _ => ⟨es, h6, fun j u hj => ?_, ha⟩⟩
        have hjl : j < k := by
          rcases Nat.lt_or_ge j es.length with h | h
          · omega
          · rw [List.getElem?_eq_none h] at hj; cases hj
        rw [h7 j hjl, hj]
      · exact ⟨default, fun h => absurd h hi⟩
    obtain ⟨f, hfn⟩ := Classical.axiomOfChoice hone
    have hspot : 0 < l → ad.spot = none ∧ ad.block < w.heap.size := by
      intro hl
      obtain ⟨es, he, hc, _⟩ := hfn 0 hl
      obtain ⟨u, hu⟩ : ∃ u, es[0]? = some u := ⟨es[0]'(by omega), List.getElem?_eq_getElem (by omega)⟩
      have h0 := hc 0 u hu
      have h1 := World.cell?_spot h0
      have h2 := lt_of_cell h0
      obtain ⟨b, off, spot⟩ := ad
      refine ⟨by simpa [Addr.add] using h1, ?_⟩
      simp only [Addr.add] at h2
      split at h2 <;> split at h2 <;> exact h2
    refine ⟨(List.range l).map f, some ad, l, c, hcs, by simp, hle, fun hn => ?_, fun b off e i a hi => ?_⟩
    · obtain ⟨b, off, spot⟩ := ad
      obtain ⟨h1, h2⟩ := hspot hn
      simp only at h1 h2
      subst h1
      exact ⟨b, off, rfl, h2⟩
    · injection e with e; subst e
      rw [List.getElem?_map, Option.map_eq_some_iff] at hi
      obtain ⟨j, hj, rfl⟩ := hi
      have hjl : i < l := by
        rcases Nat.lt_or_ge i l with h | h
        · exact h
        · rw [List.getElem?_eq_none (by simpa using h)] at hj; cases hj
      rw [List.getElem?_eq_getElem (by simpa using hjl)] at hj
      simp only [List.getElem_range, Option.some.injEq] at hj
      subst hj
      obtain ⟨es, h1, h2, h3⟩ := hfn i hjl
      refine ⟨es, h1, fun j u hj => ?_, h3⟩
      have := h2 j u hj
      rwa [add_plain, add_plain] at this
theorem flat_at {α : Type} {f : α → List Value} {k : Nat} (hf : ∀ a, (f a).length = k) : ∀ (l : List α) (j : Nat) (u : Value), (l.flatMap f)[j]? = some u → ∃ a, l[j / k]? = some a ∧ (f a)[j % k]? = some u
  | [], j, u, h => by simp at h
  | a :: l, j, u, h => by
    rw [List.flatMap_cons] at h
    by_cases hj : j < k
    · rw [List.getElem?_append_left (by rw [hf]; exact hj)] at h
      exact ⟨a, by rw [Nat.div_eq_of_lt hj]; rfl, by rw [Nat.mod_eq_of_lt hj]; exact h⟩
    · rw [List.getElem?_append_right (by rw [hf]; omega), hf] at h
      obtain ⟨b, h1, h2⟩ := flat_at hf l (j - k) u h
      have hk : 0 < k := by
        rcases Nat.eq_zero_or_pos k with h0 | h0
        · have := hf b
          rw [h0] at this
          have := List.eq_nil_of_length_eq_zero this
          rw [this] at h2; simp at h2
        · exact h0
      refine ⟨b, ?_, ?_⟩
      · rw [Nat.div_eq_sub_div hk (by omega)]; exact h1
      · rw [Nat.mod_eq_sub_mod (by omega)]; exact h2
theorem flat_len {α : Type} {f : α → List Value} {k : Nat} (hf : ∀ a, (f a).length = k) : ∀ (l : List α), (l.flatMap f).length = l.length * k
  | [] => by simp
  | a :: l => by rw [List.flatMap_cons, List.length_append, hf, flat_len hf l, List.length_cons, Nat.add_mul, Nat.one_mul, Nat.add_comm]
/-- elements that hold no slices lie there as their cells. -/
theorem Sl.es {α : Type} {R : World → List Value → α → Prop} {k : Nat} {w : World} {A : Option Addr} {n c : Nat} {l : List α} (h : Sl R k w A n c l) (f : α → List Value) (hf : ∀ a, (f a).length = k)
    (h1 : ∀ a, ∀ u ∈ f a, u.oneCell' = true) (hR : ∀ w es a, R w es a → es = f a) : Es w A n c k (l.flatMap f) := by
  refine ⟨by rw [flat_len hf, h.len], h.cap, fun u hu => ?_, fun hn => ?_⟩
  · obtain ⟨a, _, ha⟩ := List.mem_flatMap.1 hu
    exact h1 a u ha
  · obtain ⟨b, off, e, hb⟩ := h.mem hn
    refine ⟨b, off, e, hb, fun j u hj => ?_⟩
    obtain ⟨a, ha, hu⟩ := flat_at hf l j u hj
    obtain ⟨es, _, h2, h3⟩ := h.elt b off e _ _ ha
    rw [hR _ _ _ h3] at h2
    have := h2 _ u hu
    rwa [Nat.add_assoc, Nat.mul_comm, Nat.div_add_mod] at this
/-- what R tells of each element. -/
theorem Sl.all {α : Type} {R : World → List Value → α → Prop} {k : Nat} {w : World} {A : Option Addr} {n c : Nat} {l : List α} (h : Sl R k w A n c l) {G : α → Prop} (hR : ∀ w es a, R w es a → G a) : ∀ a ∈ l, G a := by
  intro a ha
  obtain ⟨i, hi, rfl⟩ := List.mem_iff_getElem.1 ha
  obtain ⟨b, off, e, hb⟩ := h.mem (by have := h.len; omega)
  obtain ⟨es, _, _, h3⟩ := h.elt b off e i _ (List.getElem?_eq_getElem hi)
  exact hR _ _ _ h3
section
variable {H : Type} {enc : TypeId × Value → H} {w : World} {base : Nat} {sp : Nat → Bool} {held : Bool} {r : Reach} {b0 : Nat} {v : Value} {d : DataW H} {p : List MemPlace}
theorem open_at_struct {t : TypeId} {fs : Array Field} (ht : Try.prog.underlying t = some (.struct fs)) {α : Type} {R : World → List Value → α → Prop} (hR : Opens t R)
    (hv : Value.okWide Try.prog w r b0 t v) (h : DataW.Trod enc Try.prog w base sp held t v d p) : ∃ cs a, v = .agg cs ∧ R w cs.toList a := by
  simp only [Value.okWide, ht] at hv
  obtain ⟨cs, rfl, _, _⟩ := hv
  obtain ⟨fuel, hf⟩ := h
  obtain ⟨a, ha⟩ := hR hf
  exact ⟨cs, a, rfl, ha⟩
theorem open_at_slice {t e : TypeId} (ht : Try.prog.underlying t = some (.slice e)) {α : Type} {R : World → List Value → α → Prop} (hR : Opens t R)
    (hv : Value.okWide Try.prog w r b0 t v) (h : DataW.Trod enc Try.prog w base sp held t v d p) : ∃ A n c a, v = .slice A n c ∧ R w [.slice A n c] a := by
  obtain ⟨a, len, cap, rfl⟩ := okWide_slice ht hv
  obtain ⟨fuel, hf⟩ := h
  obtain ⟨x, hx⟩ := hR hf
  exact ⟨a, len, cap, x, rfl, hx⟩
end
theorem agg_of {cs : Array Value} {l : List Value} (h : cs.toList = l) : Value.agg cs = .agg l.toArray := by
  subst h; rfl
end Go.Proofs.Ytpkegfochfkkcaa
