/- Plain mathematics of layer 7: arenas as lists of records, the free list, what is taken and given back; no condition but those in each theorem. -/
import Derived.Test.YtpkegfochfkkcaaE
namespace Go.Proofs.Ytpkegfochfkkcaa
set_option linter.unusedVariables false
set_option linter.unusedSimpArgs false
open Go.RowKit

/-- results that lie in memory. -/
theorem res_c {P : Program} {fn : Func} {tmps : Array Value} {a : Nat} {t : TypeId} {ad : Addr} {v : Value} {w : World} (h : fn.results = #[.cell a t]) (hp : tmps.getD a undef = .pointer (some ad))
    (hl : (loadVar t ad).run P w = .ok v w) : (results fn tmps).run P w = .ok v w := by
  unfold results
  rw [h]
  have hp2 : tmps[a]?.getD undef = .pointer (some ad) := by simpa using hp
  simp only [List.mapM_toArray, List.mapM_cons, List.mapM_nil]
  simp [Sem.run_bind, hp2]
  rw [show (Sem.run P (asAddr (Value.pointer (some ad))) w) = Result.ok ad w from rfl]
  simp [hl]
theorem res_cs {P : Program} {fn : Func} {tmps : Array Value} {a b : Nat} {t : TypeId} {ad : Addr} {v : Value} {w : World} (h : fn.results = #[.cell a t, .tmp b]) (hp : tmps.getD a undef = .pointer (some ad))
    (hl : (loadVar t ad).run P w = .ok v w) : (results fn tmps).run P w = .ok (.tuple #[v, tmps.getD b undef]) w := by
  unfold results
  rw [h]
  have hp2 : tmps[a]?.getD undef = .pointer (some ad) := by simpa using hp
  simp only [List.mapM_toArray, List.mapM_cons, List.mapM_nil]
  simp [Sem.run_bind, hp2]
  rw [show (Sem.run P (asAddr (Value.pointer (some ad))) w) = Result.ok ad w from rfl]
  simp [hl]
theorem res_css {P : Program} {fn : Func} {tmps : Array Value} {a b c : Nat} {t : TypeId} {ad : Addr} {v : Value} {w : World} (h : fn.results = #[.cell a t, .tmp b, .tmp c]) (hp : tmps.getD a undef = .pointer (some ad))
    (hl : (loadVar t ad).run P w = .ok v w) : (results fn tmps).run P w = .ok (.tuple #[v, tmps.getD b undef, tmps.getD c undef]) w := by
  unfold results
  rw [h]
  have hp2 : tmps[a]?.getD undef = .pointer (some ad) := by simpa using hp
  simp only [List.mapM_toArray, List.mapM_cons, List.mapM_nil]
  simp [Sem.run_bind, hp2]
  rw [show (Sem.run P (asAddr (Value.pointer (some ad))) w) = Result.ok ad w from rfl]
  simp [hl]
/-- a pair in memory, both stored anew. -/
theorem blk_pair {w : World} {b : Nat} {x y : Value} {T : TypeId} (h : w.heap[b]? = some (.cells #[x, y] T)) (u v : Value) : ((w.setCell ⟨b, 0, none⟩ u).setCell ⟨b, 1, none⟩ v).heap[b]? = some (.cells #[u, v] T) := by
  simp only [World.setCell, Array.getElem?_modify]
  rw [if_pos trivial, if_pos trivial, h]
  rfl
theorem blk_snd {w : World} {b : Nat} {x y : Value} {T : TypeId} (h : w.heap[b]? = some (.cells #[x, y] T)) (v : Value) : (w.setCell ⟨b, 1, none⟩ v).heap[b]? = some (.cells #[x, v] T) := by
  simp only [World.setCell, Array.getElem?_modify]
  rw [if_pos trivial, h]
  rfl
/-- a record: its key, its task, its next one. -/
abbrev Rec3 := Int × Int × Int
/-- an arena: its records, and where its free list begins. -/
abbrev Aren := List Rec3 × Int
def noRec : Rec3 := (0, 0, 0)
/-- the record at a place. -/
def recAt (rs : List Rec3) (i : Int) : Rec3 := rs.getD i.toNat noRec
/-- may not stand next in the free list? -/
def badAt (rs : List Rec3) (out : List Int) (at_ : Int) : Prop := at_ < 0 ∨ (rs.length : Int) ≤ at_ ∨ at_ ∈ out ∨ (recAt rs at_).1 ≠ -1 ∨ (recAt rs at_).2.1 ≠ -1
instance (rs : List Rec3) (out : List Int) (at_ : Int) : Decidable (badAt rs out at_) := by unfold badAt; infer_instance
/-- the free list from a place on. -/
def walkF (rs : List Rec3) : Nat → Int → List Int → Option (List Int)
  | 0, _, _ => none
  | f + 1, at_, out => if at_ = -1 then some out else if badAt rs out at_ then none else walkF rs f (recAt rs at_).2.2 (out ++ [at_])
def walkL (p : Aren) : Option (List Int) := walkF p.1 (p.1.length + 1) p.2 []
/-- a record that isn't free is right? -/
def okRec (n : Nat) (l : List Int) (r : Rec3) : Prop := 0 ≤ r.1 ∧ 0 ≤ r.2.1 ∧ -1 ≤ r.2.2 ∧ r.2.2 < (n : Int) ∧ r.2.2 ∉ l
instance (n : Nat) (l : List Int) (r : Rec3) : Decidable (okRec n l r) := by unfold okRec; infer_instance
def okAll (rs : List Rec3) (l : List Int) (k : Nat) : Prop := ∀ i : Nat, i < k → (i : Int) ∈ l ∨ okRec rs.length l (recAt rs i)
/-- what the free list may hold: places, each once. -/
def Places (n : Nat) (l : List Int) : Prop := l.Nodup ∧ ∀ x ∈ l, 0 ≤ x ∧ x < (n : Int)
theorem Places.nil (n : Nat) : Places n [] := ⟨List.nodup_nil, by simp⟩
theorem Places.app {n : Nat} {l : List Int} (h : Places n l) {x : Int} (h0 : 0 ≤ x) (h1 : x < (n : Int)) (hx : x ∉ l) : Places n (l ++ [x]) := by
  refine ⟨List.nodup_append.2 ⟨h.1, by simp, ?_⟩, ?_⟩
  · intro a ha b hb; simp at hb; subst hb; intro e; subst e; exact hx ha
  · intro y hy
    rcases List.mem_append.1 hy with hy | hy
    · exact h.2 y hy
    · simp at hy; subst hy; exact ⟨h0, h1⟩
/-- no more places than there are records. -/
theorem Places.len : ∀ {n : Nat} {l : List Int}, Places n l → l.length ≤ n
  | 0, l, h => by
    cases l with
    | nil => simp
    | cons x l => have := h.2 x (by simp); omega
  | n + 1, l, h => by
    by_cases hm : (n : Int) ∈ l
    · have h2 : Places n (l.erase (n : Int)) := ⟨h.1.erase _, fun x hx => by
        have := (List.Nodup.mem_erase_iff h.1).1 hx
        have h3 := h.2 x this.2
        exact ⟨h3.1, by have := this.1; omega⟩⟩
      have := Places.len h2
      rw [List.length_erase_of_mem hm] at this
      omega
    · have h2 : Places n l := ⟨h.1, fun x hx => by
        have h3 := h.2 x hx
        have : x ≠ (n : Int) := fun e => hm (e ▸ hx)
        exact ⟨h3.1, by omega⟩⟩
      have := Places.len h2
      omega
theorem not_bad {rs : List Rec3} {out : List Int} {at_ : Int} (h : ¬ badAt rs out at_) : 0 ≤ at_ ∧ at_ < (rs.length : Int) ∧ at_ ∉ out ∧ (recAt rs at_).1 = -1 ∧ (recAt rs at_).2.1 = -1 := by
  unfold badAt at h
  simp only [not_or, Int.not_lt, Int.not_le, ne_eq, Decidable.not_not] at h
  exact h
/-- what the walk ends with are places, each once. -/
theorem walkF_places {rs : List Rec3} : ∀ {f : Nat} {at_ : Int} {out l : List Int}, Places rs.length out → walkF rs f at_ out = some l → Places rs.length l
  | 0, _, _, _, _, h => by cases h
  | f + 1, at_, out, l, hp, h => by
    unfold walkF at h
    split at h
    · injection h with h; subst h; exact hp
    · split at h
      · cases h
      · rename_i hb
        obtain ⟨g0, g1, g2, _, _⟩ := not_bad hb
        exact walkF_places (hp.app g0 g1 g2) h
theorem walkL_places {p : Aren} {l : List Int} (h : walkL p = some l) : Places p.1.length l := walkF_places (Places.nil _) h
/-- may an arena be? -/
def rightP (p : Aren) : Prop := p.1.length ≤ 64 ∧ ∃ l, walkL p = some l ∧ okAll p.1 l p.1.length
def rightS (p : Aren) : Bool := decide (p.1.length ≤ 64) && match walkL p with
  | none => false
  | some l => (List.range p.1.length).all fun i => decide ((i : Int) ∈ l) || decide (okRec p.1.length l (recAt p.1 i))
theorem rightS_iff {p : Aren} : rightS p = true ↔ rightP p := by
  unfold rightS rightP okAll
  rw [Bool.and_eq_true, decide_eq_true_iff]
  cases h : walkL p with
  | none => simp
  | some l =>
    simp only [List.all_eq_true, List.mem_range, Bool.or_eq_true, decide_eq_true_iff, Option.some.injEq, exists_eq_left']
theorem rightS_false {p : Aren} (h : ¬ rightP p) : rightS p = false := by
  cases hr : rightS p with
  | false => rfl
  | true => exact absurd (rightS_iff.1 hr) h
/-- the free list, of one that may be. -/
def freeS (p : Aren) : List Int := if rightS p then (walkL p).getD [] else []
theorem freeS_right {p : Aren} {l : List Int} (h : rightS p = true) (hw : walkL p = some l) : freeS p = l := by unfold freeS; rw [if_pos h, hw]; rfl
theorem freeS_wrong {p : Aren} (h : rightS p = false) : freeS p = [] := by unfold freeS; rw [h]; rfl
theorem freeS_places (p : Aren) : Places p.1.length (freeS p) := by
  unfold freeS
  split
  · cases h : walkL p with
    | none => exact Places.nil _
    | some l => exact walkL_places h
  · exact Places.nil _
/-- is a record there that isn't free? -/
def liveS (p : Aren) (i : Int) : Bool := decide (0 ≤ i ∧ i < (p.1.length : Int) ∧ i ∉ freeS p)
def arTake (p : Aren) (key task : Int) : Aren × Int × Int :=
  if rightS p = false ∨ key < 0 ∨ task < 0 then (p, 0, 1) else if p.2 = -1 then (p, 0, 6) else ((p.1.set p.2.toNat (key, task, -1), (recAt p.1 p.2).2.2), p.2, 0)
/-- does one that isn't free lead to a record? -/
def leadsTo (p : Aren) (i : Int) (k : Nat) : Prop := ∃ j : Nat, j < k ∧ liveS p j = true ∧ (recAt p.1 j).2.2 = i
def leadsB (p : Aren) (i : Int) (k : Nat) : Bool := (List.range k).any fun j => liveS p j && decide ((recAt p.1 j).2.2 = i)
theorem leadsB_iff {p : Aren} {i : Int} {k : Nat} : leadsB p i k = true ↔ leadsTo p i k := by
  unfold leadsB leadsTo
  simp only [List.any_eq_true, List.mem_range, Bool.and_eq_true, decide_eq_true_iff]
def arGive (p : Aren) (i : Int) : Aren × Int :=
  if rightS p = false then (p, 1) else if liveS p i = false then (p, 7) else if leadsB p i p.1.length = true then (p, 8) else ((p.1.set i.toNat (-1, -1, p.2), i), 0)
def arSet (p : Aren) (i next : Int) : Aren × Int :=
  if rightS p = false then (p, 1) else if liveS p i = false then (p, 7) else if next ≠ -1 ∧ liveS p next = false then (p, 1) else
    ((p.1.set i.toNat ((recAt p.1 i).1, (recAt p.1 i).2.1, next), p.2), 0)
/-- n records from a place on, each leading to the one behind it. -/
def freshL : Nat → Nat → List Rec3
  | _, 0 => []
  | at_, 1 => [(-1, -1, -1)]
  | at_, n + 2 => (-1, -1, (at_ : Int) + 1) :: freshL (at_ + 1) (n + 1)
def arMake (n : Int) : Aren × Int := if n < 0 ∨ 64 < n then (([], 0), 1) else ((freshL 0 n.toNat, if n = 0 then -1 else 0), 0)

/-- records as cells. -/
def recC : List Rec3 → List Value
  | [] => []
  | r :: rs => .int .i64 r.1 :: .int .i64 r.2.1 :: .int .i64 r.2.2 :: recC rs
theorem recC_len : ∀ rs, (recC rs).length = rs.length * 3
  | [] => rfl
  | r :: rs => by simp [recC, recC_len rs]; omega
theorem recC_one : ∀ rs, ∀ u ∈ recC rs, u.oneCell' = true
  | [], u, h => by simp [recC] at h
  | r :: rs, u, h => by
    simp only [recC, List.mem_cons] at h
    rcases h with rfl | rfl | rfl | h
    · rfl
    · rfl
    · rfl
    · exact recC_one rs u h
theorem recC_app : ∀ a b, recC (a ++ b) = recC a ++ recC b
  | [], b => rfl
  | r :: a, b => by simp [recC, recC_app a b]
theorem recC_at : ∀ (rs : List Rec3) (i : Nat), i < rs.length → (recC rs)[i * 3]? = some (.int .i64 (recAt rs i).1) ∧ (recC rs)[i * 3 + 1]? = some (.int .i64 (recAt rs i).2.1) ∧ (recC rs)[i * 3 + 2]? = some (.int .i64 (recAt rs i).2.2)
  | [], i, h => by simp at h
  | r :: rs, 0, _ => ⟨rfl, rfl, rfl⟩
  | r :: rs, i + 1, h => by
    have := recC_at rs i (by simpa using h)
    have e : recAt (r :: rs) ((i + 1 : Nat) : Int) = recAt rs (i : Nat) := by
      unfold recAt
      rw [Int.toNat_natCast, Int.toNat_natCast]; rfl
    rw [e, show (i + 1) * 3 = i * 3 + 3 by omega]
    exact this
theorem recC_set : ∀ (rs : List Rec3) (i : Nat) (r : Rec3), i < rs.length → recC (rs.set i r) = (((recC rs).set (i * 3) (.int .i64 r.1)).set (i * 3 + 1) (.int .i64 r.2.1)).set (i * 3 + 2) (.int .i64 r.2.2)
  | [], i, r, h => by simp at h
  | q :: rs, 0, r, _ => rfl
  | q :: rs, i + 1, r, h => by
    rw [show (i + 1) * 3 = i * 3 + 3 by omega]
    simp only [List.set_cons_succ, recC]
    rw [recC_set rs i r (by simpa using h)]
theorem recC_next : ∀ (rs : List Rec3) (i : Nat) (x : Int), i < rs.length → recC (rs.set i ((recAt rs i).1, (recAt rs i).2.1, x)) = (recC rs).set (i * 3 + 2) (.int .i64 x)
  | [], i, x, h => by simp at h
  | q :: rs, 0, x, _ => rfl
  | q :: rs, i + 1, x, h => by
    have e : recAt (q :: rs) ((i + 1 : Nat) : Int) = recAt rs (i : Nat) := by
      unfold recAt
      rw [Int.toNat_natCast, Int.toNat_natCast]; rfl
    rw [e, show (i + 1) * 3 + 2 = i * 3 + 2 + 3 by omega]
    simp only [List.set_cons_succ, recC]
    rw [recC_next rs i x (by simpa using h)]
/-- numbers as cells. -/
def intC (xs : List Int) : List Value := xs.map (Value.int .i64)
theorem intC_one (xs : List Int) : ∀ u ∈ intC xs, u.oneCell' = true := by
  intro u hu
  obtain ⟨v, _, rfl⟩ := List.mem_map.1 hu
  rfl
theorem intC_app (a b : List Int) : intC (a ++ b) = intC a ++ intC b := List.map_append
theorem intC_len (a : List Int) : (intC a).length = a.length := List.length_map _
/-- the slice '.slice A n c' reads as the records rs; as the numbers xs. -/
def Rs (w : World) (A : Option Addr) (n c : Nat) (rs : List Rec3) : Prop := Es w A n c 3 (recC rs)
def Is (w : World) (A : Option Addr) (n c : Nat) (xs : List Int) : Prop := Es w A n c 1 (intC xs)
theorem Rs.len {w : World} {A : Option Addr} {n c : Nat} {rs : List Rec3} (h : Rs w A n c rs) : rs.length = n := by
  have := Es.len h; rw [recC_len] at this; omega
theorem Is.len {w : World} {A : Option Addr} {n c : Nat} {xs : List Int} (h : Is w A n c xs) : xs.length = n := by
  have := Es.len h; rw [intC_len] at this; omega
theorem Rs.look {w : World} {A : Option Addr} {n c : Nat} {rs : List Rec3} (h : Rs w A n c rs) (i : Nat) (hi : i < n) :
    ∃ b off, A = some ⟨b, off, none⟩ ∧ b < w.heap.size ∧ w.cell? ⟨b, off + i * 3, none⟩ = some (.int .i64 (recAt rs i).1) ∧ w.cell? ⟨b, off + i * 3 + 1, none⟩ = some (.int .i64 (recAt rs i).2.1) ∧ w.cell? ⟨b, off + i * 3 + 2, none⟩ = some (.int .i64 (recAt rs i).2.2) := by
  obtain ⟨b, off, e, hb, hc⟩ := Es.mem h (by omega)
  obtain ⟨h0, h1, h2⟩ := recC_at rs i (by have := h.len; omega)
  exact ⟨b, off, e, hb, hc _ _ h0, by have := hc _ _ h1; rwa [← Nat.add_assoc] at this, by have := hc _ _ h2; rwa [← Nat.add_assoc] at this⟩
theorem Is.look {w : World} {A : Option Addr} {n c : Nat} {xs : List Int} (h : Is w A n c xs) (i : Nat) (hi : i < n) :
    ∃ b off x, A = some ⟨b, off, none⟩ ∧ b < w.heap.size ∧ w.cell? ⟨b, off + i, none⟩ = some (.int .i64 x) ∧ xs.drop i = x :: xs.drop (i + 1) := by
  obtain ⟨b, off, e, hb, hc⟩ := Es.mem h (by omega)
  have hl : i < xs.length := by have := h.len; omega
  refine ⟨b, off, xs[i], e, hb, hc i _ ?_, drop_at hl⟩
  unfold intC
  rw [List.getElem?_map, List.getElem?_eq_getElem hl]
  rfl
end Go.Proofs.Ytpkegfochfkkcaa
