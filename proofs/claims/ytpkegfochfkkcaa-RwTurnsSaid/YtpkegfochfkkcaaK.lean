/- Words on memory for slices of bytes: how a slice reads as a list of bytes, and what slicing, copying, making and appending leave; over any world, up to 65536 bytes where it says so. -/
import Derived.Test.YtpkegfochfkkcaaRows
import Derived.WalkKit
import Derived.Laws.OwnMore
import Derived.Laws.BytesArg
import Derived.Laws.CopyOwn
import Derived.Maps.AppendAt
import Derived.Deep.Draws
import Derived.Deep.OwnRows
import Derived.Deep.WholeRow
import Derived.Lib.Hide
import Derived.Deep.RegionHeld3
namespace Go.Proofs.Ytpkegfochfkkcaa
set_option linter.unusedVariables false
set_option linter.unusedSimpArgs false
open Go.RowKit

/-- the slice value '.slice A n c' reads, in w, as the bytes bs. -/
structure Bs (w : World) (A : Option Addr) (n c : Nat) (bs : List Int) : Prop where
  len : bs.length = n
  cap : n ≤ c
  byte : ∀ b ∈ bs, 0 ≤ b ∧ b ≤ 255
  mem : 0 < n → ∃ b off, A = some ⟨b, off, none⟩ ∧ b < w.heap.size ∧ ∀ i, i < n → w.cell? ⟨b, off + i, none⟩ = some (.int .u8 (bs.getD i 0))

theorem add_plain (b off i : Nat) : (⟨b, off, none⟩ : Addr).add i = ⟨b, off + i, none⟩ := by unfold Addr.add; split <;> simp_all
theorem getD_map_u8 (bs : List Int) (j : Nat) (u : Value) (h : (bs.map (Value.int .u8))[j]? = some u) : j < bs.length ∧ u = .int .u8 (bs.getD j 0) := by
  rcases Nat.lt_or_ge j bs.length with hj | hj
  · simp [List.getElem?_eq_getElem hj] at h
    exact ⟨hj, by rw [← h]; simp [List.getD, List.getElem?_eq_getElem hj]⟩
  · rw [List.getElem?_eq_none (by simpa using hj)] at h; cases h

section
variable {w w' : World} {A : Option Addr} {n c : Nat} {bs : List Int}
theorem Bs.nil (w : World) (A : Option Addr) (c : Nat) : Bs w A 0 c [] := ⟨rfl, Nat.zero_le _, by simp, fun h => absurd h (by omega)⟩
theorem Bs.keep (h : Bs w A n c bs) (hs : w.heap.size ≤ w'.heap.size) (hk : ∀ b o, b < w.heap.size → w'.cell? ⟨b, o, none⟩ = w.cell? ⟨b, o, none⟩) : Bs w' A n c bs :=
  ⟨h.len, h.cap, h.byte, fun hn => by
    obtain ⟨b, off, e, hb, hc⟩ := h.mem hn
    exact ⟨b, off, e, by omega, fun i hi => (hk _ _ hb).trans (hc i hi)⟩⟩
theorem Bs.below (h : Bs w A n c bs) (hb : Below w.heap.size w w') : Bs w' A n c bs := h.keep hb.size fun _ _ hp => hb.cell (p := ⟨_, _, none⟩) hp
theorem Bs.drew (h : Bs w A n c bs) : Bs w.drew A n c bs := ⟨h.len, h.cap, h.byte, h.mem⟩
theorem Bs.drewN (h : Bs w A n c bs) (k : Nat) : Bs (w.drewN k) A n c bs := ⟨h.len, h.cap, h.byte, h.mem⟩
theorem Bs.alloc (h : Bs w A n c bs) (o : Obj) : Bs (w.alloc o) A n c bs :=
  h.keep (by simp) fun b o' hb => World.cell?_alloc_lt w o ⟨b, o', none⟩ hb
theorem Bs.of_own {base : Nat} {e : TypeId} {v : Value} (h : w.ownsRow base e 1 v n (bs.map (Value.int .u8))) (hb : ∀ b ∈ bs, 0 ≤ b ∧ b ≤ 255) :
    ∃ A c, v = .slice A n c ∧ Bs w A n c bs := by
  have hl : bs.length = n := by have := h.1; simpa using this
  rcases h.2 with ⟨rfl, h0⟩ | ⟨g, cap, cur, rfl, hg, hh, hnc, hcap, hsz, hcur⟩
  · subst h0
    obtain rfl : bs = [] := List.eq_nil_of_length_eq_zero hl
    exact ⟨_, _, rfl, Bs.nil _ _ _⟩
  · refine ⟨_, _, rfl, hl, hnc, hb, fun hn => ⟨g, 0, rfl, ?_, fun i hi => ?_⟩⟩
    · exact (h.lt g (by simp [Value.ownBlock])).2
    · have hc := h.cells (g := g) (by simp [Value.ownBlock]) i (.int .u8 (bs.getD i 0)) (by simp [List.getD, List.getElem?_eq_getElem (show i < bs.length by omega)])
      rw [add_plain] at hc
      exact hc
theorem Bs.news (h : Bs w A n c bs) (hn : 0 < n) : ∃ ad, A = some ad ∧ ∀ j u, (bs.map (Value.int .u8))[j]? = some u → w.cell? (ad.add j) = some u := by
  obtain ⟨b, off, e, hb, hc⟩ := h.mem hn
  refine ⟨_, e, fun j u hj => ?_⟩
  obtain ⟨hj, rfl⟩ := getD_map_u8 bs j u hj
  rw [add_plain]
  exact hc j (by have := h.len; omega)
theorem one_u8 (bs : List Int) : ∀ u ∈ bs.map (Value.int .u8), u.oneCell' = true := ints_oneCell _ _
/-- the string of such a slice. -/
theorem Bs.str {P : Program} (h : Bs w A n c bs) (src e dst : TypeId) (hs : P.underlying src = some (.slice e)) (he : P.underlying e = some (.int .u8)) (hd : P.underlying dst = some .string) :
    (convert src dst (.slice A n c)).run P w = .ok (.string (strOfNums bs)) w := by
  rcases Nat.eq_zero_or_pos n with h0 | h0
  · subst h0
    obtain rfl : bs = [] := List.eq_nil_of_length_eq_zero h.len
    rw [run_convert_bytes_string w src dst e _ _ _ hs he hd]
    cases A with
    | none => simp [Conv.bytesToString]; rfl
    | some a => rw [run_bytesToString w a 0 c [] (by simpa using run_loadCells_list (P := P) w a [] (by simp))]; rfl
  · obtain ⟨b, off, rfl, hb, hc⟩ := h.mem h0
    exact run_convert_bytes_arg w src e hs he b off n c bs h.len hc dst hd
/-- a part of it. -/
theorem Bs.slice {P : Program} (h : Bs w A n c bs) (t : TypeId) (ht : P.underlying t = some (.slice (P.elem t))) (hsz : ∀ W : World, (sizeOf (P.elem t)).run P W = .ok 1 W)
    (l g : Int) (k m : Nat) (hl : l = k) (hg : g = (k + m : Nat)) (hm : k + m ≤ n) :
    ∃ A2 c2, (∀ W : World, (Instr.slice t (.slice A n c) (some (.int .i64 l)) (some (.int .i64 g)) none).run P W = .ok (.slice A2 m c2) W) ∧ Bs w A2 m c2 ((bs.drop k).take m) := by
  have hcap := h.cap
  refine ⟨if c = k then A else A.map (·.add (k * 1)), c - k, fun W => ?_, ?_⟩
  · rw [run_slice_lh W t A n c ht .i64 .i64 l g (by omega) (by omega) (by omega), hsz]
    have e1 : l.toNat = k := by omega
    have e2 : g.toNat - k = m := by omega
    simp only [Result.andThen, sliced, e1, e2]
  · refine ⟨?_, by omega, ?_, fun hm0 => ?_⟩
    · rw [List.length_take, List.length_drop, h.len]; omega
    · intro b hb
      exact h.byte b (List.mem_of_mem_drop (List.mem_of_mem_take hb))
    · obtain ⟨b, off, rfl, hb, hc⟩ := h.mem (by omega)
      rw [if_neg (by omega)]
      refine ⟨b, off + k, by simp [add_plain], hb, fun i hi => ?_⟩
      rw [Nat.add_assoc, hc (k + i) (by omega)]
      simp [List.getD, List.getElem?_take, hi, List.getElem?_drop]
end

/-- append of a slice of bytes, whichever it is, onto a row of the call's own. -/
theorem app_own {P : Program} (w : World) (base : Nat) (t ty e : TypeId) (i : TypeInfo) (z : Value) (ht : P.underlying t = some (.slice e)) (hi : P.info? e = some i) (hz : i.zero = some z)
    (hsize : i.size = 1) (hby : i.bytes = 1) (hzs : z.cells.size = 1)
    (v : Value) (n : Nat) (xs : List Int) (hown : w.ownsRow base e 1 v n (xs.map (Value.int .u8))) (A : Option Addr) (m c : Nat) (bs : List Int) (hb : Bs w A m c bs)
    (hlim : n + m ≤ 65536) (hbase : base ≤ w.heap.size) :
    ∃ v' w', (Builtin.append_ #[t, t] ty #[v, .slice A m c]).run P w = .ok v' w' ∧ w'.ownsRow base e 1 v' (n + m) ((xs ++ bs).map (Value.int .u8)) ∧ w.grownBy w' v.ownBlock ∧ (∀ k, v'.ownBlock = some k → base ≤ k) := by
  have hlen := hb.len
  have h1 := one_u8 bs
  cases A with
  | some ad =>
    have hnews : ∀ j u, (bs.map (Value.int .u8))[j]? = some u → w.cell? (ad.add j) = some u := by
      rcases Nat.eq_zero_or_pos m with h0 | h0
      · subst h0
        obtain rfl : bs = [] := List.eq_nil_of_length_eq_zero hlen
        intro j u hj; simp at hj
      · obtain ⟨ad', e1, h⟩ := hb.news h0
        injection e1 with e1; subst e1; exact h
    obtain ⟨v', w', hr, h2, h3, _, _⟩ := run_append_own_at (P := P) w base t ty e i z 1 1 ht hi hz hsize hby hzs (by omega) v n _ hown ad m c _ (by simp [hlen]) hnews h1 (by unfold maxLen; omega) (by omega) hbase
    exact ⟨v', w', hr, by rw [List.map_append]; exact h2, h3, fun k hk => (h2.lt k hk).1⟩
  | none =>
    obtain rfl : m = 0 := by
      rcases Nat.eq_zero_or_pos m with h0 | h0
      · exact h0
      · obtain ⟨ad', e1, _⟩ := hb.news h0; cases e1
    obtain rfl : bs = [] := List.eq_nil_of_length_eq_zero hlen
    refine ⟨v, w, ?_, by simpa using hown, World.grownBy.refl _ _, fun k hk => (hown.lt k hk).1⟩
    rcases hown.2 with ⟨rfl, h0⟩ | ⟨g, cap, cur, rfl, _, _, hnc, _⟩
    · subst h0; simp [Builtin.append_, run_underlying ht, sizeOf, typeInfo, hi, Builtin.lenOf, Builtin.firstCells]
    · simp [Builtin.append_, run_underlying ht, sizeOf, typeInfo, hi, Builtin.lenOf, Builtin.firstCells, hnc, storeCells]

theorem wpl_app {P : Program} (w : World) {ops : Array Oper} {rest : List Oper} {o : Oper} {a : Act} {Q : Exit → Act → World → Prop} (hgd : o.guard = none) (s x : Operand) (t : TypeId)
    (ho : o.op = .call { callee := .builtin .append, args := #[s, x], argTypes := #[t, t] })
    (base : Nat) (e : TypeId) (i : TypeInfo) (z : Value) (ht : P.underlying t = some (.slice e)) (hi : P.info? e = some i) (hz : i.zero = some z)
    (hsize : i.size = 1) (hby : i.bytes = 1) (hzs : z.cells.size = 1)
    (v : Value) (n : Nat) (xs : List Int) (hs : a.eval s = v) (hown : w.ownsRow base e 1 v n (xs.map (Value.int .u8))) (A : Option Addr) (m c : Nat) (bs : List Int) (hx : a.eval x = .slice A m c) (hb : Bs w A m c bs)
    (hlim : n + m ≤ 65536) (hbase : base ≤ w.heap.size)
    (h : ∀ v' w', Hid (w'.ownsRow base e 1 v' (n + m) ((xs ++ bs).map (Value.int .u8))) → Hid (w.grownBy w' v.ownBlock) → wpList P ops Q rest (a.put o.dst v') w') :
    wpList P ops Q (o :: rest) a w := by
  refine wpList_plain hgd fun K hK => ?_
  obtain ⟨v', w', hr, h2, h3, _⟩ := app_own (P := P) w base t o.type e i z ht hi hz hsize hby hzs v n xs hown A m c bs hb hlim hbase
  unfold Oper.wp execOp
  simp only [ho, resolve, invoke, builtin, Sem.run_bind, Sem.run_pure, Result.andThen_ok, List.map_toArray, List.map_cons, List.map_nil, hs, hx, hr]
  exact hK _ _ (h v' w' h2 h3)

theorem Bs.new_ (w : World) (e : TypeId) (bs : List Int) (hb : ∀ b ∈ bs, 0 ≤ b ∧ b ≤ 255) {q : Nat} (hq : bs.length = q) : Bs (w.alloc (.cells (bs.map (Value.int .u8)).toArray e)) (some ⟨w.heap.size, 0, none⟩) q q bs :=
  ⟨hq, Nat.le_refl _, hb, fun _ => ⟨_, _, rfl, by simp, fun i hi => by
    rw [cell_of_row _ w.heap.size (0 + i) _ e (0, 0) (heap_alloc_new w _)]
    have : i < bs.length := by omega
    simp [this]⟩⟩
/-- the same, of a row that bears a mark (a constant text as bytes). -/
theorem Bs.newf (w : World) (e : TypeId) (fr : Nat × Nat) (bs : List Int) (hb : ∀ b ∈ bs, 0 ≤ b ∧ b ≤ 255) {q : Nat} (hq : bs.length = q) : Bs (w.alloc (.cells (bs.map (Value.int .u8)).toArray e fr)) (some ⟨w.heap.size, 0, none⟩) q q bs :=
  ⟨hq, Nat.le_refl _, hb, fun _ => ⟨_, _, rfl, by simp, fun i hi => by
    rw [cell_of_row _ w.heap.size (0 + i) _ e fr (heap_alloc_new w _)]
    have : i < bs.length := by omega
    simp [this]⟩⟩
/-- its first part. -/
theorem Bs.sliceh {P : Program} {w : World} {A : Option Addr} {n c : Nat} {bs : List Int} (h : Bs w A n c bs) (t : TypeId) (ht : P.underlying t = some (.slice (P.elem t)))
    (hsz : ∀ W : World, (sizeOf (P.elem t)).run P W = .ok 1 W) (g : Int) (m : Nat) (hg : g = (m : Nat)) (hm : m ≤ n) :
    ∃ A2 c2, (∀ W : World, (Instr.slice t (.slice A n c) none (some (.int .i64 g)) none).run P W = .ok (.slice A2 m c2) W) ∧ Bs w A2 m c2 (bs.take m) := by
  have hcap := h.cap
  refine ⟨if c = 0 then A else A.map (·.add (0 * 1)), c - 0, fun W => ?_, ?_⟩
  · rw [run_slice_h W t A n c ht .i64 g (by omega) (by omega), hsz]
    have e2 : g.toNat - 0 = m := by omega
    simp only [Result.andThen, sliced, e2]
  · refine ⟨?_, by omega, fun b hb => h.byte b (List.mem_of_mem_take hb), fun hm0 => ?_⟩
    · rw [List.length_take, h.len]; omega
    · obtain ⟨b, off, rfl, hb, hc⟩ := h.mem (by omega)
      rw [if_neg (by omega)]
      refine ⟨b, off, by simp [add_plain], hb, fun i hi => ?_⟩
      rw [hc i (by omega)]
      simp [List.getD, List.getElem?_take, hi]
/-- its last part. -/
theorem Bs.slicel {P : Program} {w : World} {A : Option Addr} {n c : Nat} {bs : List Int} (h : Bs w A n c bs) (t : TypeId) (ht : P.underlying t = some (.slice (P.elem t)))
    (hsz : ∀ W : World, (sizeOf (P.elem t)).run P W = .ok 1 W) (l : Int) (k : Nat) (hl : l = (k : Nat)) (hk : k ≤ n) :
    ∃ A2 c2, (∀ W : World, (Instr.slice t (.slice A n c) (some (.int .i64 l)) none none).run P W = .ok (.slice A2 (n - k) c2) W) ∧ Bs w A2 (n - k) c2 (bs.drop k) := by
  have hcap := h.cap
  refine ⟨if c = k then A else A.map (·.add (k * 1)), c - k, fun W => ?_, ?_⟩
  · rw [run_slice_l W t A n c ht .i64 l (by omega) (by omega), hsz]
    have e1 : l.toNat = k := by omega
    simp only [Result.andThen, sliced, e1]
  · refine ⟨by rw [List.length_drop, h.len], by omega, fun b hb => h.byte b (List.mem_of_mem_drop hb), fun hm0 => ?_⟩
    obtain ⟨b, off, rfl, hb, hc⟩ := h.mem (by omega)
    rw [if_neg (by omega)]
    refine ⟨b, off + k, by simp [add_plain], hb, fun i hi => ?_⟩
    rw [Nat.add_assoc, hc (k + i) (by omega)]
    simp [List.getD, List.getElem?_drop]
/-- copy into a row that has just been made. -/
theorem copy_new {P : Program} (w : World) (dT sT ty elem : TypeId) (hu : P.underlying dT = some (.slice elem)) (hsz : (P.info? elem).map (·.size) = some 1)
    (q : Nat) (A : Option Addr) (c : Nat) (bs : List Int) (hb : Bs w A q c bs) :
    ∃ w', (Builtin.copy_ #[dT, sT] ty #[.slice (some ⟨w.heap.size, 0, none⟩) q q, .slice A q c]).run P (w.alloc (.cells (madeCells #[.int .u8 0] q) elem)) = .ok (.int .i64 q) w' ∧
      Bs w' (some ⟨w.heap.size, 0, none⟩) q q bs ∧ Below w.heap.size w w' := by
  rcases Nat.eq_zero_or_pos q with h0 | h0
  · subst h0
    obtain rfl : bs = [] := List.eq_nil_of_length_eq_zero hb.len
    exact ⟨_, run_copy_none (P := P) _ dT sT ty elem _ _ 0 0 0 _ hu hsz (by simp), Bs.nil _ _ _, (Below.refl _ _).alloc (Nat.le_refl _) _⟩
  · have hb1 := hb.alloc (.cells (madeCells #[.int .u8 0] q) elem)
    obtain ⟨ad, rfl, hnews⟩ := hb1.news h0
    have hsize : (madeCells #[Value.int .u8 0] q).size = q := by
      have := toList_madeCells_one (.int .u8 0) q
      have := congrArg List.length this
      simpa using this
    have hl : (bs.map (Value.int .u8)).length = q := by simpa using hb.len
    have hr := run_copy_row (P := P) (w.alloc (.cells (madeCells #[.int .u8 0] q) elem)) dT sT ty elem w.heap.size 0 q q ad q c (madeCells #[.int .u8 0] q) elem (bs.map (Value.int .u8)) hu hsz
      (heap_alloc_new w _) (by rw [hl]; simp) hnews (by rw [hl, hsize]; omega) (one_u8 bs)
    rw [hl] at hr
    have hcs : (madeCells #[Value.int .u8 0] q).toList.take 0 ++ bs.map (Value.int .u8) ++ (madeCells #[Value.int .u8 0] q).toList.drop (0 + q) = bs.map (Value.int .u8) := by
      rw [List.drop_of_length_le (by simp [hsize])]; simp
    rw [hcs, World.setRow_alloc_new] at hr
    exact ⟨_, hr, Bs.new_ w elem bs hb.byte hb.len, (Below.refl _ _).alloc (Nat.le_refl _) _⟩

/-- '[]byte{}', appended to. -/
theorem app_lit0 {P : Program} (w : World) (t ty e : TypeId) (i : TypeInfo) (z : Value) (ht : P.underlying t = some (.slice e)) (hi : P.info? e = some i) (hz : i.zero = some z)
    (hsize : i.size = 1) (hby : i.bytes = 1) (hzs : z.cells.size = 1) (A : Option Addr) (m c : Nat) (bs : List Int) (hb : Bs w A m c bs) (hlim : m ≤ 65536) :
    ∃ A' c' w', (Builtin.append_ #[t, t] ty #[.slice (some ⟨w.heap.size, 0, none⟩) 0 0, .slice A m c]).run P (w.alloc (.cells #[] e)) = .ok (.slice A' m c') w' ∧
      w'.ownsRow w.heap.size e 1 (.slice A' m c') m (bs.map (Value.int .u8)) ∧ Bs w' A' m c' bs ∧ Below w.heap.size w w' := by
  have h0 : (w.alloc (.cells #[] e)).ownsRow w.heap.size e 1 (.slice (some ⟨w.heap.size, 0, none⟩) 0 0) 0 (([] : List Int).map (Value.int .u8)) :=
    World.ownsRow_lit w #[] 0 (Nat.le_refl _) (by unfold maxLen; omega) (by simp)
  obtain ⟨v', w', hr, h2, h3, h4⟩ := app_own (P := P) (w.alloc (.cells #[] e)) w.heap.size t ty e i z ht hi hz hsize hby hzs _ 0 [] h0 A m c bs (hb.alloc _) (by omega) (by simp)
  rw [Nat.zero_add, List.nil_append] at h2
  obtain ⟨A', c', rfl, hb'⟩ := Bs.of_own h2 hb.byte
  exact ⟨A', c', w', hr, h2, hb', ((Below.refl _ _).alloc (Nat.le_refl _) _).grown h3 (by simp) (by simp [Value.ownBlock])⟩

/-- an append whose run is known. -/
theorem wpl_app_run {P : Program} {w w' : World} {ops : Array Oper} {rest : List Oper} {o : Oper} {a : Act} {Q : Exit → Act → World → Prop} (hgd : o.guard = none) {s x : Operand} {t : TypeId}
    (ho : o.op = .call { callee := .builtin .append, args := #[s, x], argTypes := #[t, t] }) {v u v' : Value} (hs : a.eval s = v) (hx : a.eval x = u)
    (hr : (Builtin.append_ #[t, t] o.type #[v, u]).run P w = .ok v' w') (h : wpList P ops Q rest (a.put o.dst v') w') : wpList P ops Q (o :: rest) a w := by
  refine wpList_plain hgd fun K hK => ?_
  unfold Oper.wp execOp
  simp only [ho, resolve, invoke, builtin, Sem.run_bind, Sem.run_pure, Result.andThen_ok, List.map_toArray, List.map_cons, List.map_nil, hs, hx, hr]
  exact hK _ _ h

/-- one byte, appended to a row of the call's own. -/
theorem app_one {P : Program} {w0 W : World} {base : Nat} {t ty e : TypeId} {i : TypeInfo} {z : Value} (ht : P.underlying t = some (.slice e)) (hi : P.info? e = some i) (hz : i.zero = some z)
    (hsize : i.size = 1) (hby : i.bytes = 1) (hzs : z.cells.size = 1) {v : Value} {n : Nat} {xs : List Int} (hown : W.ownsRow base e 1 v n (xs.map (Value.int .u8))) (hxs : ∀ b ∈ xs, 0 ≤ b ∧ b ≤ 255)
    (b : Int) (hb : 0 ≤ b ∧ b ≤ 255) (hlim : n ≤ 65535) (hbel : Below base w0 W) (hbase : base ≤ W.heap.size) :
    ∃ A' c' w', (Builtin.append_ #[t, t] ty #[v, .slice (some ⟨W.heap.size, 0, none⟩) 1 1]).run P (W.alloc (.cells #[.int .u8 b] e)) = .ok (.slice A' (n + 1) c') w' ∧
      w'.ownsRow base e 1 (.slice A' (n + 1) c') (n + 1) ((xs ++ [b]).map (Value.int .u8)) ∧ Below base w0 w' := by
  obtain ⟨v', w', hr, h2, h3, h4⟩ := app_own (P := P) (W.alloc (.cells #[.int .u8 b] e)) base t ty e i z ht hi hz hsize hby hzs v n xs (hown.alloc _) _ 1 1 [b]
    (Bs.new_ W e [b] (by simpa using hb) rfl) (by omega) (by simp; omega)
  have hxb : ∀ x ∈ xs ++ [b], 0 ≤ x ∧ x ≤ 255 := by
    intro x hx
    rcases List.mem_append.1 hx with h | h
    · exact hxs x h
    · simp at h; subst h; exact hb
  obtain ⟨A', c', rfl, hb'⟩ := Bs.of_own h2 hxb
  refine ⟨A', c', w', hr, h2, (hbel.alloc hbase _).grown h3 (by simp; omega) fun k hk => (hown.lt k hk).1⟩
/-- one byte of a slice of bytes. -/
theorem Bs.look {w : World} {A : Option Addr} {n c : Nat} {bs : List Int} (h : Bs w A n c bs) (i : Nat) (hi : i < n) :
    ∃ b off x, A = some ⟨b, off, none⟩ ∧ b < w.heap.size ∧ w.cell? ⟨b, off + i, none⟩ = some (.int .u8 x) ∧ 0 ≤ x ∧ x ≤ 255 ∧ bs.drop i = x :: bs.drop (i + 1) ∧ bs.getD i 0 = x := by
  obtain ⟨b, off, e, hb, hc⟩ := h.mem (by omega)
  have hl : i < bs.length := by have := h.len; omega
  have hd : bs.drop i = bs[i] :: bs.drop (i + 1) := List.drop_eq_getElem_cons hl
  have hg : bs.getD i 0 = bs[i] := by simp [List.getD, List.getElem?_eq_getElem hl]
  have hx := h.byte bs[i] (List.getElem_mem hl)
  exact ⟨b, off, bs[i], e, hb, by rw [hc i hi, hg], hx.1, hx.2, hd, hg⟩
/-- a row of the call's own, in a world that has all that was there. -/
theorem own_below {w w' : World} {base : Nat} {e : TypeId} {size : Nat} {v : Value} {n : Nat} {xs : List Value} (h : w.ownsRow base e size v n xs) (hb : Below w.heap.size w w') : w'.ownsRow base e size v n xs := by
  refine ⟨h.1, ?_⟩
  rcases h.2 with h2 | ⟨g, cap, cur, h1, h2, h3, h4⟩
  · exact .inl h2
  · refine .inr ⟨g, cap, cur, h1, h2, ?_, h4⟩
    have hg : g < w.heap.size := by
      rcases Nat.lt_or_ge g w.heap.size with h | h
      · exact h
      · rw [Array.getElem?_eq_none h] at h3; cases h3
    rw [hb.block g hg]; exact h3
/-- unlike bytes have unlike strings. -/
theorem strOfNums_toList (xs : List Int) : (strOfNums xs).toList = xs.map fun n => UInt8.ofNat n.toNat := ByteArray.toList_mk _
theorem strOfNums_inj : ∀ {xs ys : List Int}, (∀ b ∈ xs, 0 ≤ b ∧ b ≤ 255) → (∀ b ∈ ys, 0 ≤ b ∧ b ≤ 255) → (strOfNums xs).toList = (strOfNums ys).toList → xs = ys := by
  intro xs ys hx hy h
  rw [strOfNums_toList, strOfNums_toList] at h
  induction xs generalizing ys with
  | nil => cases ys with
    | nil => rfl
    | cons y ys => simp at h
  | cons x xs ih =>
    cases ys with
    | nil => simp at h
    | cons y ys =>
      simp only [List.map_cons] at h
      injection h with h1 h2
      have hx1 := hx x (by simp)
      have hy1 := hy y (by simp)
      have h3 := congrArg UInt8.toNat h1
      simp only [UInt8.toNat_ofNat'] at h3
      rw [ih (fun b hb => hx b (by simp [hb])) (fun b hb => hy b (by simp [hb])) h2]
      congr 1; omega
theorem str_ne {xs ys : List Int} (hx : ∀ b ∈ xs, 0 ≤ b ∧ b ≤ 255) (hy : ∀ b ∈ ys, 0 ≤ b ∧ b ≤ 255) (h : xs ≠ ys) : ((strOfNums xs).toList == (strOfNums ys).toList) = false := by
  simp only [beq_eq_false_iff_ne]
  exact fun he => h (strOfNums_inj hx hy he)
/-- in a region that draws its order: from here on a condition that says more. -/
theorem wpAnyH_up {P : Program} {md : Region.Mode} {ops : Array Oper} {Q : Exit → Act → World → Prop} {S S' : World → Prop} (hS : ∀ w, S' w → S w) :
    ∀ {fuel : Nat} {listed : Array Bool} {a : Act} {w : World}, wpAnyH P md ops Q S' fuel listed a w → wpAnyH P md ops Q S fuel listed a w
  | 0, _, _, _, h => h
  | fuel + 1, _, _, _, h => ⟨h.1, fun i hi => wpOp_mono (fun a' w' h' => ⟨hS _ h'.1, wpAnyH_up hS h'.2⟩) (h.2 i hi)⟩
theorem infoByte : (Try.prog.info? 5).map (fun i => (i.zero, i.size, i.bytes)) = some (some (.int .u8 0), 1, 1) := by kernel_rfl
theorem sizeByte (W : World) : (sizeOf (Try.prog.elem 51)).run Try.prog W = .ok 1 W := by kernel_rfl
theorem undBytes : Try.prog.underlying 51 = some (.slice (Try.prog.elem 51)) := by kernel_rfl
/-- the string of a slice of bytes, at this program's types. -/
theorem Bs.text {w : World} {A : Option Addr} {n c : Nat} {bs : List Int} (h : Bs w A n c bs) : (convert 51 9 (.slice A n c)).run Try.prog w = .ok (.string (strOfNums bs)) w :=
  h.str 51 5 9 Try.underlying51 Try.underlying5 Try.underlying9
/-- a slice of bytes and more as the answer; the slice's length is a name of its own (Bs.len tells it). -/
def BytesPost (w : World) (bs : List Int) (rest : List Value) (e : Ending) (w' : World) : Prop :=
  ∃ A n c, e = .returned (.tuple ((Value.slice A n c :: rest).toArray)) ∧ Bs w' A n c bs ∧ Below w.heap.size w w'
/-- one slice of bytes as the answer. -/
def BytesOnly (w : World) (bs : List Int) (e : Ending) (w' : World) : Prop :=
  ∃ A n c, e = .returned (.slice A n c) ∧ Bs w' A n c bs ∧ Below w.heap.size w w'
theorem BytesOnly.mk {w w' : World} {bs xs : List Int} {A : Option Addr} {n c : Nat} (hx : xs = bs) (hb : Bs w' A n c xs) (hw : Below w.heap.size w w') : BytesOnly w bs (.returned (.slice A n c)) w' := by
  subst hx; exact ⟨A, n, c, rfl, hb, hw⟩
end Go.Proofs.Ytpkegfochfkkcaa
