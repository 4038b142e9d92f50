/- One element is taken out of a row of one's own, in place: what append and clear do to it; no condition but those in each theorem. -/
import Derived.Test.YtjpgmkbcjedhfaaE
namespace Go.Proofs.Ytjpgmkbcjedhfaa
set_option linter.unusedVariables false
set_option linter.unusedSimpArgs false
open Go.RowKit

theorem heap_setRow_same {w : World} {g : Nat} {cs cs2 : Array Value} {T : TypeId} {fz : Nat × Nat} (h : w.heap[g]? = some (.cells cs T fz)) : (w.setRow g cs2).heap[g]? = some (.cells cs2 T fz) := by
  unfold World.setRow
  simp only [Array.getElem?_modify, h, if_pos, Option.map_some]
theorem heap_setRow_other {w : World} {g b : Nat} {cs2 : Array Value} (hb : b ≠ g) : (w.setRow g cs2).heap[b]? = w.heap[b]? := by
  unfold World.setRow
  simp only [Array.getElem?_modify]
  rw [if_neg hb.symm]
theorem grown_setRow (w : World) (g : Nat) (cs : Array Value) : w.grownBy (w.setRow g cs) (some g) :=
  ⟨rfl, rfl, rfl, by unfold World.setRow; simp, fun k _ hk => heap_setRow_other (fun e => hk (by rw [e]))⟩
theorem run_clear_one {P : Program} {w : World} {g o d : Nat} {t ty e : TypeId} {z : Value} {cur : Array Value} {zs : List Value} (ht : P.underlying t = some (.slice e)) (hv : ∀ w, (zeroValue e).run P w = .ok z w) (hz : z.cells.toList = zs)
    (hg : w.heap[g]? = some (.cells cur e (0, 0))) (hfit : o + zs.length ≤ cur.size) (h1 : ∀ u ∈ zs, u.oneCell' = true) :
    (Builtin.clear_ #[t] ty #[.slice (some ⟨g, o, none⟩) 1 d]).run P w = .ok (.tuple #[]) (w.setRow g (cur.toList.take o ++ zs ++ cur.toList.drop (o + zs.length)).toArray) := by
  have hzc : (Builtin.zeroCells z.cells 1).toList = zs := by
    rw [← hz]
    apply List.ext_getElem
    · simp [Builtin.zeroCells]
    · intro i h1 h2
      simp [Builtin.zeroCells] at h1 ⊢
      have h3 : i < z.cells.size := by simpa using h2
      simp [Nat.mod_eq_of_lt h3, h3]
  have hst := run_storeCells_at P g o e zs 0 cur w hg (by simpa using hfit) h1
  simp only [Nat.add_zero] at hst
  simp [Builtin.clear_, run_underlying ht, hv, hzc, hst]
theorem list_out {α : Type} (xs news zs cur : List α) (a m k : Nat) (hx : cur.take (a + k + news.length) = xs) (hn : news = xs.drop (a + k)) (hz : zs.length = k) (hl : xs.length = a + k + news.length) :
    ((cur.take a ++ news ++ cur.drop (a + news.length)).take (a + news.length) ++ zs ++ (cur.take a ++ news ++ cur.drop (a + news.length)).drop (a + news.length + zs.length)).take (a + news.length) = xs.take a ++ xs.drop (a + k) := by
  have hc : a + k + news.length ≤ cur.length := by rw [← hx, List.length_take] at hl; omega
  have e1 : (cur.take a).length = a := by rw [List.length_take]; omega
  have e2 : (cur.take a ++ news).length = a + news.length := by rw [List.length_append, e1]
  rw [List.append_assoc, List.take_append_of_le_length (by rw [List.length_take, List.length_append, e2]; omega), List.take_take, Nat.min_self, List.take_append_of_le_length (by rw [e2]; omega), ← e2, List.take_length, ← hn]
  congr 1
  rw [← hx, List.take_take]
  congr 1
  omega
/-- the row's own element i is gone: the run of the append, of the clear, and what is left. -/
theorem del_one {P : Program} {w : World} {base n d i k : Nat} {t e : TypeId} {B : Option Addr} {xs zs : List Value} {z : Value} {inf : TypeInfo} (ht : P.underlying t = some (.slice e)) (hinf : P.info? e = some inf) (hsz : inf.size = k)
    (hv : ∀ w, (zeroValue e).run P w = .ok z w) (hz : z.cells.toList = zs) (hzl : zs.length = k) (h1 : ∀ u ∈ xs, u.oneCell' = true) (h1z : ∀ u ∈ zs, u.oneCell' = true) (ho : w.ownsRow base e k (.slice B n d) n xs) (hi : i < n) :
    ∃ g w1 w2, B = some ⟨g, 0, none⟩ ∧ base ≤ g ∧ n ≤ d ∧
      (∀ ty, (Builtin.append_ #[t, t] ty #[.slice (some ⟨g, 0, none⟩) i d, .slice (some (if d = i + 1 then ⟨g, 0, none⟩ else ⟨g, (i + 1) * k, none⟩)) (n - (i + 1)) (d - (i + 1))]).run P w = .ok (.slice (some ⟨g, 0, none⟩) (i + (n - (i + 1))) d) w1) ∧
      (∀ ty, (Builtin.clear_ #[t] ty #[.slice (some ⟨g, (n - 1) * k, none⟩) 1 (d - (n - 1))]).run P w1 = .ok (.tuple #[]) w2) ∧
      w2.ownsRow base e k (.slice (some ⟨g, 0, none⟩) (n - 1) d) (n - 1) (xs.take (i * k) ++ xs.drop ((i + 1) * k)) ∧ w.grownBy w2 (some g) := by
  obtain ⟨hl, h⟩ := ho
  rcases h with ⟨_, h0⟩ | ⟨g, cap, cur, hv0, hbg, hg, hnc, hcm, hcs, htk⟩
  · omega
  injection hv0 with e1 e2 e3
  subst e1; subst e3
  have hnk : n * k = i * k + k + (n - (i + 1)) * k := by
    have : n = i + 1 + (n - (i + 1)) := by omega
    conv => lhs; rw [this]
    rw [Nat.add_mul, Nat.add_mul, Nat.one_mul]
  have hdk : n * k ≤ d * k := Nat.mul_le_mul_right k hnc
  have hik : (i + 1) * k = i * k + k := by rw [Nat.add_mul, Nat.one_mul]
  have hn1 : (n - 1) * k = i * k + (n - (i + 1)) * k := by
    rw [show n - 1 = i + (n - (i + 1)) by omega, Nat.add_mul]
  obtain ⟨news, hnews⟩ : ∃ news, news = xs.drop ((i + 1) * k) := ⟨_, rfl⟩
  have hnl : news.length = (n - (i + 1)) * k := by rw [hnews, List.length_drop, hl, hnk, hik]; omega
  have hnl2 : news.length = (n - (i + 1)) * inf.size := by rw [hsz]; exact hnl
  have hcl : cur.toList.length = d * k := by simpa using hcs
  have hsrc : ∀ j u, news[j]? = some u → w.cell? ((if d = i + 1 then (⟨g, 0, none⟩ : Addr) else ⟨g, (i + 1) * k, none⟩).add j) = some u := by
    intro j u hu
    have hj : j < news.length := (List.getElem?_eq_some_iff.1 hu).1
    by_cases hd : d = i + 1
    · rw [hnl] at hj
      have : n - (i + 1) = 0 := by omega
      rw [this] at hj; simp at hj
    · rw [if_neg hd, Addr.add_lit, cell_of_row w g _ cur e (0, 0) hg]
      rw [hnews, List.getElem?_drop, ← htk, List.getElem?_take] at hu
      split at hu
      · simpa using hu
      · cases hu
  have hap := fun ty => run_append_room (P := P) w t ty e inf ht hinf g i d cur hg (if d = i + 1 then (⟨g, 0, none⟩ : Addr) else ⟨g, (i + 1) * k, none⟩) (n - (i + 1)) (d - (i + 1)) news hnl2 hsrc (fun u hu => h1 u (by rw [hnews] at hu; exact List.mem_of_mem_drop hu)) (by omega) (by rw [hsz, hcs, hnl]; omega)
  rw [hsz] at hap
  obtain ⟨cur1, hc1⟩ : ∃ c, c = (cur.toList.take (i * k) ++ news ++ cur.toList.drop (i * k + news.length)).toArray := ⟨_, rfl⟩
  rw [← hc1] at hap
  have hg1 := heap_setRow_same (cs2 := cur1) hg
  have hs1 : cur1.size = d * k := by rw [hc1, List.size_toArray]; simp only [List.length_append, List.length_take, List.length_drop, hcl, hnl]; omega
  have hcl1 : cur1.toList.length = d * k := by simpa using hs1
  have hcl2 := fun ty => run_clear_one (P := P) (t := t) (ty := ty) (d := d - (n - 1)) (o := (n - 1) * k) ht hv hz hg1 (by rw [hzl, hs1, hn1]; omega) h1z
  obtain ⟨cur2, hc2⟩ : ∃ c, c = (cur1.toList.take ((n - 1) * k) ++ zs ++ cur1.toList.drop ((n - 1) * k + zs.length)).toArray := ⟨_, rfl⟩
  rw [← hc2] at hcl2
  have hg2 := heap_setRow_same (cs2 := cur2) hg1
  have hs2 : cur2.size = d * k := by rw [hc2, List.size_toArray]; simp only [List.length_append, List.length_take, List.length_drop, hcl1, hzl, hn1]; omega
  refine ⟨g, _, _, rfl, hbg, hnc, hap, hcl2, ⟨?_, Or.inr ⟨g, d, cur2, rfl, hbg, hg2, by omega, hcm, hs2, ?_⟩⟩, ?_⟩
  · rw [List.length_append, List.length_take, List.length_drop, hl, hn1, hik, hnk]; omega
  · rw [hc2, hc1, hn1, ← hnl, hik]
    exact list_out xs news zs cur.toList (i * k) 0 k (by rw [hnl, ← hnk]; exact htk) (by rw [hnews, hik]) hzl (by rw [hl, hnk, hnl])
  · have a := grown_setRow w g cur1
    have b := grown_setRow (w.setRow g cur1) g cur2
    exact ⟨b.os.trans a.os, b.tape.trans a.tape, b.output.trans a.output, Nat.le_trans a.size b.size, fun k hk hne => (b.block k (Nat.lt_of_lt_of_le hk a.size) hne).trans (a.block k hk hne)⟩
end Go.Proofs.Ytjpgmkbcjedhfaa
