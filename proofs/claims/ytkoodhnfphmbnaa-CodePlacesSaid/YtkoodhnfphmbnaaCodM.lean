/- Plain mathematics of layer 13: what is written is read as it was, cut anywhere it ends too early, what is read has just its bytes; no condition but those in each theorem. -/
import Derived.Test.YtkoodhnfphmbnaaCodA
namespace Go.Proofs.Ytkoodhnfphmbnaa
set_option linter.unusedVariables false
set_option linter.unusedSimpArgs false
open Go.RowKit

def B64 (y : Int) : Prop := -9223372036854775808 ≤ y ∧ y ≤ 9223372036854775807
theorem zig_nat {y : Int} (h : B64 y) : (((zig y).toNat : Nat) : Int) = zig y ∧ (zig y).toNat < 18446744073709551616 := by
  have := zig_range h.1 h.2; omega
theorem readI_back (a b : List Int) {y : Int} (h : B64 y) : readIntS (a ++ vb (zig y).toNat ++ b) a.length = (y, ((a ++ vb (zig y).toNat).length : Int), 0) := by
  obtain ⟨h1, h2⟩ := zig_nat h
  unfold readIntS
  rw [readS_back a b _ h2]
  simp only [h1, zag_zig]
theorem readI_cut (a : List Int) {y : Int} (h : B64 y) {k : Nat} (h1 : a.length ≤ k) (h2 : k < (a ++ vb (zig y).toNat).length) : readIntS ((a ++ vb (zig y).toNat).take k) a.length = (0, 0, 2) := by
  rw [List.length_append, vb_len] at h2
  unfold readIntS
  rw [readS_cut a _ k (zig_nat h).2 h1 h2]
  rfl
theorem many_back : ∀ (l a b out : List Int), (∀ y ∈ l, B64 y) → manyS (a ++ bytesN l ++ b) l.length a.length out = (out ++ l, ((a ++ bytesN l).length : Int), 0)
  | [], a, b, out, _ => by simp [manyS, bytesN]
  | y :: l, a, b, out, h => by
    have e : a ++ bytesN (y :: l) ++ b = a ++ vb (zig y).toNat ++ (bytesN l ++ b) := by simp [bytesN]
    have hr := readI_back a (bytesN l ++ b) (h y (by simp))
    rw [e]
    show (if (readIntS _ _).2.2 ≠ 0 then _ else _) = _
    rw [hr]
    simp only [ne_eq, not_true_eq_false, if_false]
    have ih := many_back l (a ++ vb (zig y).toNat) b (out ++ [y]) (fun z hz => h z (by simp [hz]))
    rw [← List.append_assoc, ih]
    simp [bytesN]
theorem many_cut : ∀ (l a out : List Int) (k : Nat), (∀ y ∈ l, B64 y) → a.length ≤ k → k < (a ++ bytesN l).length → manyS ((a ++ bytesN l).take k) l.length a.length out = ([], 0, 2)
  | [], a, out, k, _, h1, h2 => by simp [bytesN] at h2; omega
  | y :: l, a, out, k, h, h1, h2 => by
    have e : a ++ bytesN (y :: l) = a ++ vb (zig y).toNat ++ bytesN l := by simp [bytesN]
    rw [e] at h2 ⊢
    show (if (readIntS _ _).2.2 ≠ 0 then _ else _) = _
    rcases Nat.lt_or_ge k (a ++ vb (zig y).toNat).length with h3 | h3
    · rw [List.take_append_of_le_length (by omega), readI_cut a (h y (by simp)) h1 h3]
      simp
    · rw [List.take_append, List.take_of_length_le h3]
      rw [readI_back a _ (h y (by simp))]
      simp only [ne_eq, not_true_eq_false, if_false]
      have ih := many_cut l (a ++ vb (zig y).toNat) (out ++ [y]) k (fun z hz => h z (by simp [hz])) h3 h2
      rw [List.take_append, List.take_of_length_le h3] at ih
      exact ih
/-- of bytes that are cut: it ends too early, or all of it is there. -/
theorem many_take (l a r out : List Int) (k : Nat) (h : ∀ y ∈ l, B64 y) (h1 : a.length ≤ k) :
    (k < (a ++ bytesN l).length ∧ manyS ((a ++ bytesN l ++ r).take k) l.length a.length out = ([], 0, 2)) ∨
    ((a ++ bytesN l).length ≤ k ∧ manyS ((a ++ bytesN l ++ r).take k) l.length a.length out = (out ++ l, ((a ++ bytesN l).length : Int), 0)) := by
  rcases Nat.lt_or_ge k (a ++ bytesN l).length with h3 | h3
  · left
    refine ⟨h3, ?_⟩
    rw [List.take_append_of_le_length (by omega)]
    exact many_cut l a out k h h1 h3
  · right
    refine ⟨h3, ?_⟩
    rw [List.take_append, List.take_of_length_le h3]
    exact many_back l a _ out h
theorem bytesN_app : ∀ (l m : List Int), bytesN (l ++ m) = bytesN l ++ bytesN m
  | [], m => rfl
  | y :: l, m => by simp [bytesN, bytesN_app l m]
theorem codeN_len : ∀ l, (codeN l).length = l.length * 4
  | [] => rfl
  | x :: l => by simp [codeN, codeN_len l]; omega
theorem objsN_len : ∀ (ks ss : List Int), ss.length = ks.length → (objsN ks ss).length = ks.length * 2
  | [], [], _ => rfl
  | k :: ks, s :: ss, h => by simp [objsN, objsN_len ks ss (by simpa using h)]; omega
theorem quads_code : ∀ l : List I4, quads (codeN l) = l
  | [] => rfl
  | x :: l => by simp [codeN, quads, quads_code l]
theorem evens_objs : ∀ (ks ss : List Int), ss.length = ks.length → evens (objsN ks ss) = ks ∧ odds (objsN ks ss) = ss
  | [], [], _ => ⟨rfl, rfl⟩
  | k :: ks, s :: ss, h => by
    have := evens_objs ks ss (by simpa using h)
    simp [objsN, evens, odds, this]
theorem code_quads : ∀ (n : Nat) (l : List Int), l.length = n * 4 → codeN (quads l) = l ∧ (quads l).length = n
  | 0, l, h => by
    obtain rfl := List.eq_nil_of_length_eq_zero (by simpa using h : l.length = 0)
    exact ⟨rfl, rfl⟩
  | n + 1, l, h => by
    match l, h with
    | a :: b :: c :: d :: l, h =>
      have := code_quads n l (by simp at h; omega)
      simp [quads, codeN, this]
    | [], h => simp at h
    | [_], h => simp at h; omega
    | [_, _], h => simp at h; omega
    | [_, _, _], h => simp at h; omega
theorem objs_pairs : ∀ (n : Nat) (l : List Int), l.length = n * 2 → objsN (evens l) (odds l) = l ∧ (evens l).length = n ∧ (odds l).length = n
  | 0, l, h => by
    obtain rfl := List.eq_nil_of_length_eq_zero (by simpa using h : l.length = 0)
    exact ⟨rfl, rfl, rfl⟩
  | n + 1, l, h => by
    match l, h with
    | a :: b :: l, h =>
      have := objs_pairs n l (by simp at h; omega)
      simp [evens, odds, objsN, this]
    | [], h => simp at h
    | [_], h => simp at h; omega
theorem lst3 {l : List Int} (h : l.length = 3) : l = [l.getD 0 0, l.getD 1 0, l.getD 2 0] := by
  match l, h with
  | [a, b, c], _ => rfl
theorem codeN_mem {l : List I4} (h : ∀ x ∈ l, B64 x.1 ∧ B64 x.2.1 ∧ B64 x.2.2.1 ∧ B64 x.2.2.2) : ∀ y ∈ codeN l, B64 y := by
  induction l with
  | nil => intro y hy; simp [codeN] at hy
  | cons x l ih =>
    intro y hy
    obtain ⟨h1, h2, h3, h4⟩ := h x (by simp)
    simp only [codeN, List.mem_cons] at hy
    rcases hy with rfl | rfl | rfl | rfl | hy
    · exact h1
    · exact h2
    · exact h3
    · exact h4
    · exact ih (fun z hz => h z (by simp [hz])) y hy
theorem objsN_mem : ∀ {ks ss : List Int}, (∀ x ∈ ks, B64 x) → (∀ x ∈ ss, B64 x) → ∀ y ∈ objsN ks ss, B64 y
  | [], _, _, _, y, hy => by simp [objsN] at hy
  | _ :: _, [], _, _, y, hy => by simp [objsN] at hy
  | k :: ks, s :: ss, h1, h2, y, hy => by
    simp only [objsN, List.mem_cons] at hy
    rcases hy with rfl | rfl | hy
    · exact h1 _ (by simp)
    · exact h2 _ (by simp)
    · exact objsN_mem (fun x hx => h1 x (by simp [hx])) (fun x hx => h2 x (by simp [hx])) y hy
theorem b64_small {n : Nat} (h : n ≤ 100000) : B64 (n : Int) := ⟨by omega, by omega⟩
/-- the reader's way, told number by number. -/
theorem count_back {bs : List Int} {at_ at1 most each c : Int} (h : manyS bs 1 at_ [] = ([c], at1, 0)) (c0 : 0 ≤ c) (c1 : c ≤ most) : countS bs at_ most each = manyS bs (c * each).toNat at1 [] := by
  unfold countS
  rw [h]
  simp only [ne_eq, not_true_eq_false, if_false]
  rw [if_neg (show ¬ (([c] : List Int).getD 0 0 < 0 ∨ most < ([c] : List Int).getD 0 0) from by simp; omega)]
  rfl
theorem count_bad {bs : List Int} {at_ most each e : Int} (h : manyS bs 1 at_ [] = ([], 0, e)) (he : e ≠ 0) : countS bs at_ most each = ([], 0, e) := by
  unfold countS
  rw [h, if_pos he]
/-- the parts of a program's numbers, behind bytes. -/
structure Parts (p : Pg) (r : RightPg p) (a : List Int) where
  dummy : True := trivial
section
variable {p : Pg} (r : RightPg p) (hb : PB p)
theorem nums_eq : numsP p = [(p.code.length : Int)] ++ (codeN p.code ++ ([(p.kinds.length : Int)] ++ (objsN p.kinds p.sizes ++ [p.cells, p.recs, p.pat]))) := rfl
include r hb
theorem nums_b64 : (∀ y ∈ [(p.code.length : Int)], B64 y) ∧ (∀ y ∈ codeN p.code, B64 y) ∧ (∀ y ∈ [(p.kinds.length : Int)], B64 y) ∧ (∀ y ∈ objsN p.kinds p.sizes, B64 y) ∧ (∀ y ∈ [p.cells, p.recs, p.pat], B64 y) := by
  have h1 := r.n60; have h2 := r.k8; have h3 := r.c0; have h4 := r.c32; have h5 := r.r0; have h6 := r.r64; have h7 := r.p1; have h8 := r.p1000
  refine ⟨?_, codeN_mem hb.code, ?_, objsN_mem hb.kinds hb.sizes, ?_⟩
  · intro y hy; simp at hy; subst hy; exact b64_small (by omega)
  · intro y hy; simp at hy; subst hy; exact b64_small (by omega)
  · intro y hy
    simp at hy
    rcases hy with rfl | rfl | rfl
    · exact ⟨by omega, by omega⟩
    · exact ⟨by omega, by omega⟩
    · exact ⟨by omega, by omega⟩
/-- cut anywhere, or not: it ends too early, or is read as it was. -/
theorem read_take (a t : List Int) (k : Nat) (h1 : a.length ≤ k) :
    (k < (a ++ bytesN (numsP p)).length → readPg ((a ++ bytesN (numsP p) ++ t).take k) a.length = (noPg, 0, 2)) ∧
    ((a ++ bytesN (numsP p)).length ≤ k → readPg ((a ++ bytesN (numsP p) ++ t).take k) a.length = (p, ((a ++ bytesN (numsP p)).length : Int), 0)) := by
  obtain ⟨g1, g2, g3, g4, g5⟩ := nums_b64 r hb
  have n60 := r.n60; have k8 := r.k8
  obtain ⟨L1, hL1⟩ : ∃ l, [(p.code.length : Int)] = l := ⟨_, rfl⟩
  obtain ⟨L2, hL2⟩ : ∃ l, codeN p.code = l := ⟨_, rfl⟩
  obtain ⟨L3, hL3⟩ : ∃ l, [(p.kinds.length : Int)] = l := ⟨_, rfl⟩
  obtain ⟨L4, hL4⟩ : ∃ l, objsN p.kinds p.sizes = l := ⟨_, rfl⟩
  obtain ⟨L5, hL5⟩ : ∃ l, [p.cells, p.recs, p.pat] = l := ⟨_, rfl⟩
  have hN : numsP p = L1 ++ (L2 ++ (L3 ++ (L4 ++ L5))) := by rw [nums_eq, hL1, hL2, hL3, hL4, hL5]
  have l1 : L1.length = 1 := by rw [← hL1]; rfl
  have l2 : L2.length = p.code.length * 4 := by rw [← hL2]; exact codeN_len _
  have l3 : L3.length = 1 := by rw [← hL3]; rfl
  have l4 : L4.length = p.kinds.length * 2 := by rw [← hL4]; exact objsN_len _ _ r.ks
  have l5 : L5.length = 3 := by rw [← hL5]; rfl
  rw [hL1] at g1; rw [hL2] at g2; rw [hL3] at g3; rw [hL4] at g4; rw [hL5] at g5
  have eb : bytesN (numsP p) = bytesN L1 ++ (bytesN L2 ++ (bytesN L3 ++ (bytesN L4 ++ bytesN L5))) := by rw [hN]; simp only [bytesN_app]
  obtain ⟨bs, hbs⟩ : ∃ bs, (a ++ bytesN (numsP p) ++ t).take k = bs := ⟨_, rfl⟩
  obtain ⟨a1, ha1⟩ : ∃ x, a ++ bytesN L1 = x := ⟨_, rfl⟩
  obtain ⟨a2, ha2⟩ : ∃ x, a1 ++ bytesN L2 = x := ⟨_, rfl⟩
  obtain ⟨a3, ha3⟩ : ∃ x, a2 ++ bytesN L3 = x := ⟨_, rfl⟩
  obtain ⟨a4, ha4⟩ : ∃ x, a3 ++ bytesN L4 = x := ⟨_, rfl⟩
  obtain ⟨a5, ha5⟩ : ∃ x, a4 ++ bytesN L5 = x := ⟨_, rfl⟩
  have ea : a ++ bytesN (numsP p) = a5 := by rw [eb, ← ha5, ← ha4, ← ha3, ← ha2, ← ha1]; simp
  have m1 := many_take L1 a (bytesN L2 ++ (bytesN L3 ++ (bytesN L4 ++ bytesN L5)) ++ t) [] k g1 h1
  have m2 := many_take L2 a1 (bytesN L3 ++ (bytesN L4 ++ bytesN L5) ++ t) [] k g2
  have m3 := many_take L3 a2 (bytesN L4 ++ bytesN L5 ++ t) [] k g3
  have m4 := many_take L4 a3 (bytesN L5 ++ t) [] k g4
  have m5 := many_take L5 a4 t [] k g5
  have e1 : (a ++ bytesN L1 ++ (bytesN L2 ++ (bytesN L3 ++ (bytesN L4 ++ bytesN L5)) ++ t)).take k = bs := by rw [← hbs, eb]; simp
  have e2 : (a1 ++ bytesN L2 ++ (bytesN L3 ++ (bytesN L4 ++ bytesN L5) ++ t)).take k = bs := by rw [← hbs, eb, ← ha1]; simp
  have e3 : (a2 ++ bytesN L3 ++ (bytesN L4 ++ bytesN L5 ++ t)).take k = bs := by rw [← hbs, eb, ← ha2, ← ha1]; simp
  have e4 : (a3 ++ bytesN L4 ++ (bytesN L5 ++ t)).take k = bs := by rw [← hbs, eb, ← ha3, ← ha2, ← ha1]; simp
  have e5 : (a4 ++ bytesN L5 ++ t).take k = bs := by rw [← hbs, eb, ← ha4, ← ha3, ← ha2, ← ha1]; simp
  rw [e1, ha1, l1] at m1
  rw [e2, ha2, l2] at m2
  rw [e3, ha3, l3] at m3
  rw [e4, ha4, l4] at m4
  rw [e5, ha5, l5] at m5
  simp only [List.nil_append] at m1 m2 m3 m4 m5
  have s1 : a.length ≤ a1.length := by rw [← ha1]; simp
  have s2 : a1.length ≤ a2.length := by rw [← ha2]; simp
  have s3 : a2.length ≤ a3.length := by rw [← ha3]; simp
  have s4 : a3.length ≤ a4.length := by rw [← ha4]; simp
  have s5 : a4.length ≤ a5.length := by rw [← ha5]; simp
  have hlen : a.length ≤ bs.length := by
    rw [← hbs, List.length_take, ea, List.length_append]; omega
  have hst : ¬ (((a.length : Nat) : Int) < 0 ∨ (bs.length : Int) < ((a.length : Nat) : Int)) := by omega
  have q1 : ((p.code.length : Int) * 4).toNat = p.code.length * 4 := by omega
  have q2 : ((p.kinds.length : Int) * 2).toNat = p.kinds.length * 2 := by omega
  rw [hbs, ea]
  unfold readPg
  rw [if_neg hst]
  rcases m1 with ⟨k1, m1⟩ | ⟨k1, m1⟩
  · have hc := count_bad (most := 60) (each := 4) m1 (by decide)
    refine ⟨fun _ => by rw [hc]; rfl, fun h => by omega⟩
  have hc := count_back (most := 60) (each := 4) (by rw [← hL1] at m1; exact m1) (by omega) (by omega)
  rw [q1] at hc
  rcases m2 k1 with ⟨k2, m2⟩ | ⟨k2, m2⟩
  · refine ⟨fun _ => by rw [hc, m2]; rfl, fun h => by omega⟩
  rw [m2] at hc
  rw [hc]
  simp only [ne_eq, not_true_eq_false, if_false]
  rcases m3 k2 with ⟨k3, m3⟩ | ⟨k3, m3⟩
  · have hd := count_bad (most := 8) (each := 2) m3 (by decide)
    refine ⟨fun _ => by rw [hd]; rfl, fun h => by omega⟩
  have hd := count_back (most := 8) (each := 2) (by rw [← hL3] at m3; exact m3) (by omega) (by omega)
  rw [q2] at hd
  rcases m4 k3 with ⟨k4, m4⟩ | ⟨k4, m4⟩
  · refine ⟨fun _ => by rw [hd, m4]; rfl, fun h => by omega⟩
  rw [m4] at hd
  rw [hd]
  simp only [ne_eq, not_true_eq_false, if_false]
  rcases m5 k4 with ⟨k5, m5⟩ | ⟨k5, m5⟩
  · refine ⟨fun _ => by rw [m5]; rfl, fun h => by omega⟩
  rw [m5]
  refine ⟨fun h => by omega, fun _ => ?_⟩
  simp only [ne_eq, not_true_eq_false, if_false]
  have ep : mkPg L2 L4 L5 = p := by
    obtain ⟨x1, x2⟩ := evens_objs p.kinds p.sizes r.ks
    unfold mkPg
    rw [← hL2, quads_code, ← hL4, x1, x2, ← hL5]
    rfl
  unfold endPg
  rw [ep, if_pos (rightPg_iff.2 r)]
theorem read_back (a t : List Int) : readPg (a ++ bytesN (numsP p) ++ t) a.length = (p, ((a ++ bytesN (numsP p)).length : Int), 0) := by
  have h := (read_take r hb a t (a ++ bytesN (numsP p) ++ t).length (by simp)).2 (by simp)
  rwa [List.take_length] at h
theorem read_cut (a : List Int) (k : Nat) (h1 : a.length ≤ k) (h2 : k < (a ++ bytesN (numsP p)).length) : readPg ((a ++ bytesN (numsP p)).take k) a.length = (noPg, 0, 2) := by
  have h := (read_take r hb a [] k h1).1 h2
  rwa [List.append_nil] at h
end
/-- what is read has just the bytes that are written of it. -/
theorem zag_b64 {y : Nat} (h : y < 18446744073709551616) : B64 (zag y) := by unfold zag B64; split <;> omega
theorem many_short (bs : List Int) (hb : ∀ b ∈ bs, 0 ≤ b ∧ b ≤ 255) : ∀ (n k : Nat) (out l : List Int) (e : Int), k ≤ bs.length → manyS bs n k out = (l, e, 0) →
    ∃ (l' : List Int) (m : Nat), l = out ++ l' ∧ l'.length = n ∧ e = ((k + m : Nat) : Int) ∧ k + m ≤ bs.length ∧ bytesN l' = (bs.drop k).take m ∧ ∀ y ∈ l', B64 y
  | 0, k, out, l, e, hk, h => by
    injection h with h1 h2; injection h2 with h2 h3
    exact ⟨[], 0, by simp [h1], rfl, by rw [← h2]; simp, by omega, by simp [bytesN], by simp⟩
  | n + 1, k, out, l, e, hk, h => by
    have h : (if (readIntS bs k).2.2 ≠ 0 then (([], 0, (readIntS bs k).2.2) : List Int × Int × Int) else manyS bs n (readIntS bs k).2.1 (out ++ [(readIntS bs k).1])) = (l, e, 0) := h
    by_cases he : (readIntS bs k).2.2 = 0
    · rw [if_neg (by simp [he])] at h
      have hr : readS bs k = ((readS bs k).1, (readS bs k).2.1, 0) := by
        have : (readS bs k).2.2 = 0 := he
        rw [← this]
      obtain ⟨y, m, hx, hn, hm1, hm, hv, hs, hlt⟩ := readS_short bs k _ _ hb hk hr
      have e1 : (readIntS bs k).1 = zag y := by show zag (readS bs k).1 = _; rw [hx]
      have e2 : (readIntS bs k).2.1 = ((k + m : Nat) : Int) := hn
      rw [e1, e2] at h
      obtain ⟨l', m', g1, g2, g3, g4, g5, g6⟩ := many_short bs hb n (k + m) (out ++ [zag y]) l e hm h
      refine ⟨zag y :: l', m + m', by rw [g1]; simp, by simp [g2], by rw [g3]; norm_cast; omega, by omega, ?_, ?_⟩
      · have ez : (zig (zag y)).toNat = y := by rw [zig_zag _ (by omega)]; omega
        show vb (zig (zag y)).toNat ++ bytesN l' = _
        rw [ez, hv, g5, ← List.drop_drop, ← List.take_add]
      · intro z hz
        rcases List.mem_cons.1 hz with rfl | hz
        · exact zag_b64 hlt
        · exact g6 z hz
    · rw [if_pos he] at h
      injection h with _ h2; injection h2 with _ h3
      exact absurd h3 he
theorem many_ok {bs : List Int} {n k : Nat} {r : List Int × Int × Int} (h : manyS bs n k [] = r) (he : r.2.2 = 0) : manyS bs n k [] = (r.1, r.2.1, 0) := by rw [h, ← he]
theorem count_short {bs : List Int} (hb : ∀ b ∈ bs, 0 ≤ b ∧ b ≤ 255) {k : Nat} {most each : Nat} {l : List Int} {e : Int} (hk : k ≤ bs.length) (h : countS bs k most each = (l, e, 0)) :
    ∃ (c m : Nat), l.length = c * each ∧ c ≤ most ∧ e = ((k + m : Nat) : Int) ∧ k + m ≤ bs.length ∧ bytesN ((c : Int) :: l) = (bs.drop k).take m ∧ ∀ y ∈ l, B64 y := by
  unfold countS at h
  obtain ⟨r, hr⟩ : ∃ r, manyS bs 1 k [] = r := ⟨_, rfl⟩
  rw [hr] at h
  by_cases he : r.2.2 = 0
  · rw [if_neg (by simp [he])] at h
    by_cases hc : r.1.getD 0 0 < 0 ∨ (most : Int) < r.1.getD 0 0
    · rw [if_pos hc] at h
      injection h with _ h2; injection h2 with _ h3; cases h3
    · rw [if_neg hc] at h
      obtain ⟨l1, m1, g1, g2, g3, g4, g5, g6⟩ := many_short bs hb 1 k [] r.1 r.2.1 hk (many_ok hr he)
      match l1, g2 with
      | [c], _ =>
        rw [List.nil_append] at g1
        rw [g1] at h hc
        have hc : ¬ (c < 0 ∨ (most : Int) < c) := hc
        obtain ⟨n, rfl⟩ : ∃ n : Nat, c = n := ⟨c.toNat, by omega⟩
        have h : manyS bs ((n : Int) * (each : Int)).toNat r.2.1 [] = (l, e, 0) := h
        rw [g3, show ((n : Int) * (each : Int)).toNat = n * each by rw [← Int.natCast_mul]; exact Int.toNat_natCast _] at h
        obtain ⟨l2, m2, q1, q2, q3, q4, q5, q6⟩ := many_short bs hb _ (k + m1) [] l e g4 h
        rw [List.nil_append] at q1
        subst q1
        refine ⟨n, m1 + m2, q2, by omega, by rw [q3]; norm_cast; omega, by omega, ?_, q6⟩
        have g5 : vb (zig n).toNat ++ [] = _ := g5
        show vb (zig n).toNat ++ bytesN l = _
        rw [List.append_nil] at g5
        rw [g5, q5, ← List.drop_drop, ← List.take_add]
  · rw [if_pos he] at h
    injection h with _ h2; injection h2 with _ h3
    exact absurd h3 he
theorem read_short {bs : List Int} (hb : ∀ b ∈ bs, 0 ≤ b ∧ b ≤ 255) {q : Pg} {e : Int} (h : readPg bs 0 = (q, e, 0)) : RightPg q ∧ PB q ∧ ∃ m : Nat, e = m ∧ m ≤ bs.length ∧ bytesN (numsP q) = bs.take m := by
  unfold readPg at h
  rw [if_neg (by omega)] at h
  obtain ⟨r1, h1⟩ : ∃ r, countS bs 0 60 4 = r := ⟨_, rfl⟩
  rw [h1] at h
  by_cases e1 : r1.2.2 ≠ 0
  · rw [if_pos e1] at h; injection h with _ h; injection h with _ h; exact absurd h e1
  rw [if_neg e1] at h
  replace e1 : r1.2.2 = 0 := by simpa using e1
  obtain ⟨r2, h2⟩ : ∃ r, countS bs r1.2.1 8 2 = r := ⟨_, rfl⟩
  rw [h2] at h
  by_cases e2 : r2.2.2 ≠ 0
  · rw [if_pos e2] at h; injection h with _ h; injection h with _ h; exact absurd h e2
  rw [if_neg e2] at h
  replace e2 : r2.2.2 = 0 := by simpa using e2
  obtain ⟨r3, h3⟩ : ∃ r, manyS bs 3 r2.2.1 [] = r := ⟨_, rfl⟩
  rw [h3] at h
  by_cases e3 : r3.2.2 ≠ 0
  · rw [if_pos e3] at h; injection h with _ h; injection h with _ h; exact absurd h e3
  rw [if_neg e3] at h
  replace e3 : r3.2.2 = 0 := by simpa using e3
  unfold endPg at h
  by_cases hr0 : ¬ rightPg (mkPg r1.1 r2.1 r3.1) = true
  · rw [if_neg hr0] at h; injection h with _ h; injection h with _ h; cases h
  have hr : rightPg (mkPg r1.1 r2.1 r3.1) = true := Classical.not_not.1 hr0
  rw [if_pos hr] at h
  injection h with hq h; injection h with he _
  obtain ⟨c1, m1, a1, a2, a3, a4, a5, a6⟩ := count_short hb (k := 0) (most := 60) (each := 4) (l := r1.1) (e := r1.2.1) (by omega) (by show countS bs 0 60 4 = _; rw [h1, ← e1])
  rw [a3] at h2
  obtain ⟨c2, m2, b1, b2, b3, b4, b5, b6⟩ := count_short hb (k := 0 + m1) (most := 8) (each := 2) (l := r2.1) (e := r2.2.1) a4 (by show countS bs _ 8 2 = _; rw [h2, ← e2])
  rw [b3] at h3
  obtain ⟨l3, m3, d1, d2, d3, d4, d5, d6⟩ := many_short bs hb 3 _ [] r3.1 r3.2.1 b4 (by rw [h3, ← e3])
  rw [List.nil_append] at d1
  rw [← d1] at d2 d5 d6
  obtain ⟨x1, x2⟩ := code_quads c1 r1.1 a1
  obtain ⟨y1, y2, y3⟩ := objs_pairs c2 r2.1 b1
  have z := lst3 d2
  have hn : numsP q = (c1 : Int) :: (r1.1 ++ ((c2 : Int) :: (r2.1 ++ r3.1))) := by
    rw [← hq]
    show (((quads r1.1).length : Int)) :: (codeN (quads r1.1) ++ (((evens r2.1).length : Int) :: (objsN (evens r2.1) (odds r2.1) ++ [r3.1.getD 0 0, r3.1.getD 1 0, r3.1.getD 2 0]))) = _
    rw [x1, x2, y1, y2, ← z]
  have hall : bytesN (numsP q) = bytesN ((c1 : Int) :: r1.1) ++ (bytesN ((c2 : Int) :: r2.1) ++ bytesN r3.1) := by
    rw [hn]
    show vb _ ++ bytesN (r1.1 ++ ((c2 : Int) :: (r2.1 ++ r3.1))) = (vb _ ++ bytesN r1.1) ++ ((vb _ ++ bytesN r2.1) ++ bytesN r3.1)
    rw [bytesN_app]
    show vb _ ++ (bytesN r1.1 ++ (vb _ ++ bytesN (r2.1 ++ r3.1))) = _
    rw [bytesN_app]
    simp
  refine ⟨hq ▸ rightPg_iff.1 hr, ⟨?_, ?_, ?_⟩, m1 + m2 + m3, by rw [← he, d3]; norm_cast; omega, by omega, ?_⟩
  · rw [← hq]
    intro x hx
    have : ∀ (l : List Int), (∀ y ∈ l, B64 y) → ∀ x ∈ quads l, B64 x.1 ∧ B64 x.2.1 ∧ B64 x.2.2.1 ∧ B64 x.2.2.2 := by
      intro l
      induction l using quads.induct with
      | case1 a b c d l ih =>
        intro hl x hx
        simp only [quads, List.mem_cons] at hx
        rcases hx with rfl | hx
        · exact ⟨hl _ (by simp), hl _ (by simp), hl _ (by simp), hl _ (by simp)⟩
        · exact ih (fun y hy => hl y (by simp [hy])) x hx
      | case2 l hne =>
        intro hl x hx
        unfold quads at hx
        split at hx
        · rename_i a b c d l'; exact absurd rfl (hne a b c d l')
        · simp at hx
    exact this r1.1 a6 x hx
  · rw [← hq]
    intro x hx
    have : x ∈ r2.1 := by
      rw [← y1]
      have : ∀ (ks ss : List Int), ss.length = ks.length → ∀ x ∈ ks, x ∈ objsN ks ss := by
        intro ks
        induction ks with
        | nil => intro ss _ x hx; simp at hx
        | cons k ks ih =>
          intro ss h x hx
          match ss, h with
          | s :: ss, h =>
            rcases List.mem_cons.1 hx with rfl | hx
            · simp [objsN]
            · have := ih ss (by simpa using h) x hx; simp [objsN, this]
      exact this _ _ (by rw [y2, y3]) x hx
    exact b6 x this
  · rw [← hq]
    intro x hx
    have : x ∈ r2.1 := by
      rw [← y1]
      have : ∀ (ks ss : List Int), ss.length = ks.length → ∀ x ∈ ss, x ∈ objsN ks ss := by
        intro ks
        induction ks with
        | nil => intro ss h x hx; simp at h; subst h; simp at hx
        | cons k ks ih =>
          intro ss h x hx
          match ss, h with
          | s :: ss, h =>
            rcases List.mem_cons.1 hx with rfl | hx
            · simp [objsN]
            · have := ih ss (by simpa using h) x hx; simp [objsN, this]
      exact this _ _ (by rw [y2, y3]) x hx
    exact b6 x this
  · rw [hall, a5, b5, d5]
    simp only [Nat.zero_add, List.drop_zero]
    rw [← List.drop_drop, Nat.add_assoc]
    rw [List.take_add (i := m1), List.take_add (i := m2)]
theorem read_err {bs : List Int} {at_ : Int} {q : Pg} {n e : Int} (h : readPg bs at_ = (q, n, e)) (he : e ≠ 0) : n = 0 ∧ q = noPg := by
  unfold readPg at h
  split at h
  · injection h with h1 h2; injection h2 with h2 h3; exact ⟨h2.symm, h1.symm⟩
  · split at h
    · injection h with h1 h2; injection h2 with h2 h3; exact ⟨h2.symm, h1.symm⟩
    · split at h
      · injection h with h1 h2; injection h2 with h2 h3; exact ⟨h2.symm, h1.symm⟩
      · split at h
        · injection h with h1 h2; injection h2 with h2 h3; exact ⟨h2.symm, h1.symm⟩
        · unfold endPg at h
          split at h
          · injection h with h1 h2; injection h2 with h2 h3; exact absurd h3.symm he
          · injection h with h1 h2; injection h2 with h2 h3; exact ⟨h2.symm, h1.symm⟩
end Go.Proofs.Ytkoodhnfphmbnaa
