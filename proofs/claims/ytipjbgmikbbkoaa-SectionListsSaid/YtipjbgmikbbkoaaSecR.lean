/- Plain mathematics of layer 4, there and back: what is written is read as it was, what is listed is written as it was, another byte is told; no condition but those in each theorem. -/
import Derived.Test.YtipjbgmikbbkoaaSecQ
namespace Go.Proofs.Ytipjbgmikbbkoaa
set_option linter.unusedVariables false
set_option linter.unusedSimpArgs false

theorem num_digs4 : ∀ (k : Nat) (x : Int), 0 ≤ x → x < 256 ^ k → num (digs x k) = x
  | 0, x, h0, h => by have : x = 0 := by simp at h; omega
                      subst this; rfl
  | k + 1, x, h0, h => by
    have := num_digs4 k (x / 256) (by omega) (by rw [Int.pow_succ] at h; omega)
    simp only [digs, num, this]; omega
theorem digs_num4 : ∀ (l : List Int), (∀ b ∈ l, 0 ≤ b ∧ b ≤ 255) → digs (num l) l.length = l
  | [], _ => rfl
  | b :: r, h => by
    have h1 := digs_num4 r fun x hx => h x (by simp [hx])
    have h2 := h b (by simp)
    simp only [num, List.length_cons, digs]
    have e1 : (b + 256 * num r) % 256 = b := by omega
    have e2 : (b + 256 * num r) / 256 = num r := by omega
    rw [e1, e2, h1]
theorem num_sum (H : List Int) : num (digs (sumS H : Nat) 4) = (sumS H : Nat) := by
  have := sumS_lt H
  have e : (256 : Int) ^ 4 = 4294967296 := by decide
  exact num_digs4 4 _ (by omega) (by rw [e]; omega)
theorem drop_app {a c : List Int} : (a ++ c).drop a.length = c := by simp
theorem take_app {a c : List Int} : (a ++ c).take a.length = a := by simp
/-- the fields of such bytes. -/
theorem gen_tag (a b body D : List Int) (t : Int) (ht : t ≠ 0) : tagS (a ++ (t :: (vb body.length ++ body) ++ D) ++ b) a.length = (t, ((a.length + 1 : Nat) : Int), 0) := by
  have hl : a.length < (a ++ (t :: (vb body.length ++ body) ++ D) ++ b).length := by simp
  have hg : (a ++ (t :: (vb body.length ++ body) ++ D) ++ b).getD a.length 0 = t := by simp [List.getD]
  have := tagS_some hl (by rw [hg]; exact ht)
  rw [hg] at this; exact this
theorem gen_len (a b body D : List Int) (t : Int) (hl : body.length ≤ 65535) : lenS (a ++ (t :: (vb body.length ++ body) ++ D) ++ b) ((a.length + 1 : Nat) : Int) = ((body.length : Int), ((a.length + 1 + vs body.length : Nat) : Int), 0) := by
  have h := readS_back (a ++ [t]) (body ++ D ++ b) body.length (by omega)
  have e : a ++ [t] ++ vb body.length ++ (body ++ D ++ b) = a ++ (t :: (vb body.length ++ body) ++ D) ++ b := by simp
  have e2 : (a ++ [t]).length = a.length + 1 := by simp
  have e3 : (a ++ [t] ++ vb body.length).length = a.length + 1 + vs body.length := by simp [vb_len]; omega
  rw [e, e2, e3] at h
  exact lenS_ok h rfl (by simp only; omega)
theorem gen_body (a b body D : List Int) (t : Int) (hl : body.length ≤ 65535) :
    bodyS (a ++ (t :: (vb body.length ++ body) ++ D) ++ b) ((a.length + 1 : Nat) : Int) = (body, ((a.length + (t :: (vb body.length ++ body)).length : Nat) : Int), 0) := by
  rw [bodyS_ok (gen_len a b body D t hl) rfl]
  have e : a ++ (t :: (vb body.length ++ body) ++ D) ++ b = (a ++ [t] ++ vb body.length) ++ (body ++ (D ++ b)) := by simp
  have e3 : (a ++ [t] ++ vb body.length).length = a.length + 1 + vs body.length := by simp [vb_len]; omega
  have h := cutS_mk (a ++ (t :: (vb body.length ++ body) ++ D) ++ b) (a.length + 1 + vs body.length) body.length (by simp [vb_len]; omega)
  simp only at h ⊢
  rw [h]
  have e4 : ((a ++ (t :: (vb body.length ++ body) ++ D) ++ b).drop (a.length + 1 + vs body.length)).take body.length = body := by
    rw [e, ← e3, drop_app, take_app]
  have e5 : a.length + 1 + vs body.length + body.length = a.length + (t :: (vb body.length ++ body)).length := by simp [vb_len]; omega
  rw [e4, e5]
theorem gen_sum (a b H D : List Int) (hD : D.length = 4) : takeS (a ++ (H ++ D) ++ b) ((a.length + H.length : Nat) : Int) 4 = (num D, ((a.length + H.length + 4 : Nat) : Int), 0) := by
  have h := takeS_mk (a ++ (H ++ D) ++ b) (a.length + H.length) 4 (by omega) (by omega) (by simp; omega)
  have e : a ++ (H ++ D) ++ b = (a ++ H) ++ (D ++ b) := by simp
  have e2 : ((a ++ (H ++ D) ++ b).drop (a.length + H.length)).take 4 = D := by
    rw [e, ← List.length_append, drop_app, ← hD, take_app]
  rw [e2] at h; exact h
theorem gen_head (a b H D : List Int) : ((a ++ (H ++ D) ++ b).drop (a.length : Int).toNat).take (((a.length + H.length : Nat) : Int) - (a.length : Int)).toNat = H := by
  have e : a ++ (H ++ D) ++ b = a ++ (H ++ (D ++ b)) := by simp
  have e2 : (((a.length + H.length : Nat) : Int) - (a.length : Int)).toNat = H.length := by omega
  rw [Int.toNat_natCast, e2, e, drop_app, take_app]
theorem gen_ok (a b body D : List Int) (t : Int) (ht : t ≠ 0) (hl : body.length ≤ 65535) (hD : D.length = 4) (h : num D = (sumS (t :: (vb body.length ++ body)) : Nat)) :
    secS (a ++ (t :: (vb body.length ++ body) ++ D) ++ b) a.length = ((t, body), ((a.length + (t :: (vb body.length ++ body)).length + 4 : Nat) : Int), 0) :=
  secS_ok (gen_tag a b body D t ht) rfl (gen_body a b body D t hl) rfl (gen_sum a b _ D hD) rfl (by rw [h]; congr 1; rw [gen_head])
theorem gen_bad (a b body D : List Int) (t : Int) (ht : t ≠ 0) (hl : body.length ≤ 65535) (hD : D.length = 4) (h : num D ≠ (sumS (t :: (vb body.length ++ body)) : Nat)) :
    secS (a ++ (t :: (vb body.length ++ body) ++ D) ++ b) a.length = ((0, []), 0, 5) :=
  secS_sum (gen_tag a b body D t ht) rfl (gen_body a b body D t hl) rfl (gen_sum a b _ D hD) rfl (by rw [show ((((body, ((a.length + (t :: (vb body.length ++ body)).length : Nat) : Int), (0 : Int)) : List Int × Int × Int).2.1)) = ((a.length + (t :: (vb body.length ++ body)).length : Nat) : Int) from rfl, gen_head]; exact h)
/-- what is written is read as it was. -/
theorem secS_back (a b : List Int) (s : Int × List Int) (h0 : s.1 ≠ 0) (hl : s.2.length ≤ 65535) : secS (a ++ secB s ++ b) a.length = (s, ((a ++ secB s).length : Int), 0) := by
  have h := gen_ok a b s.2 (digs (sumS (headS s) : Nat) 4) s.1 h0 hl (digs_len _ _) (num_sum _)
  have e : (a ++ secB s).length = a.length + (s.1 :: (vb s.2.length ++ s.2)).length + 4 := by
    simp only [secB, headS, List.length_append, digs_len]; omega
  rw [e]; exact h
theorem listA_back : ∀ (l : List (Int × List Int)) (t : Int) (acc y : List Int) (lacc : List (Int × List Int)) (f : Nat), 0 ≤ t → lastT lacc = t → allA l t acc = (y, 0) → y.length ≤ acc.length + f →
    (∃ x, y = acc ++ x) ∧ listA y f acc.length lacc = (lacc ++ l, 0)
  | [], t, acc, y, lacc, f, ht, hla, h, hf => by
    simp only [allA] at h
    injection h with h1 _
    subst h1
    exact ⟨⟨[], by simp⟩, by rw [listA_end (Nat.le_refl _)]; simp⟩
  | s :: r, t, acc, y, lacc, f, ht, hla, h, hf => by
    rw [allA] at h
    split at h
    · cases h
    · rename_i h1
      split at h
      · cases h
      · rename_i h2
        have hpos : 0 < (secB s).length := by simp [secB, headS]
        obtain ⟨⟨x, hx⟩, _⟩ := listA_back r s.1 (acc ++ secB s) y (lacc ++ [s]) f (by omega) (lastT_snoc _ _) h (by rw [List.length_append]; omega)
        have hlt : acc.length < y.length := by rw [hx]; simp only [List.length_append]; omega
        obtain ⟨g, rfl⟩ : ∃ g, f = g + 1 := ⟨f - 1, by omega⟩
        obtain ⟨_, h4⟩ := listA_back r s.1 (acc ++ secB s) y (lacc ++ [s]) g (by omega) (lastT_snoc _ _) h (by rw [List.length_append]; omega)
        have hb := secS_back acc x s (by omega) (by omega)
        rw [← hx] at hb
        refine ⟨⟨secB s ++ x, by rw [hx]; simp⟩, ?_⟩
        rw [listA_next hlt hb (by rw [hla]; exact h1), h4]; simp
/-- what All writes is listed as it was. -/
theorem list_all (l : List (Int × List Int)) (y : List Int) (h : allS l = (y, 0)) : listS y = (l, 0) := by
  have := (listA_back l 0 [] y [] y.length (by omega) rfl h (by simp)).2
  simpa [listS] using this
theorem allA_snoc (s : Int × List Int) (hl : s.2.length ≤ 65535) : ∀ (l : List (Int × List Int)) (t : Int) (acc y : List Int), allA l t acc = (y, 0) → (l = [] → t < s.1) → (l ≠ [] → lastT l < s.1) → allA (l ++ [s]) t acc = (y ++ secB s, 0)
  | [], t, acc, y, h, h1, _ => by
    simp only [allA] at h
    injection h with h2 _
    subst h2
    have := h1 rfl
    simp only [List.nil_append, allA]
    rw [if_neg (by omega), if_neg (by omega)]
  | u :: r, t, acc, y, h, _, h1 => by
    rw [allA] at h
    rw [List.cons_append, allA]
    split at h
    · cases h
    · rename_i h2
      split at h
      · cases h
      · rename_i h3
        rw [if_neg h2, if_neg h3]
        have hlast : lastT (u :: r) < s.1 := h1 (by simp)
        refine allA_snoc s hl r u.1 _ y h (fun hr => ?_) (fun hr => ?_)
        · subst hr; exact hlast
        · have : lastT (u :: r) = lastT r := by
            unfold lastT
            cases r with
            | nil => exact absurd rfl hr
            | cons v r => simp [List.getLast?_cons_cons]
          rw [← this]; exact hlast
/-- a section that is read stands there just as it is written. -/
theorem secS_bytes {bs : List Int} {k : Nat} {s : Int × List Int} {k' : Nat} (hb : ∀ b ∈ bs, 0 ≤ b ∧ b ≤ 255) (h : secS bs k = (s, (k' : Int), 0)) :
    k < k' ∧ k' ≤ bs.length ∧ bs.take k' = bs.take k ++ secB s ∧ 1 ≤ s.1 ∧ s.2.length ≤ 65535 := by
  obtain ⟨j, q, x, hj, hjq, hq, hk', ht, hbd, htk, hx, s1, s2⟩ := secS_inv hb h
  obtain rfl : j = k := by omega
  obtain rfl : k' = q + 4 := by omega
  obtain ⟨y, m, hq2, hy, hm, hle, hvb, hvs⟩ := bodyS_inv (k := j + 1) hb (by omega) hbd rfl
  injection hq2 with hbody hq3; injection hq3 with hq3 _
  obtain rfl : q = j + 1 + m + y := by omega
  have hbl : s.2.length = y := by rw [hbody, List.length_take, List.length_drop]; omega
  obtain ⟨j2, hj2, hj3, ht2, _, _⟩ := tagS_inv hb ht rfl
  obtain rfl : j2 = j := by omega
  injection ht2 with ht3 _
  have hhead : (bs.drop j2).take (j2 + 1 + m + y - j2) = headS s := by
    have e : j2 + 1 + m + y - j2 = 1 + (m + y) := by omega
    have e1 : bs.drop j2 = bs.getD j2 0 :: bs.drop (j2 + 1) := by rw [List.drop_eq_getElem_cons hj3]; simp [List.getD, List.getElem?_eq_getElem hj3]
    rw [e, e1, Nat.add_comm 1, List.take_succ_cons, ← ht3, List.take_add, ← hvb, List.drop_drop, headS, hbl, hbody]
  have htk4 := takeS_mk bs (j2 + 1 + m + y) 4 (by omega) (by omega) hq
  have htk5 := htk4.symm.trans htk
  injection htk5 with hx2 _
  rw [hhead] at hx
  have hd4 : (bs.drop (j2 + 1 + m + y)).take 4 = digs (sumS (headS s) : Nat) 4 := by
    have h5 := digs_num4 ((bs.drop (j2 + 1 + m + y)).take 4) (fun z hz => hb z (List.mem_of_mem_drop (List.mem_of_mem_take hz)))
    rw [hx2, hx] at h5
    have h6 : ((bs.drop (j2 + 1 + m + y)).take 4).length = 4 := by rw [List.length_take, List.length_drop]; omega
    rw [h6] at h5; exact h5.symm
  refine ⟨by omega, hq, ?_, s1, by omega⟩
  have e2 : j2 + 1 + m + y + 4 = j2 + ((j2 + 1 + m + y - j2) + 4) := by omega
  rw [e2, List.take_add, List.take_add, hhead, List.drop_drop, show j2 + (j2 + 1 + m + y - j2) = j2 + 1 + m + y by omega, hd4]
  rfl
theorem listA_all {bs : List Int} (hb : ∀ b ∈ bs, 0 ≤ b ∧ b ≤ 255) : ∀ (f k : Nat) (lacc l : List (Int × List Int)), listA bs f k lacc = (l, 0) → bs.length ≤ k + f → k ≤ bs.length → allA lacc 0 [] = (bs.take k, 0) → allA l 0 [] = (bs, 0)
  | 0, k, lacc, l, h, hf, hk, ha => by
    simp only [listA] at h
    injection h with h1 _
    subst h1
    rw [ha, List.take_of_length_le (by omega)]
  | f + 1, k, lacc, l, h, hf, hk, ha => by
    rw [listA] at h
    split at h
    · injection h with h1 _
      subst h1
      rw [ha, List.take_of_length_le (by omega)]
    · rename_i h1
      split at h
      · rename_i h2
        exact absurd (congrArg (·.2) h) h2
      · rename_i h2
        split at h
        · cases h
        · rename_i h3
          have h2' : (secS bs k).2.2 = 0 := by simpa using h2
          obtain ⟨j, q, x, hj, _, _, hk', _⟩ := secS_inv (s := (secS bs k).1) (k' := (secS bs k).2.1) hb (Prod.ext rfl (Prod.ext rfl h2'))
          have hn : (((secS bs k).2.1.toNat : Nat) : Int) = (secS bs k).2.1 := by omega
          obtain ⟨g1, g2, g3, g4, g5⟩ := secS_bytes (s := (secS bs k).1) (k' := (secS bs k).2.1.toNat) hb (Prod.ext rfl (Prod.ext hn.symm h2'))
          refine listA_all hb f _ _ l h (by omega) g2 ?_
          rw [g3]
          refine allA_snoc _ g5 lacc 0 [] _ ha (fun _ => by omega) (fun _ => by omega)
/-- what is listed has just the bytes that All writes of it. -/
theorem all_list {bs : List Int} (hb : ∀ b ∈ bs, 0 ≤ b ∧ b ≤ 255) (l : List (Int × List Int)) (h : listS bs = (l, 0)) : allS l = (bs, 0) :=
  listA_all hb bs.length 0 [] l h (by omega) (by omega) rfl
/-- as much as is listed. -/
theorem allA_len : ∀ (l : List (Int × List Int)) (t : Int) (acc y : List Int), allA l t acc = (y, 0) → tot l + 2 * acc.length ≤ 2 * y.length
  | [], t, acc, y, h => by simp only [allA] at h; injection h with h1 _; subst h1; simp [tot]
  | s :: r, t, acc, y, h => by
    rw [allA] at h
    split at h
    · cases h
    · split at h
      · cases h
      · have := allA_len r s.1 _ y h
        have h2 := vs_pos s.2.length
        simp only [tot, List.length_append, secB, headS, List.length_cons, vb_len, digs_len] at this ⊢
        omega
end Go.Proofs.Ytipjbgmikbbkoaa
