/- Plain mathematics of layer 9: a key more, a key fewer; a key that came and went; in which order keys came; no condition but those in each theorem. -/
import Derived.Test.YtfgfohomgomidaaTreN
namespace Go.Proofs.Ytfgfohomgomidaa
set_option linter.unusedVariables false
set_option linter.unusedSimpArgs false
open Go.RowKit

/-- nodes whose free list ends, and whose keys are unlike, from 0 on: laid, they may be. -/
theorem laidP_ok {p : Trp} {fl : List Int} (hs : p.1.length ≤ 64) (hc : FCh p.1 p.2.2 fl) (hn : fl.Nodup)
    (hk : ∀ x : Int, 0 ≤ x → x < (p.1.length : Int) → x ∉ fl → 0 ≤ keyT p.1 x)
    (hd : ∀ x y : Int, 0 ≤ x → x < (p.1.length : Int) → x ∉ fl → 0 ≤ y → y < (p.1.length : Int) → y ∉ fl → keyT p.1 x = keyT p.1 y → x = y) :
    TOk (laidP p) fl (sortT p) ∧ LRest p.1 (laidP p).1 (sortT p) ∧ ∀ x, x ∈ sortT p ↔ 0 ≤ x ∧ x < (p.1.length : Int) ∧ x ∉ fl := by
  have hfree : freeT p = fl := by
    unfold freeT freeW
    rw [chain_walkT (out := []) hc hn (by simp) (by have := places_len hn (fch_in hc); omega)]
    simp
  have hst : sortT p = sortK p.1 fl p.1.length := by unfold sortT; rw [hfree]
  have hmem : ∀ x, x ∈ sortT p ↔ 0 ≤ x ∧ x < (p.1.length : Int) ∧ x ∉ fl := fun x => by rw [hst, sortK_mem]
  have hnd : (sortT p).Nodup := by rw [hst]; exact sortK_nodup
  have hin : InN p.1.length (sortT p) := fun x hx => ⟨((hmem x).1 hx).1, ((hmem x).1 hx).2.1⟩
  have hweak : Weak p.1 (sortT p) := by rw [hst]; exact sortK_weak
  have hrise : Rise p.1 (sortT p) := by
    refine List.pairwise_iff_getElem.2 fun i j hi hj hij => ?_
    have h1 := List.pairwise_iff_getElem.1 hweak i j hi hj hij
    have h2 := List.pairwise_iff_getElem.1 hnd i j hi hj hij
    have a := (hmem _).1 (List.getElem_mem hi)
    have b := (hmem _).1 (List.getElem_mem hj)
    rcases Int.lt_or_eq_of_le h1 with h3 | h3
    · exact h3
    · exact absurd (hd _ _ a.1 a.2.1 a.2.2 b.1 b.2.1 b.2.2 h3) h2
  obtain ⟨hr, ht⟩ := laid_tree (ns := p.1) (Nat.le_refl _) hnd hin
  have hkey : ∀ x ∈ sortT p, keyT (laidT (sortT p).length p.1 (sortT p)).1 x = keyT p.1 x := fun x hx => (hr.same x (hin x hx).1 (hin x hx).2).1
  refine ⟨⟨by show (laidT (sortT p).length p.1 (sortT p)).1.length ≤ 64; rw [hr.len]; exact hs, ?_, hn, ht, ?_, ?_, ?_⟩, hr, hmem⟩
  · refine fch_same hr.len hc fun x hx => ?_
    have hb := fch_in hc x hx
    exact hr.out x hb.1 hb.2 fun hm => ((hmem x).1 hm).2.2 hx
  · intro x; show _ ↔ 0 ≤ x ∧ x < ((laidT (sortT p).length p.1 (sortT p)).1.length : Int) ∧ x ∉ fl; rw [hr.len]; exact hmem x
  · refine List.Pairwise.imp_of_mem (fun {a b} ha hb h => ?_) hrise
    show keyT (laidT (sortT p).length p.1 (sortT p)).1 a < keyT (laidT (sortT p).length p.1 (sortT p)).1 b
    rw [hkey a ha, hkey b hb]; exact h
  · intro x hx
    show 0 ≤ keyT (laidT (sortT p).length p.1 (sortT p)).1 x
    rw [hkey x hx]
    have := (hmem x).1 hx
    exact hk x this.1 this.2.1 this.2.2
structure Put (p : Trp) (key prio : Int) (i : Int) (fl' l : List Int) (q : Trp) : Prop where
  eq : insT p key prio = (q, i, 0)
  ok : TOk q fl' (sortT (putIn p key prio))
  rest : LRest (putIn p key prio).1 q.1 (sortT (putIn p key prio))
  mem : ∀ x, x ∈ sortT (putIn p key prio) ↔ x = i ∨ x ∈ l
  lenE : q.1.length = p.1.length
  new : (ndAt q.1 i).k = key ∧ (ndAt q.1 i).p = prio ∧ (ndAt q.1 i).h = -1 ∧ (ndAt q.1 i).t = -1
  old : ∀ x ∈ l, (ndAt q.1 x).k = (ndAt p.1 x).k ∧ (ndAt q.1 x).p = (ndAt p.1 x).p ∧ (ndAt q.1 x).h = (ndAt p.1 x).h ∧ (ndAt q.1 x).t = (ndAt p.1 x).t
  free : q.2.2 = (ndAt p.1 i).l
  out : ∀ j : Int, 0 ≤ j → j < (p.1.length : Int) → j ≠ i → j ∉ l → ndAt q.1 j = ndAt p.1 j
/-- a key more. -/
theorem ins_ok {p : Trp} {fl l : List Int} (h : TOk p fl l) {key prio : Int} (hk : 0 ≤ key) (hnew : ∀ x ∈ l, keyT p.1 x ≠ key) :
    (fl = [] ∧ insT p key prio = (p, 0, 6)) ∨ ∃ i fl' q, fl = i :: fl' ∧ i ∉ l ∧ 0 ≤ i ∧ i < (p.1.length : Int) ∧ Put p key prio i fl' l q := by
  have hpl := h.place_none hnew
  have hc := h.chain
  cases fl with
  | nil =>
    left
    refine ⟨rfl, ?_⟩
    unfold insT
    rw [if_neg (by rw [h.right]; simp; omega), if_neg (by rw [hpl]; omega), if_pos (show p.2.2 = -1 from hc)]
  | cons i fl' =>
    right
    obtain ⟨e, g0, g1, g2, hc2⟩ := hc
    have hn := List.nodup_cons.1 h.fnodup
    have hil : i ∉ l := fun hm => ((h.cover i).1 hm).2.2 (by simp)
    have hnd : ∀ j : Int, 0 ≤ j → ndAt (putIn p key prio).1 j = if j = i then newN key prio else ndAt p.1 j := fun j h0 => by
      show ndAt (p.1.set p.2.2.toNat (newN key prio)) j = _
      rw [e, ndAt_set g0 h0 g1]
    have hlen : (putIn p key prio).1.length = p.1.length := by simp [putIn]
    have hfree2 : (putIn p key prio).2.2 = (ndAt p.1 i).l := by show (ndAt p.1 p.2.2).l = _; rw [e]
    have hchain : FCh (putIn p key prio).1 (putIn p key prio).2.2 fl' := by
      rw [hfree2]
      exact fch_same hlen hc2 fun x hx => by rw [hnd x (fch_in hc2 x hx).1, if_neg (fun e : x = i => hn.1 (e ▸ hx))]
    have hcov : ∀ x, (0 ≤ x ∧ x < (p.1.length : Int) ∧ x ∉ fl') ↔ x = i ∨ x ∈ l := fun x => by
      rw [h.cover]
      simp only [List.mem_cons, not_or]
      constructor
      · rintro ⟨a, b, c⟩
        by_cases e2 : x = i
        · exact Or.inl e2
        · exact Or.inr ⟨a, b, e2, c⟩
      · rintro (rfl | ⟨a, b, c, d⟩)
        · exact ⟨g0, g1, hn.1⟩
        · exact ⟨a, b, d⟩
    have hkey : ∀ x, 0 ≤ x → keyT (putIn p key prio).1 x = if x = i then key else keyT p.1 x := fun x h0 => by
      unfold keyT; rw [hnd x h0]; split <;> rfl
    obtain ⟨h1, h2, h3⟩ := laidP_ok (p := putIn p key prio) (fl := fl') (by rw [hlen]; exact h.size) hchain hn.2
      (fun x h0 hx hf => by
        rw [hlen] at hx
        rw [hkey x h0]
        split
        · exact hk
        · rename_i e2
          exact h.pos x (((hcov x).1 ⟨h0, hx, hf⟩).resolve_left e2))
      (fun x y hx0 hx1 hx2 hy0 hy1 hy2 he => by
        rw [hlen] at hx1 hy1
        rw [hkey x hx0, hkey y hy0] at he
        have cx := (hcov x).1 ⟨hx0, hx1, hx2⟩
        have cy := (hcov y).1 ⟨hy0, hy1, hy2⟩
        by_cases ex : x = i
        · by_cases ey : y = i
          · rw [ex, ey]
          · rw [if_pos ex, if_neg ey] at he
            exact absurd he.symm (hnew y (cy.resolve_left ey))
        · by_cases ey : y = i
          · rw [if_neg ex, if_pos ey] at he
            exact absurd he (hnew x (cx.resolve_left ex))
          · rw [if_neg ex, if_neg ey] at he
            exact key_one h.rise (cx.resolve_left ex) (cy.resolve_left ey) he)
    have hmem : ∀ x, x ∈ sortT (putIn p key prio) ↔ x = i ∨ x ∈ l := fun x => by rw [h3, hlen, hcov]
    refine ⟨i, fl', laidP (putIn p key prio), rfl, hil, g0, g1, ?_, h1, h2, hmem, h2.len.trans hlen, ?_, fun x hx => ?_, hfree2, fun j h0 hj hji hjl => ?_⟩
    · unfold insT
      rw [if_neg (by rw [h.right]; simp; omega), if_neg (by rw [hpl]; omega), if_neg (by omega), e]
    · have := h2.same i g0 (by rw [hlen]; exact g1)
      rw [hnd i g0, if_pos rfl] at this
      exact this
    · have hb := h.inN x hx
      have := h2.same x hb.1 (by rw [hlen]; exact hb.2)
      rw [hnd x hb.1, if_neg (fun e : x = i => hil (e ▸ hx))] at this
      exact this
    · rw [h2.out j h0 (by rw [hlen]; exact hj) (fun hm => by rcases (hmem j).1 hm with e | hm; exact hji e; exact hjl hm), hnd j h0, if_neg hji]
structure Gone (p : Trp) (x : Int) (fl l : List Int) (q : Trp) : Prop where
  eq : delT p (keyT p.1 x) = (q, 0)
  is : q = laidP (takeOut p x)
  ok : TOk q (x :: fl) (sortT (takeOut p x))
  mem : ∀ y, y ∈ sortT (takeOut p x) ↔ y ∈ l ∧ y ≠ x
  lenE : q.1.length = p.1.length
  old : ∀ y ∈ l, y ≠ x → (ndAt q.1 y).k = (ndAt p.1 y).k ∧ (ndAt q.1 y).p = (ndAt p.1 y).p ∧ (ndAt q.1 y).h = (ndAt p.1 y).h ∧ (ndAt q.1 y).t = (ndAt p.1 y).t
theorem ndAt_out {p : Trp} {x : Int} (h0 : 0 ≤ x) (h1 : x < (p.1.length : Int)) {j : Int} (hj : 0 ≤ j) : ndAt (takeOut p x).1 j = if j = x then empN p.2.2 else ndAt p.1 j := ndAt_set h0 hj h1
/-- a key fewer. -/
theorem del_ok {p : Trp} {fl l : List Int} (h : TOk p fl l) {x : Int} (hx : x ∈ l) (hq : (ndAt p.1 x).h = -1 ∧ (ndAt p.1 x).t = -1) : ∃ q, Gone p x fl l q := by
  have hb := h.inN x hx
  have hpl := h.place_some hx rfl
  have hxf : x ∉ fl := ((h.cover x).1 hx).2.2
  have hnd := fun j (hj : 0 ≤ j) => @ndAt_out p x hb.1 hb.2 j hj
  have hlen : (takeOut p x).1.length = p.1.length := by simp [takeOut]
  have hchain : FCh (takeOut p x).1 (takeOut p x).2.2 (x :: fl) := by
    refine ⟨rfl, hb.1, by rw [hlen]; exact hb.2, ?_, ?_⟩
    · rw [hnd x hb.1, if_pos rfl]; rfl
    · rw [hnd x hb.1, if_pos rfl]
      exact fch_same hlen h.chain fun y hy => by rw [hnd y (fch_in h.chain y hy).1, if_neg (fun e : y = x => hxf (e ▸ hy))]
  have hcov : ∀ y, (0 ≤ y ∧ y < (p.1.length : Int) ∧ y ∉ x :: fl) ↔ y ∈ l ∧ y ≠ x := fun y => by
    rw [h.cover]
    simp only [List.mem_cons, not_or]
    constructor
    · rintro ⟨a, b, c, d⟩; exact ⟨⟨a, b, d⟩, c⟩
    · rintro ⟨⟨a, b, d⟩, c⟩; exact ⟨a, b, c, d⟩
  have hkey : ∀ y, 0 ≤ y → y ≠ x → keyT (takeOut p x).1 y = keyT p.1 y := fun y h0 hy => by unfold keyT; rw [hnd y h0, if_neg hy]
  obtain ⟨h1, h2, h3⟩ := laidP_ok (p := takeOut p x) (fl := x :: fl) (by rw [hlen]; exact h.size) hchain (List.nodup_cons.2 ⟨hxf, h.fnodup⟩)
    (fun y h0 hy hf => by
      rw [hlen] at hy
      have hc := (hcov y).1 ⟨h0, hy, hf⟩
      rw [hkey y h0 hc.2]; exact h.pos y hc.1)
    (fun y z hy0 hy1 hy2 hz0 hz1 hz2 he => by
      rw [hlen] at hy1 hz1
      have cy := (hcov y).1 ⟨hy0, hy1, hy2⟩
      have cz := (hcov z).1 ⟨hz0, hz1, hz2⟩
      rw [hkey y hy0 cy.2, hkey z hz0 cz.2] at he
      exact key_one h.rise cy.1 cz.1 he)
  refine ⟨laidP (takeOut p x), ?_, rfl, h1, fun y => by rw [h3, hlen, hcov], h2.len.trans hlen, fun y hy hyx => ?_⟩
  · unfold delT
    rw [if_neg (by rw [h.right]; simp), hpl, if_neg (by omega), if_neg (by rw [hq.1, hq.2]; simp)]
  · have hyb := h.inN y hy
    have := h2.same y hyb.1 (by rw [hlen]; exact hyb.2)
    rw [hnd y hyb.1, if_neg hyx] at this
    exact this
theorem del_none {p : Trp} {fl l : List Int} (h : TOk p fl l) {key : Int} (hk : ∀ x ∈ l, keyT p.1 x ≠ key) : delT p key = (p, 7) := by
  unfold delT
  rw [if_neg (by rw [h.right]; simp), h.place_none hk, if_pos (by omega)]
/-- a key that came and went leaves all as it was. -/
theorem ins_del {p q : Trp} {fl' l : List Int} {i key prio : Int} (h : TOk p (i :: fl') l) (hil : i ∉ l) (h0 : 0 ≤ i) (h1 : i < (p.1.length : Int)) (hp : Put p key prio i fl' l q) :
    delT q key = (p, 0) := by
  have him : i ∈ sortT (putIn p key prio) := (hp.mem i).2 (Or.inl rfl)
  obtain ⟨q2, hg⟩ := del_ok hp.ok him ⟨hp.new.2.2.1, hp.new.2.2.2⟩
  have hkq : keyT q.1 i = key := hp.new.1
  have e1 := hg.eq
  rw [hkq] at e1
  rw [e1, hg.is]
  have hi2 : i < (q.1.length : Int) := by rw [hp.lenE]; exact h1
  have hnd := fun j (hj : 0 ≤ j) => @ndAt_out q i h0 hi2 j hj
  have hlen : (takeOut q i).1.length = p.1.length := by simp [takeOut, hp.lenE]
  have hei := h.chain.2.2.2.1
  have hmem : ∀ y, y ∈ sortT (takeOut q i) ↔ y ∈ l := fun y => by
    rw [hg.mem, hp.mem]
    constructor
    · rintro ⟨e | hy, hne⟩
      · exact absurd e hne
      · exact hy
    · intro hy; exact ⟨Or.inr hy, fun e => hil (e ▸ hy)⟩
  have hrest : LRest (takeOut q i).1 p.1 l := by
    refine ⟨hlen.symm, fun j g0 g1 => ?_, fun j g0 g1 hn => ?_⟩
    · rw [hlen] at g1
      rw [hnd j g0]
      by_cases e : j = i
      · subst e; rw [if_pos rfl, hp.free, ← hei]; exact ⟨rfl, rfl, rfl, rfl⟩
      · rw [if_neg e]
        by_cases hj : j ∈ l
        · obtain ⟨a, b, c, d⟩ := hp.old j hj; exact ⟨a.symm, b.symm, c.symm, d.symm⟩
        · rw [hp.out j g0 g1 e hj]; exact ⟨rfl, rfl, rfl, rfl⟩
    · rw [hlen] at g1
      rw [hnd j g0]
      by_cases e : j = i
      · subst e; rw [if_pos rfl, hp.free, ← hei]
      · rw [if_neg e, hp.out j g0 g1 e hn]
  have hsort : sortT (takeOut q i) = l := by
    have hr := hg.ok.rise
    have hkk : ∀ y ∈ sortT (takeOut q i), keyT q2.1 y = keyT p.1 y := fun y hy => by
      have hyl := (hmem y).1 hy
      have hyi : y ≠ i := fun e => hil (e ▸ hyl)
      have a := (hg.old y ((hp.mem y).2 (Or.inr hyl)) hyi).1
      have b := (hp.old y hyl).1
      unfold keyT; rw [a, b]
    have hr2 : Rise p.1 (sortT (takeOut q i)) := List.Pairwise.imp_of_mem (fun {a b} ha hb hlt => by rw [hkk a ha, hkk b hb] at hlt; exact hlt) hr
    exact rise_one hr2 (rise_weak h.rise) h.nodup hmem
  have hl := laid_one h.tree (Nat.le_refl _) h.nodup hrest
  congr 1
  unfold laidP
  rw [hsort, hl]
  show (p.1, p.2.1, i) = p
  rw [← h.chain.1]
/-- are two trees alike, but for their places? -/
def alikeS (ns ns' : List Nd) : Nat → Int → Int → Bool
  | 0, i, j => if i = -1 ∨ j = -1 then decide (i = j) else false
  | d + 1, i, j => if i = -1 ∨ j = -1 then decide (i = j) else if i < 0 ∨ (ns.length : Int) ≤ i ∨ j < 0 ∨ (ns'.length : Int) ≤ j then false else
    decide ((ndAt ns i).k = (ndAt ns' j).k) && decide ((ndAt ns i).p = (ndAt ns' j).p) && alikeS ns ns' d (ndAt ns i).l (ndAt ns' j).l && alikeS ns ns' d (ndAt ns i).r (ndAt ns' j).r
theorem alike_tree {ns ns' : List Nd} : ∀ {d : Nat} {r r' : Int} {l l' : List Int}, Tr ns r l → Tr ns' r' l' → l.map (keyT ns) = l'.map (keyT ns') → l.map (prT ns) = l'.map (prT ns') → l.length ≤ d → alikeS ns ns' d r r' = true
  | d, r, r', l, l', ht, ht', hk, hp, hd => by
    by_cases hl : l = []
    · subst hl
      have hl' : l' = [] := by simpa using hk.symm
      subst hl'
      rw [ht.nil_of rfl, ht'.nil_of rfl]
      cases d <;> simp [alikeS]
    · have hl' : l' ≠ [] := fun e => by subst e; simp at hk; exact hl hk
      obtain ⟨a, b, rfl, h0, h1, ta, tb, pa, pb⟩ := ht.split hl
      obtain ⟨a', b', rfl, h0', h1', ta', tb', pa', pb'⟩ := ht'.split hl'
      have hlen := tr_shape pa pb pa' pb' hp
      simp only [List.map_append, List.map_cons] at hk hp
      obtain ⟨ka, kx⟩ := List.append_inj hk (by simpa using hlen)
      obtain ⟨qa, qx⟩ := List.append_inj hp (by simpa using hlen)
      injection kx with kx kb
      injection qx with qx qb
      simp only [List.length_append, List.length_cons] at hd
      obtain ⟨d, rfl⟩ : ∃ e, d = e + 1 := ⟨d - 1, by omega⟩
      unfold alikeS
      rw [if_neg (by omega), if_neg (by omega), alike_tree ta ta' ka qa (by omega), alike_tree tb tb' kb qb (by omega)]
      unfold keyT at kx; unfold prT at qx
      rw [decide_eq_true kx, decide_eq_true qx]; rfl
theorem sub_len : ∀ {a l : List Int}, a.Nodup → (∀ x ∈ a, x ∈ l) → a.length ≤ l.length
  | [], l, _, _ => by simp
  | x :: a, l, hn, h => by
    obtain ⟨h1, h2⟩ := List.nodup_cons.1 hn
    have hx := h x (by simp)
    have := @sub_len a (l.erase x) h2 fun y hy => (List.mem_erase_of_ne (fun e : y = x => h1 (e ▸ hy))).2 (h y (by simp [hy]))
    rw [List.length_erase_of_mem hx] at this
    have := List.length_pos_of_mem hx
    simp only [List.length_cons]; omega
/-- keys of priorities that hang on them, of 16, without queues. -/
structure OInv (pr : Int → Int) (p : Trp) (S : Int → Prop) (fl l : List Int) : Prop where
  ok : TOk p fl l
  len : p.1.length = 16
  pri : ∀ x ∈ l, prT p.1 x = pr (keyT p.1 x)
  que : ∀ x ∈ l, (ndAt p.1 x).h = -1 ∧ (ndAt p.1 x).t = -1
  small : ∀ x ∈ l, keyT p.1 x < 16
  mem : ∀ k, (∃ x ∈ l, keyT p.1 x = k) ↔ S k
theorem OInv.room {pr : Int → Int} {p : Trp} {S : Int → Prop} {l : List Int} (h : OInv pr p S [] l) {k : Int} (h0 : 0 ≤ k) (h1 : k < 16) : S k := by
  refine Classical.byContradiction fun hn => ?_
  have hlen : l.length = 16 := by
    have h2 := h.ok.len
    have h3 : ∀ i : Nat, i < 16 → (i : Int) ∈ l := fun i hi => (h.ok.cover i).2 ⟨by omega, by rw [h.len]; omega, by simp⟩
    have h4 : ((List.range 16).map fun i : Nat => (i : Int)).length ≤ l.length := sub_len (by decide) fun x hx => by
      obtain ⟨i, hi, rfl⟩ := List.mem_map.1 hx; exact h3 i (List.mem_range.1 hi)
    rw [h.len] at h2
    simp only [List.length_map, List.length_range] at h4
    omega
  have hks : (k :: l.map (keyT p.1)).Nodup := by
    refine List.nodup_cons.2 ⟨fun hm => ?_, ?_⟩
    · obtain ⟨x, hx, e⟩ := List.mem_map.1 hm; exact hn ((h.mem k).1 ⟨x, hx, e⟩)
    · exact List.Pairwise.map _ (fun a b hab e => by omega) h.ok.rise
  have := places_len (n := 16) hks fun x hx => by
    rcases List.mem_cons.1 hx with rfl | hx
    · exact ⟨h0, by omega⟩
    · obtain ⟨y, hy, rfl⟩ := List.mem_map.1 hx
      exact ⟨h.ok.pos y hy, by have := h.small y hy; omega⟩
  simp at this
  omega
theorem OInv.ins {pr : Int → Int} {p : Trp} {S : Int → Prop} {fl l : List Int} (h : OInv pr p S fl l) {k : Int} (h0 : 0 ≤ k) (h1 : k < 16) :
    ∃ q i e fl2 l2, insT p k (pr k) = (q, i, e) ∧ (e = 0 ∨ e = 8) ∧ OInv pr q (fun j => j = k ∨ S j) fl2 l2 := by
  by_cases hs : S k
  · obtain ⟨x, hx, hkx⟩ := (h.mem k).2 hs
    refine ⟨p, 0, 8, fl, l, ?_, Or.inr rfl, ⟨h.ok, h.len, h.pri, h.que, h.small, fun j => ?_⟩⟩
    · unfold insT
      rw [if_neg (by rw [h.ok.right]; simp; omega), h.ok.place_some hx hkx, if_pos (h.ok.inN x hx).1]
    · rw [h.mem]
      constructor
      · exact Or.inr
      · rintro (rfl | hj)
        · exact hs
        · exact hj
  · have hnew : ∀ x ∈ l, keyT p.1 x ≠ k := fun x hx e => hs ((h.mem k).1 ⟨x, hx, e⟩)
    rcases ins_ok (prio := pr k) h.ok h0 hnew with ⟨rfl, _⟩ | ⟨i, fl', q, rfl, hil, i0, i1, hp⟩
    · exact absurd (h.room h0 h1) hs
    · have hcase : ∀ x ∈ sortT (putIn p k (pr k)), (x = i ∧ keyT q.1 x = k ∧ prT q.1 x = pr k) ∨ (x ∈ l ∧ keyT q.1 x = keyT p.1 x ∧ prT q.1 x = prT p.1 x) := fun x hx => by
        rcases (hp.mem x).1 hx with rfl | hx
        · exact Or.inl ⟨rfl, hp.new.1, hp.new.2.1⟩
        · exact Or.inr ⟨hx, (hp.old x hx).1, (hp.old x hx).2.1⟩
      refine ⟨q, i, 0, fl', _, hp.eq, Or.inl rfl, ⟨hp.ok, by rw [hp.lenE, h.len], fun x hx => ?_, fun x hx => ?_, fun x hx => ?_, fun j => ?_⟩⟩
      · rcases hcase x hx with ⟨_, a, b⟩ | ⟨hx, a, b⟩
        · rw [a, b]
        · rw [a, b]; exact h.pri x hx
      · rcases (hp.mem x).1 hx with rfl | hx
        · exact hp.new.2.2
        · obtain ⟨_, _, a, b⟩ := hp.old x hx
          rw [a, b]; exact h.que x hx
      · rcases hcase x hx with ⟨_, a, _⟩ | ⟨hx, a, _⟩
        · rw [a]; exact h1
        · rw [a]; exact h.small x hx
      · constructor
        · rintro ⟨x, hx, rfl⟩
          rcases hcase x hx with ⟨_, a, _⟩ | ⟨hx, a, _⟩
          · exact Or.inl a
          · exact Or.inr (by rw [a]; exact (h.mem _).1 ⟨x, hx, rfl⟩)
        · rintro (rfl | hj)
          · exact ⟨i, (hp.mem i).2 (Or.inl rfl), hp.new.1⟩
          · obtain ⟨x, hx, e⟩ := (h.mem j).2 hj
            exact ⟨x, (hp.mem x).2 (Or.inr hx), (hp.old x hx).1.trans e⟩
theorem OInv.del {pr : Int → Int} {p : Trp} {S : Int → Prop} {fl l : List Int} (h : OInv pr p S fl l) (k : Int) :
    ∃ q e fl2 l2, delT p k = (q, e) ∧ (S k → e = 0) ∧ (¬ S k → e = 7) ∧ OInv pr q (fun j => S j ∧ j ≠ k) fl2 l2 := by
  by_cases hs : S k
  · obtain ⟨x, hx, hkx⟩ := (h.mem k).2 hs
    obtain ⟨q, hg⟩ := del_ok h.ok hx (h.que x hx)
    have he := hg.eq
    rw [hkx] at he
    refine ⟨q, 0, x :: fl, _, he, fun _ => rfl, fun hn => absurd hs hn, ⟨hg.ok, by rw [hg.lenE, h.len], fun y hy => ?_, fun y hy => ?_, fun y hy => ?_, fun j => ?_⟩⟩
    · obtain ⟨hy, hyx⟩ := (hg.mem y).1 hy
      obtain ⟨a, b, _, _⟩ := hg.old y hy hyx
      unfold prT keyT; rw [a, b]; exact h.pri y hy
    · obtain ⟨hy, hyx⟩ := (hg.mem y).1 hy
      obtain ⟨_, _, a, b⟩ := hg.old y hy hyx
      rw [a, b]; exact h.que y hy
    · obtain ⟨hy, hyx⟩ := (hg.mem y).1 hy
      unfold keyT; rw [(hg.old y hy hyx).1]; exact h.small y hy
    · constructor
      · rintro ⟨y, hy, rfl⟩
        obtain ⟨hy, hyx⟩ := (hg.mem y).1 hy
        have e1 : keyT q.1 y = keyT p.1 y := (hg.old y hy hyx).1
        rw [e1]
        exact ⟨(h.mem _).1 ⟨y, hy, rfl⟩, fun e => hyx (key_one h.ok.rise hy hx (e.trans hkx.symm))⟩
      · rintro ⟨hj, hne⟩
        obtain ⟨y, hy, e⟩ := (h.mem j).2 hj
        have hyx : y ≠ x := fun e2 => hne (by rw [← e, e2, hkx])
        exact ⟨y, (hg.mem y).2 ⟨hy, hyx⟩, (hg.old y hy hyx).1.trans e⟩
  · have hnew : ∀ x ∈ l, keyT p.1 x ≠ k := fun x hx e => hs ((h.mem k).1 ⟨x, hx, e⟩)
    refine ⟨p, 7, fl, l, del_none h.ok hnew, fun hh => absurd hh hs, fun _ => rfl, ⟨h.ok, h.len, h.pri, h.que, h.small, fun j => ?_⟩⟩
    rw [h.mem]
    exact ⟨fun hj => ⟨hj, fun e => hs (e ▸ hj)⟩, fun hj => hj.1⟩
/-- two treaps of the same keys: alike. -/
theorem OInv.both {pr : Int → Int} {p p' : Trp} {S S' : Int → Prop} {fl fl' l l' : List Int} (h : OInv pr p S fl l) (h' : OInv pr p' S' fl' l') (hs : ∀ k, S k ↔ S' k) :
    keysT p = keysT p' ∧ alikeS p.1 p'.1 17 p.2.1 p'.2.1 = true := by
  have hk : l.map (keyT p.1) = l'.map (keyT p'.1) := by
    have r1 : (l.map (keyT p.1)).Pairwise (· < ·) := List.Pairwise.map _ (fun a b h => h) h.ok.rise
    have r2 : (l'.map (keyT p'.1)).Pairwise (· < ·) := List.Pairwise.map _ (fun a b h => h) h'.ok.rise
    have key : ∀ {a b : List Int}, a.Pairwise (· < ·) → b.Pairwise (· < ·) → (∀ x, x ∈ a ↔ x ∈ b) → a = b := by
      intro a
      induction a with
      | nil =>
        intro b _ _ hm
        cases b with
        | nil => rfl
        | cons y b => have := (hm y).2 (by simp); simp at this
      | cons x a ih =>
        intro b ha hb hm
        cases b with
        | nil => have := (hm x).1 (by simp); simp at this
        | cons y b =>
          obtain ⟨a1, a2⟩ := List.pairwise_cons.1 ha
          obtain ⟨b1, b2⟩ := List.pairwise_cons.1 hb
          have hxy : x = y := by
            rcases List.mem_cons.1 ((hm x).1 (by simp)) with e | hx
            · exact e
            · rcases List.mem_cons.1 ((hm y).2 (by simp)) with e | hy
              · exact e.symm
              · have := b1 x hx; have := a1 y hy; omega
          subst hxy
          rw [ih a2 b2 fun z => ⟨fun hz => ?_, fun hz => ?_⟩]
          · rcases List.mem_cons.1 ((hm z).1 (by simp [hz])) with e | hz2
            · have := a1 z hz; omega
            · exact hz2
          · rcases List.mem_cons.1 ((hm z).2 (by simp [hz])) with e | hz2
            · have := b1 z hz; omega
            · exact hz2
    refine key r1 r2 fun k => ?_
    have a := h.mem k; have b := h'.mem k
    simp only [List.mem_map]
    rw [show (∃ x, x ∈ l ∧ keyT p.1 x = k) ↔ S k from a, show (∃ x, x ∈ l' ∧ keyT p'.1 x = k) ↔ S' k from b, hs]
  have hpr : l.map (prT p.1) = l'.map (prT p'.1) := by
    have e1 : l.map (prT p.1) = (l.map (keyT p.1)).map pr := by rw [List.map_map]; exact List.map_congr_left fun x hx => h.pri x hx
    have e2 : l'.map (prT p'.1) = (l'.map (keyT p'.1)).map pr := by rw [List.map_map]; exact List.map_congr_left fun x hx => h'.pri x hx
    rw [e1, e2, hk]
  refine ⟨?_, alike_tree h.ok.tree h'.ok.tree hk hpr (by have := h.ok.len; rw [h.len] at this; omega)⟩
  unfold keysT
  rw [if_pos h.ok.right, if_pos h'.ok.right, h.ok.sorted, h'.ok.sorted, hk]
end Go.Proofs.Ytfgfohomgomidaa
