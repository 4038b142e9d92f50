/- The fixed fact 'alive' of layer 13 is true, and writes nothing that was there; no condition. -/
import Derived.Test.YtkoodhnfphmbnaaCodP
import Derived.Test.YtkoodhnfphmbnaaCodQ
import Derived.Test.YtkoodhnfphmbnaaRo
namespace Go.Proofs.Ytkoodhnfphmbnaa
set_option linter.unusedVariables false
set_option linter.unusedSimpArgs false
open Go.RowKit
theorem es_blk {w : World} {b k q : Nat} {cs : List Value} {T : TypeId} (h : w.heap[b]? = some (.cells cs.toArray T)) (h1 : ∀ u ∈ cs, u.oneCell' = true) (hq : cs.length = q * k) : Es w (some ⟨b, 0, none⟩) q q k cs :=
  ⟨hq, Nat.le_refl _, h1, fun _ => ⟨_, _, rfl, blk_lt h, fun j u hj => by
    rw [cell_of_row _ b (0 + j) _ T (0, 0) h]
    simpa using hj⟩⟩
theorem bytesN_small : ∀ (l : List Int), (∀ y ∈ l, (zig y).toNat < 128) → (bytesN l).length = l.length
  | [], _ => rfl
  | y :: l, h => by
    have h1 : vb (zig y).toNat = [((zig y).toNat : Int)] := vb_small (h y (by simp))
    simp only [bytesN, h1, List.length_append, List.length_cons, List.length_nil]
    rw [bytesN_small l (fun z hz => h z (by simp [hz]))]
    omega
theorem alA_len : (bytesN (numsP alA)).length = 29 := bytesN_small _ (by decide +kernel)
theorem alA_pb : PB alA := ⟨by decide +kernel, by decide +kernel, by decide +kernel⟩
theorem alB_pb : PB alB := ⟨by decide +kernel, by decide +kernel, by decide +kernel⟩
theorem alC_pb : PB alC := ⟨by decide +kernel, by decide +kernel, by decide +kernel⟩
theorem bs_es {w : World} {A : Option Addr} {n c : Nat} {l : List Int} (h : Es w A n c 1 (l.map (Value.int .u8))) (hb : ∀ b ∈ l, 0 ≤ b ∧ b ≤ 255) : Bs w A n c l := by
  have hl : l.length = n := by have := h.len; simpa using this
  refine ⟨hl, h.cap, hb, fun h0 => ?_⟩
  obtain ⟨b, off, e, hbs, hc⟩ := h.mem (by omega)
  refine ⟨b, off, e, hbs, fun i hi => hc i _ ?_⟩
  rw [List.getElem?_map, List.getElem?_eq_getElem (by omega)]
  simp [List.getD, show i < l.length by omega]
theorem es_own8 {w : World} {base n d : Nat} {B : Option Addr} {l : List Int} (h : w.ownsRow base 5 1 (.slice B n d) n (l.map (Value.int .u8))) : Es w B n d 1 (l.map (Value.int .u8)) := by
  obtain ⟨B', d', he, hrs⟩ := Es.of_own h (ints_oneCell _ _)
  injection he with he1 he2 he3; subst he1; subst he3; exact hrs
theorem own_len8 {w : World} {base n d : Nat} {B : Option Addr} {l : List Int} (h : w.ownsRow base 5 1 (.slice B n d) n (l.map (Value.int .u8))) : l.length = n := by have := h.1; simpa using this
set_option maxRecDepth 100000 in
set_option maxHeartbeats 8000000 in
theorem alive13 (w : World) : Calls Try.prog 7 #[] w fun e w' => e = .returned (.bool true) ∧ Below w.heap.size w w' := by
  obtain ⟨z, hz⟩ : ∃ x : Int, x = 0 := ⟨_, rfl⟩
  obtain ⟨co, hco⟩ : ∃ l, alA.code = l := ⟨_, rfl⟩
  obtain ⟨kA, hkA⟩ : ∃ l, alA.kinds = l := ⟨_, rfl⟩
  obtain ⟨kC, hkC⟩ : ∃ l, alC.kinds = l := ⟨_, rfl⟩
  obtain ⟨sA, hsA⟩ : ∃ l, alA.sizes = l := ⟨_, rfl⟩
  have eA : alA = ⟨co, kA, sA, 2, 5, 20⟩ := by subst hco hkA hsA; rfl
  have eC : alC = ⟨co, kC, sA, 2, 5, 20⟩ := by subst hco hkC hsA; rfl
  have e0 : noPg = ⟨[], [], [], z, z, z⟩ := by subst hz; rfl
  have lco : co.length = 5 := by subst hco; rfl
  have lkA : kA.length = 2 := by subst hkA; rfl
  have lkC : kC.length = 2 := by subst hkC; rfl
  have lsA : sA.length = 2 := by subst hsA; rfl
  obtain ⟨bl, hbl⟩ : ∃ l, bytesN (numsP alA) = l := ⟨_, rfl⟩
  have lbl : bl.length = 29 := by rw [← hbl]; exact alA_len
  have hby : ∀ b ∈ bl, 0 ≤ b ∧ b ≤ 255 := by rw [← hbl]; exact bytesN_byte _
  have a1 : appendPg [] alA = (bl, 0) := by unfold appendPg; rw [if_pos alA_right, hbl]; rfl
  have a2 : appendPg [7] alB = ([7, 2, 0, 0, 0, 0, 0, 0, 0, 2], 0) := by unfold appendPg; rw [if_pos alB_right, alB_bytes]
  have a3 : readPg bl 0 = (alA, (bl.length : Int), 0) := by
    have h := read_back (rightPg_iff.1 alA_right) alA_pb [] []
    rw [List.nil_append, List.append_nil, hbl] at h; exact h
  have a4 := al_big
  have a5 := al_wrong
  have i1 := alA_ins; have i2 := alC_ins; have r1 := alA_right; have r2 := alC_right
  have pA := alA_pb; have pB := alB_pb; have pC := alC_pb
  have s1 := sameB_self alA
  rw [eA] at a1 a3 i1 r1 pA s1
  rw [eC] at i2 r2 pC
  rw [e0] at a4 a5
  rw [lbl] at a3
  have hcA : insC co = [.int .i64 26, .int .i64 0, .int .i64 0, .int .i64 0, .int .i64 1, .int .i64 3, .int .i64 (-7), .int .i64 0, .int .i64 39, .int .i64 1, .int .i64 3, .int .i64 0, .int .i64 7, .int .i64 2, .int .i64 4, .int .i64 0, .int .i64 0, .int .i64 0, .int .i64 0, .int .i64 0] := by rw [← hco]; rfl
  have hkk : intC kA = [.int .i64 1, .int .i64 6] := by rw [← hkA]; rfl
  have hkc : intC kC = [.int .i64 1, .int .i64 3] := by rw [← hkC]; rfl
  have hss : intC sA = [.int .i64 0, .int .i64 9] := by rw [← hsA]; rfl
  clear hco hkA hkC hsA eA eC e0 hbl hz
  have c1 : ∀ (A : Option Addr) (n c : Nat) (B : Option Addr) (m d : Nat) (C : Option Addr) (k f : Nat) (W : World) (h1 : I4s W A n c co) (h2 : Is W B m d kA) (h3 : Is W C k f sA), Calls Try.prog 9 #[.slice none 0 0, .agg #[.slice A n c, .slice B m d, .slice C k f, .int .i64 2, .int .i64 5, .int .i64 20]] W (AppC W (bl, 0)) := fun A n c B m d C k f W h1 h2 h3 => by
    have h := cdAppend_any A n c B m d C k f co kA sA 2 5 20 W h1 h2 h3 (by have := I4s.len h1; omega) (by have : kA.length = m := Is.len h2; omega) (by have : sA.length = k := Is.len h3; omega) pA none 0 0 [] (Bs.nil _ _ _) (by omega)
    rw [a1] at h; exact h
  have c2 : ∀ (A : Option Addr) (c : Nat) (W : World), Bs W A 29 c bl → Calls Try.prog 17 #[.slice A 29 c, .int .i64 0] W (ReadC W (⟨co, kA, sA, 2, 5, 20⟩, 29, 0)) := fun A c W hb => by
    have h := cdRead_any A 29 c bl 0 W hb (by omega)
    rw [a3] at h; exact h
  have c3 : ∀ (E A : Option Addr) (W : World), Bs W E 1 1 [7] → I4s W A 1 1 [(0, 0, 0, 0)] → Calls Try.prog 9 #[.slice E 1 1, .agg #[.slice A 1 1, .slice none 0 0, .slice none 0 0, .int .i64 0, .int .i64 0, .int .i64 1]] W (AppC W ([7, 2, 0, 0, 0, 0, 0, 0, 0, 2], 0)) := fun E A W hb h1 => by
    have h := cdAppend_any A 1 1 none 0 0 none 0 0 [(0, 0, 0, 0)] [] [] 0 0 1 W h1 (Es.nil _ _ _ _) (Es.nil _ _ _ _) (by omega) (by omega) (by omega) pB E 1 1 [7] hb (by omega)
    rw [show appendPg [7] ⟨[(0, 0, 0, 0)], [], [], 0, 0, 1⟩ = _ from a2] at h; exact h
  have c4 : ∀ (A : Option Addr) (W : World), Bs W A 1 1 [122] → Calls Try.prog 17 #[.slice A 1 1, .int .i64 0] W (ReadC W (⟨[], [], [], z, z, z⟩, 0, 4)) := fun A W hb => by
    have h := cdRead_any A 1 1 [122] 0 W hb (by omega)
    rw [a4] at h; exact h
  have c5 : ∀ (A : Option Addr) (W : World), Bs W A 9 9 [2, 0, 0, 0, 0, 0, 0, 0, 0] → Calls Try.prog 17 #[.slice A 9 9, .int .i64 0] W (ReadC W (⟨[], [], [], z, z, z⟩, 0, 3)) := fun A W hb => by
    have h := cdRead_any A 9 9 [2, 0, 0, 0, 0, 0, 0, 0, 0] 0 W hb (by omega)
    rw [a5] at h; exact h
  have c6 : ∀ (A : Option Addr) (n c : Nat) (B : Option Addr) (m d : Nat) (C : Option Addr) (k f : Nat) (W : World) (h1 : I4s W A n c co) (h2 : Is W B m d kA) (h3 : Is W C k f sA), Calls Try.prog 13 #[.agg #[.slice A n c, .slice B m d, .slice C k f, .int .i64 2, .int .i64 5, .int .i64 20]] W (YesC W true) := fun A n c B m d C k f W h1 h2 h3 => by
    have h := cdRight_any A n c B m d C k f co kA sA 2 5 20 W h1 h2 h3 (by have := I4s.len h1; omega) (by have : kA.length = m := Is.len h2; omega) (by have : sA.length = k := Is.len h3; omega) pA 
    rw [r1] at h; exact h
  have c7 : ∀ (A : Option Addr) (n c : Nat) (B : Option Addr) (m d : Nat) (C : Option Addr) (k f : Nat) (W : World) (h1 : I4s W A n c co) (h2 : Is W B m d kC) (h3 : Is W C k f sA), Calls Try.prog 13 #[.agg #[.slice A n c, .slice B m d, .slice C k f, .int .i64 2, .int .i64 5, .int .i64 20]] W (YesC W false) := fun A n c B m d C k f W h1 h2 h3 => by
    have h := cdRight_any A n c B m d C k f co kC sA 2 5 20 W h1 h2 h3 (by have := I4s.len h1; omega) (by have : kC.length = m := Is.len h2; omega) (by have : sA.length = k := Is.len h3; omega) pC 
    rw [r2] at h; exact h
  have c8 : ∀ (A : Option Addr) (n c : Nat) (B : Option Addr) (m d : Nat) (C : Option Addr) (k f : Nat) (W : World) (h1 : I4s W A n c co) (h2 : Is W B m d kA) (h3 : Is W C k f sA), Calls Try.prog 11 #[.agg #[.slice A n c, .slice B m d, .slice C k f, .int .i64 2, .int .i64 5, .int .i64 20], .int .i64 2] W (YesC W true) := fun A n c B m d C k f W h1 h2 h3 => by
    have h := cdIns_any A n c B m d C k f co kA sA 2 5 20 W h1 h2 h3 (by have := I4s.len h1; omega) (by have : kA.length = m := Is.len h2; omega) (by have : sA.length = k := Is.len h3; omega) pA 2
    rw [i1] at h; exact h
  have c9 : ∀ (A : Option Addr) (n c : Nat) (B : Option Addr) (m d : Nat) (C : Option Addr) (k f : Nat) (W : World) (h1 : I4s W A n c co) (h2 : Is W B m d kC) (h3 : Is W C k f sA), Calls Try.prog 11 #[.agg #[.slice A n c, .slice B m d, .slice C k f, .int .i64 2, .int .i64 5, .int .i64 20], .int .i64 2] W (YesC W false) := fun A n c B m d C k f W h1 h2 h3 => by
    have h := cdIns_any A n c B m d C k f co kC sA 2 5 20 W h1 h2 h3 (by have := I4s.len h1; omega) (by have : kC.length = m := Is.len h2; omega) (by have : sA.length = k := Is.len h3; omega) pC 2
    rw [i2] at h; exact h
  have c10 : ∀ (A : Option Addr) (n c : Nat) (B : Option Addr) (m d : Nat) (C : Option Addr) (k f : Nat) (W : World) (h1 : I4s W A n c co) (h2 : Is W B m d kA) (h3 : Is W C k f sA) (A2 : Option Addr) (n2 c2 : Nat) (B2 : Option Addr) (m2 d2 : Nat) (C2 : Option Addr) (k2 f2 : Nat) (h4 : I4s W A2 n2 c2 co) (h5 : Is W B2 m2 d2 kA) (h6 : Is W C2 k2 f2 sA), Calls Try.prog 15 #[.agg #[.slice A n c, .slice B m d, .slice C k f, .int .i64 2, .int .i64 5, .int .i64 20], .agg #[.slice A2 n2 c2, .slice B2 m2 d2, .slice C2 k2 f2, .int .i64 2, .int .i64 5, .int .i64 20]] W (YesC W true) := fun A n c B m d C k f W h1 h2 h3 A2 n2 c2 B2 m2 d2 C2 k2 f2 h4 h5 h6 => by
    have h := cdSame_any A n c B m d C k f co kA sA 2 5 20 W h1 h2 h3 (by have := I4s.len h1; omega) (by have : kA.length = m := Is.len h2; omega) (by have : sA.length = k := Is.len h3; omega) pA A2 n2 c2 B2 m2 d2 C2 k2 f2 co kA sA 2 5 20 h4 h5 h6
    rw [s1] at h; exact h
  have HB := Lib.hid (And.intro (Below.refl w.heap.size w) (Nat.le_refl w.heap.size))
  clear a1 a2 a3 a4 a5 i1 i2 r1 r2 pA pB pC s1 lco lkA lkC lsA
  replace c1 := Lib.hid c1
  replace c2 := Lib.hid c2
  replace c3 := Lib.hid c3
  replace c4 := Lib.hid c4
  replace c5 := Lib.hid c5
  replace c6 := Lib.hid c6
  replace c7 := Lib.hid c7
  replace c8 := Lib.hid c8
  replace c9 := Lib.hid c9
  replace c10 := Lib.hid c10
  have HBY := Lib.hid hby; have HCA := Lib.hid hcA; have HKK := Lib.hid hkk; have HKC := Lib.hid hkc; have HSS := Lib.hid hss; have LBL := Lib.hid lbl
  clear hby hcA hkk hkc hss lbl
  have gq := HB.out.2
  obtain ⟨w1, hw1⟩ : ∃ W, ((((w.alloc (.cells #[.int .i64 26, .int .i64 0, .int .i64 0, .int .i64 0, .int .i64 1, .int .i64 3, .int .i64 (-7), .int .i64 0, .int .i64 39, .int .i64 1, .int .i64 3, .int .i64 0, .int .i64 7, .int .i64 2, .int .i64 4, .int .i64 0, .int .i64 0, .int .i64 0, .int .i64 0, .int .i64 0] 40)).alloc (.cells #[.int .i64 1, .int .i64 6] 3)).alloc (.cells #[.int .i64 0, .int .i64 9] 3)).alloc (.cells #[.slice (some ⟨w.heap.size, 0, none⟩) 5 5, .slice (some ⟨w.heap.size + 1, 0, none⟩) 2 2, .slice (some ⟨w.heap.size + 2, 0, none⟩) 2 2, .int .i64 2, .int .i64 5, .int .i64 20] 25)) = W := ⟨_, rfl⟩
  have hb : Below w.heap.size w w1 := hw1 ▸ (((((Below.refl _ _).alloc (Nat.le_refl _) _).alloc (by first | (simp; done) | (simp; omega)) _).alloc (by first | (simp; done) | (simp; omega)) _).alloc (by first | (simp; done) | (simp; omega)) _)
  have hv0 : w1.heap[w.heap.size]? = some (.cells #[.int .i64 26, .int .i64 0, .int .i64 0, .int .i64 0, .int .i64 1, .int .i64 3, .int .i64 (-7), .int .i64 0, .int .i64 39, .int .i64 1, .int .i64 3, .int .i64 0, .int .i64 7, .int .i64 2, .int .i64 4, .int .i64 0, .int .i64 0, .int .i64 0, .int .i64 0, .int .i64 0] 40) := by
    have h0 := heap_alloc_new w (.cells #[.int .i64 26, .int .i64 0, .int .i64 0, .int .i64 0, .int .i64 1, .int .i64 3, .int .i64 (-7), .int .i64 0, .int .i64 39, .int .i64 1, .int .i64 3, .int .i64 0, .int .i64 7, .int .i64 2, .int .i64 4, .int .i64 0, .int .i64 0, .int .i64 0, .int .i64 0, .int .i64 0] 40)
    rw [show w.heap.size = w.heap.size by simp [Nat.add_assoc]] at h0
    rw [← hw1]
    rw [heap_alloc_old _ _ (by simp <;> omega), heap_alloc_old _ _ (by simp <;> omega), heap_alloc_old _ _ (by simp <;> omega)]; exact h0
  have hv1 : w1.heap[w.heap.size + 1]? = some (.cells #[.int .i64 1, .int .i64 6] 3) := by
    have h0 := heap_alloc_new (w.alloc (.cells #[.int .i64 26, .int .i64 0, .int .i64 0, .int .i64 0, .int .i64 1, .int .i64 3, .int .i64 (-7), .int .i64 0, .int .i64 39, .int .i64 1, .int .i64 3, .int .i64 0, .int .i64 7, .int .i64 2, .int .i64 4, .int .i64 0, .int .i64 0, .int .i64 0, .int .i64 0, .int .i64 0] 40)) (.cells #[.int .i64 1, .int .i64 6] 3)
    rw [show (w.alloc (.cells #[.int .i64 26, .int .i64 0, .int .i64 0, .int .i64 0, .int .i64 1, .int .i64 3, .int .i64 (-7), .int .i64 0, .int .i64 39, .int .i64 1, .int .i64 3, .int .i64 0, .int .i64 7, .int .i64 2, .int .i64 4, .int .i64 0, .int .i64 0, .int .i64 0, .int .i64 0, .int .i64 0] 40)).heap.size = w.heap.size + 1 by simp [Nat.add_assoc]] at h0
    rw [← hw1]
    rw [heap_alloc_old _ _ (by simp <;> omega), heap_alloc_old _ _ (by simp <;> omega)]; exact h0
  have hv2 : w1.heap[w.heap.size + 2]? = some (.cells #[.int .i64 0, .int .i64 9] 3) := by
    have h0 := heap_alloc_new ((w.alloc (.cells #[.int .i64 26, .int .i64 0, .int .i64 0, .int .i64 0, .int .i64 1, .int .i64 3, .int .i64 (-7), .int .i64 0, .int .i64 39, .int .i64 1, .int .i64 3, .int .i64 0, .int .i64 7, .int .i64 2, .int .i64 4, .int .i64 0, .int .i64 0, .int .i64 0, .int .i64 0, .int .i64 0] 40)).alloc (.cells #[.int .i64 1, .int .i64 6] 3)) (.cells #[.int .i64 0, .int .i64 9] 3)
    rw [show ((w.alloc (.cells #[.int .i64 26, .int .i64 0, .int .i64 0, .int .i64 0, .int .i64 1, .int .i64 3, .int .i64 (-7), .int .i64 0, .int .i64 39, .int .i64 1, .int .i64 3, .int .i64 0, .int .i64 7, .int .i64 2, .int .i64 4, .int .i64 0, .int .i64 0, .int .i64 0, .int .i64 0, .int .i64 0] 40)).alloc (.cells #[.int .i64 1, .int .i64 6] 3)).heap.size = w.heap.size + 2 by simp [Nat.add_assoc]] at h0
    rw [← hw1]
    rw [heap_alloc_old _ _ (by simp <;> omega)]; exact h0
  have hv3 : w1.heap[w.heap.size + 3]? = some (.cells #[.slice (some ⟨w.heap.size, 0, none⟩) 5 5, .slice (some ⟨w.heap.size + 1, 0, none⟩) 2 2, .slice (some ⟨w.heap.size + 2, 0, none⟩) 2 2, .int .i64 2, .int .i64 5, .int .i64 20] 25) := by
    have h0 := heap_alloc_new (((w.alloc (.cells #[.int .i64 26, .int .i64 0, .int .i64 0, .int .i64 0, .int .i64 1, .int .i64 3, .int .i64 (-7), .int .i64 0, .int .i64 39, .int .i64 1, .int .i64 3, .int .i64 0, .int .i64 7, .int .i64 2, .int .i64 4, .int .i64 0, .int .i64 0, .int .i64 0, .int .i64 0, .int .i64 0] 40)).alloc (.cells #[.int .i64 1, .int .i64 6] 3)).alloc (.cells #[.int .i64 0, .int .i64 9] 3)) (.cells #[.slice (some ⟨w.heap.size, 0, none⟩) 5 5, .slice (some ⟨w.heap.size + 1, 0, none⟩) 2 2, .slice (some ⟨w.heap.size + 2, 0, none⟩) 2 2, .int .i64 2, .int .i64 5, .int .i64 20] 25)
    rw [show (((w.alloc (.cells #[.int .i64 26, .int .i64 0, .int .i64 0, .int .i64 0, .int .i64 1, .int .i64 3, .int .i64 (-7), .int .i64 0, .int .i64 39, .int .i64 1, .int .i64 3, .int .i64 0, .int .i64 7, .int .i64 2, .int .i64 4, .int .i64 0, .int .i64 0, .int .i64 0, .int .i64 0, .int .i64 0] 40)).alloc (.cells #[.int .i64 1, .int .i64 6] 3)).alloc (.cells #[.int .i64 0, .int .i64 9] 3)).heap.size = w.heap.size + 3 by simp [Nat.add_assoc]] at h0
    rw [← hw1]
    exact h0
  replace HB := Lib.hid (And.intro (HB.out.1.trans (hb.mono HB.out.2)) (Nat.le_trans HB.out.2 hb.size))
  have Va := Lib.hid hv0
  have gea := gq
  have Vb := Lib.hid hv1
  have nea_b : w.heap.size ≠ w.heap.size + 1 := by omega
  have geb : _ ≤ w.heap.size + 1 := Nat.le_trans gq (Nat.le_add_right _ 1)
  have Vc := Lib.hid hv2
  have nea_c : w.heap.size ≠ w.heap.size + 2 := by omega
  have neb_c : w.heap.size + 1 ≠ w.heap.size + 2 := by omega
  have gec : _ ≤ w.heap.size + 2 := Nat.le_trans gq (Nat.le_add_right _ 2)
  have Vp := Lib.hid hv3
  have nea_p : w.heap.size ≠ w.heap.size + 3 := by omega
  have neb_p : w.heap.size + 1 ≠ w.heap.size + 3 := by omega
  have nec_p : w.heap.size + 2 ≠ w.heap.size + 3 := by omega
  have gep : _ ≤ w.heap.size + 3 := Nat.le_trans gq (Nat.le_add_right _ 3)
  generalize hsa : w.heap.size = sa at *
  clear hb gq hv0 hv1 hv2 hv3
  go_enter Try.func7, Try.ntmps7
  have hp3 : sa + 3 = sa + 1 + 1 + 1 := rfl
  rw [hp3] at Vp
  have hc3 : sa + 2 = sa + 1 + 1 := rfl
  rw [hc3] at Vp Vc
  clear hp3 hc3
  have cp0 : w1.cell? ⟨sa + 1 + 1 + 1, 0, none⟩ = some (.slice (some ⟨sa, 0, none⟩) 5 5) := (blk_cell Vp.out 0).trans rfl
  have cp1 : w1.cell? ⟨sa + 1 + 1 + 1, 1, none⟩ = some (.slice (some ⟨sa + 1, 0, none⟩) 2 2) := (blk_cell Vp.out 1).trans rfl
  have cp2 : w1.cell? ⟨sa + 1 + 1 + 1, 2, none⟩ = some (.slice (some ⟨sa + 1 + 1, 0, none⟩) 2 2) := (blk_cell Vp.out 2).trans rfl
  have cp3 : w1.cell? ⟨sa + 1 + 1 + 1, 3, none⟩ = some (.int .i64 2) := (blk_cell Vp.out 3).trans rfl
  have cp4 : w1.cell? ⟨sa + 1 + 1 + 1, 4, none⟩ = some (.int .i64 5) := (blk_cell Vp.out 4).trans rfl
  have cp5 : w1.cell? ⟨sa + 1 + 1 + 1, 5, none⟩ = some (.int .i64 20) := (blk_cell Vp.out 5).trans rfl
  go_wp2_with fail
  clear cp0 cp1 cp2 cp3 cp4 cp5
  skip
  refine (c1.out _ _ _ _ _ _ _ _ _ w1 (show I4s w1 (some ⟨sa, 0, none⟩) 5 5 co from es_blk (cs := insC co) (by rw [HCA.out]; exact Va.out) (insC_one _) (by rw [HCA.out]; rfl)) (show Is w1 (some ⟨sa + 1, 0, none⟩) 2 2 kA from es_blk (cs := intC kA) (by rw [HKK.out]; exact Vb.out) (intC_one _) (by rw [HKK.out]; rfl)) (show Is w1 (some ⟨sa + 1 + 1, 0, none⟩) 2 2 sA from es_blk (cs := intC sA) (by rw [HSS.out]; exact Vc.out) (intC_one _) (by rw [HSS.out]; rfl))).mono ?_
  rintro e w2 ⟨X1, x1, y1, rfl, own1, hb⟩
  replace Va := Lib.hid (blk_below Va.out hb (blk_lt Va.out))
  replace Vb := Lib.hid (blk_below Vb.out hb (blk_lt Vb.out))
  replace Vc := Lib.hid (blk_below Vc.out hb (blk_lt Vc.out))
  replace Vp := Lib.hid (blk_below Vp.out hb (blk_lt Vp.out))
  replace HB := Lib.hid (And.intro (HB.out.1.trans (hb.mono HB.out.2)) (Nat.le_trans HB.out.2 hb.size))
  clear hb
  have Ob1 := Lib.hid own1
  clear own1
  obtain rfl : x1 = 29 := by have h1 : bl.length = x1 := own_len8 Ob1.out; have := LBL.out; omega
  go_wp2_with fail
  refine (c2.out _ _ _ (bs_es (es_own8 Ob1.out) HBY.out)).mono ?_
  rintro e w3 ⟨A1, n1, c1x, B1, m1, d1, C1, k1, f1, rfl, oc, ok, os, hb⟩
  replace Va := Lib.hid (blk_below Va.out hb (blk_lt Va.out))
  replace Vb := Lib.hid (blk_below Vb.out hb (blk_lt Vb.out))
  replace Vc := Lib.hid (blk_below Vc.out hb (blk_lt Vc.out))
  replace Vp := Lib.hid (blk_below Vp.out hb (blk_lt Vp.out))
  replace Ob1 := Lib.hid (own_below Ob1.out hb)
  replace HB := Lib.hid (And.intro (HB.out.1.trans (hb.mono HB.out.2)) (Nat.le_trans HB.out.2 hb.size))
  clear hb
  have Oq1 := Lib.hid oc
  clear oc
  have Oq2 := Lib.hid ok
  clear ok
  have Oq3 := Lib.hid os
  clear os
  have lta := blk_lt Va.out
  have ltb := blk_lt Vb.out
  have ltc := blk_lt Vc.out
  have ltp := blk_lt Vp.out
  have gq := HB.out.2
  obtain ⟨w4, hw4⟩ : ∃ W, (w3.alloc (.cells #[.slice A1 n1 c1x, .slice B1 m1 d1, .slice C1 k1 f1, .int .i64 2, .int .i64 5, .int .i64 20] 25)) = W := ⟨_, rfl⟩
  have hb : Below w3.heap.size w3 w4 := hw4 ▸ ((Below.refl _ _).alloc (Nat.le_refl _) _)
  have hv0 : w4.heap[w3.heap.size]? = some (.cells #[.slice A1 n1 c1x, .slice B1 m1 d1, .slice C1 k1 f1, .int .i64 2, .int .i64 5, .int .i64 20] 25) := by
    have h0 := heap_alloc_new w3 (.cells #[.slice A1 n1 c1x, .slice B1 m1 d1, .slice C1 k1 f1, .int .i64 2, .int .i64 5, .int .i64 20] 25)
    rw [show w3.heap.size = w3.heap.size by simp [Nat.add_assoc]] at h0
    rw [← hw4]
    exact h0
  replace Va := Lib.hid (blk_below Va.out hb (blk_lt Va.out))
  replace Vb := Lib.hid (blk_below Vb.out hb (blk_lt Vb.out))
  replace Vc := Lib.hid (blk_below Vc.out hb (blk_lt Vc.out))
  replace Vp := Lib.hid (blk_below Vp.out hb (blk_lt Vp.out))
  replace Ob1 := Lib.hid (own_below Ob1.out hb)
  replace Oq1 := Lib.hid (own_below Oq1.out hb)
  replace Oq2 := Lib.hid (own_below Oq2.out hb)
  replace Oq3 := Lib.hid (own_below Oq3.out hb)
  replace HB := Lib.hid (And.intro (HB.out.1.trans (hb.mono HB.out.2)) (Nat.le_trans HB.out.2 hb.size))
  have Vq := Lib.hid hv0
  have nea_q := Nat.ne_of_lt lta
  have neb_q := Nat.ne_of_lt ltb
  have nec_q := Nat.ne_of_lt ltc
  have nep_q := Nat.ne_of_lt ltp
  have geq := gq
  generalize hsq : w3.heap.size = sq at *
  clear hb gq hv0 lta ltb ltc ltp
  go_wp2_with fail
  have hzL7 : Below _ _ _ := (Below.refl w4.heap.size w4).alloc (Nat.le_refl _) (.cells #[.int .u8 7] 5)
  have L7 : Bs (w4.alloc (.cells #[.int .u8 7] 5)) _ _ _ _ := Bs.new_ w4 5 [7] (by decide) rfl
  replace L7 := Lib.hid L7
  replace Va := Lib.hid (blk_below Va.out hzL7 (blk_lt Va.out))
  replace Vb := Lib.hid (blk_below Vb.out hzL7 (blk_lt Vb.out))
  replace Vc := Lib.hid (blk_below Vc.out hzL7 (blk_lt Vc.out))
  replace Vp := Lib.hid (blk_below Vp.out hzL7 (blk_lt Vp.out))
  replace Vq := Lib.hid (blk_below Vq.out hzL7 (blk_lt Vq.out))
  replace Ob1 := Lib.hid (own_below Ob1.out hzL7)
  replace Oq1 := Lib.hid (own_below Oq1.out hzL7)
  replace Oq2 := Lib.hid (own_below Oq2.out hzL7)
  replace Oq3 := Lib.hid (own_below Oq3.out hzL7)
  replace HB := Lib.hid (And.intro (HB.out.1.trans (hzL7.mono HB.out.2)) (Nat.le_trans HB.out.2 hzL7.size))
  clear hzL7
  have hzi : Below _ _ _ := (Below.refl (w4.alloc (.cells #[.int .u8 7] 5)).heap.size (w4.alloc (.cells #[.int .u8 7] 5))).alloc (Nat.le_refl _) (.cells #[.int .i64 0, .int .i64 0, .int .i64 0, .int .i64 0] 40)
  replace L7 := Lib.hid (Bs.below L7.out hzi)
  have LI : I4s ((w4.alloc (.cells #[.int .u8 7] 5)).alloc (.cells #[.int .i64 0, .int .i64 0, .int .i64 0, .int .i64 0] 40)) (some ⟨(w4.alloc (.cells #[.int .u8 7] 5)).heap.size, 0, none⟩) 1 1 [(0, 0, 0, 0)] := Es.new_ (w4.alloc (.cells #[.int .u8 7] 5)) 40 (insC [(0, 0, 0, 0)]) (insC_one _) (q := 1) rfl
  rw [show (w4.alloc (.cells #[.int .u8 7] 5)).heap.size = w4.heap.size + 1 by simp] at LI
  replace LI := Lib.hid LI
  replace Va := Lib.hid (blk_below Va.out hzi (blk_lt Va.out))
  replace Vb := Lib.hid (blk_below Vb.out hzi (blk_lt Vb.out))
  replace Vc := Lib.hid (blk_below Vc.out hzi (blk_lt Vc.out))
  replace Vp := Lib.hid (blk_below Vp.out hzi (blk_lt Vp.out))
  replace Vq := Lib.hid (blk_below Vq.out hzi (blk_lt Vq.out))
  replace Ob1 := Lib.hid (own_below Ob1.out hzi)
  replace Oq1 := Lib.hid (own_below Oq1.out hzi)
  replace Oq2 := Lib.hid (own_below Oq2.out hzi)
  replace Oq3 := Lib.hid (own_below Oq3.out hzi)
  replace HB := Lib.hid (And.intro (HB.out.1.trans (hzi.mono HB.out.2)) (Nat.le_trans HB.out.2 hzi.size))
  clear hzi
  skip
  refine (c3.out _ _ _ L7.out LI.out).mono ?_
  rintro e w5 ⟨X3, x3, y3, rfl, own3, hb⟩
  replace Va := Lib.hid (blk_below Va.out hb (blk_lt Va.out))
  replace Vb := Lib.hid (blk_below Vb.out hb (blk_lt Vb.out))
  replace Vc := Lib.hid (blk_below Vc.out hb (blk_lt Vc.out))
  replace Vp := Lib.hid (blk_below Vp.out hb (blk_lt Vp.out))
  replace Vq := Lib.hid (blk_below Vq.out hb (blk_lt Vq.out))
  replace Ob1 := Lib.hid (own_below Ob1.out hb)
  replace Oq1 := Lib.hid (own_below Oq1.out hb)
  replace Oq2 := Lib.hid (own_below Oq2.out hb)
  replace Oq3 := Lib.hid (own_below Oq3.out hb)
  replace HB := Lib.hid (And.intro (HB.out.1.trans (hb.mono HB.out.2)) (Nat.le_trans HB.out.2 hb.size))
  clear hb
  have Ob3 := Lib.hid own3
  clear own3
  clear L7 LI
  go_wp2_with fail
  have hzL4 : Below _ _ _ := (Below.refl w5.heap.size w5).alloc (Nat.le_refl _) (.cells #[.int .u8 122] 5)
  have L4 : Bs (w5.alloc (.cells #[.int .u8 122] 5)) _ _ _ _ := Bs.new_ w5 5 [122] (by decide) rfl
  replace L4 := Lib.hid L4
  replace Va := Lib.hid (blk_below Va.out hzL4 (blk_lt Va.out))
  replace Vb := Lib.hid (blk_below Vb.out hzL4 (blk_lt Vb.out))
  replace Vc := Lib.hid (blk_below Vc.out hzL4 (blk_lt Vc.out))
  replace Vp := Lib.hid (blk_below Vp.out hzL4 (blk_lt Vp.out))
  replace Vq := Lib.hid (blk_below Vq.out hzL4 (blk_lt Vq.out))
  replace Ob1 := Lib.hid (own_below Ob1.out hzL4)
  replace Oq1 := Lib.hid (own_below Oq1.out hzL4)
  replace Oq2 := Lib.hid (own_below Oq2.out hzL4)
  replace Oq3 := Lib.hid (own_below Oq3.out hzL4)
  replace Ob3 := Lib.hid (own_below Ob3.out hzL4)
  replace HB := Lib.hid (And.intro (HB.out.1.trans (hzL4.mono HB.out.2)) (Nat.le_trans HB.out.2 hzL4.size))
  clear hzL4
  skip
  refine (c4.out _ _ L4.out).mono ?_
  rintro e w6 ⟨A4, n4, c4x, B4, m4, d4, C4, k4, f4, rfl, oc, ok, os, hb⟩
  replace Va := Lib.hid (blk_below Va.out hb (blk_lt Va.out))
  replace Vb := Lib.hid (blk_below Vb.out hb (blk_lt Vb.out))
  replace Vc := Lib.hid (blk_below Vc.out hb (blk_lt Vc.out))
  replace Vp := Lib.hid (blk_below Vp.out hb (blk_lt Vp.out))
  replace Vq := Lib.hid (blk_below Vq.out hb (blk_lt Vq.out))
  replace Ob1 := Lib.hid (own_below Ob1.out hb)
  replace Oq1 := Lib.hid (own_below Oq1.out hb)
  replace Oq2 := Lib.hid (own_below Oq2.out hb)
  replace Oq3 := Lib.hid (own_below Oq3.out hb)
  replace Ob3 := Lib.hid (own_below Ob3.out hb)
  replace HB := Lib.hid (And.intro (HB.out.1.trans (hb.mono HB.out.2)) (Nat.le_trans HB.out.2 hb.size))
  clear hb
  clear L4 oc ok os
  have lta := blk_lt Va.out
  have ltb := blk_lt Vb.out
  have ltc := blk_lt Vc.out
  have ltp := blk_lt Vp.out
  have ltq := blk_lt Vq.out
  have gq := HB.out.2
  obtain ⟨w7, hw7⟩ : ∃ W, (w6.alloc (.cells #[.slice A4 n4 c4x, .slice B4 m4 d4, .slice C4 k4 f4, .int .i64 z, .int .i64 z, .int .i64 z] 25)) = W := ⟨_, rfl⟩
  have hb : Below w6.heap.size w6 w7 := hw7 ▸ ((Below.refl _ _).alloc (Nat.le_refl _) _)
  have hv0 : w7.heap[w6.heap.size]? = some (.cells #[.slice A4 n4 c4x, .slice B4 m4 d4, .slice C4 k4 f4, .int .i64 z, .int .i64 z, .int .i64 z] 25) := by
    have h0 := heap_alloc_new w6 (.cells #[.slice A4 n4 c4x, .slice B4 m4 d4, .slice C4 k4 f4, .int .i64 z, .int .i64 z, .int .i64 z] 25)
    rw [show w6.heap.size = w6.heap.size by simp [Nat.add_assoc]] at h0
    rw [← hw7]
    exact h0
  replace Va := Lib.hid (blk_below Va.out hb (blk_lt Va.out))
  replace Vb := Lib.hid (blk_below Vb.out hb (blk_lt Vb.out))
  replace Vc := Lib.hid (blk_below Vc.out hb (blk_lt Vc.out))
  replace Vp := Lib.hid (blk_below Vp.out hb (blk_lt Vp.out))
  replace Vq := Lib.hid (blk_below Vq.out hb (blk_lt Vq.out))
  replace Ob1 := Lib.hid (own_below Ob1.out hb)
  replace Oq1 := Lib.hid (own_below Oq1.out hb)
  replace Oq2 := Lib.hid (own_below Oq2.out hb)
  replace Oq3 := Lib.hid (own_below Oq3.out hb)
  replace Ob3 := Lib.hid (own_below Ob3.out hb)
  replace HB := Lib.hid (And.intro (HB.out.1.trans (hb.mono HB.out.2)) (Nat.le_trans HB.out.2 hb.size))
  have Vx4 := Lib.hid hv0
  have nea_x4 := Nat.ne_of_lt lta
  have neb_x4 := Nat.ne_of_lt ltb
  have nec_x4 := Nat.ne_of_lt ltc
  have nep_x4 := Nat.ne_of_lt ltp
  have neq_x4 := Nat.ne_of_lt ltq
  have gex4 := gq
  generalize hsx4 : w6.heap.size = sx4 at *
  clear hb gq hv0 lta ltb ltc ltp ltq
  go_wp2_with fail
  have hzL5 : Below _ _ _ := (Below.refl w7.heap.size w7).alloc (Nat.le_refl _) (.cells #[.int .u8 2, .int .u8 0, .int .u8 0, .int .u8 0, .int .u8 0, .int .u8 0, .int .u8 0, .int .u8 0, .int .u8 0] 5)
  have L5 : Bs (w7.alloc (.cells #[.int .u8 2, .int .u8 0, .int .u8 0, .int .u8 0, .int .u8 0, .int .u8 0, .int .u8 0, .int .u8 0, .int .u8 0] 5)) _ _ _ _ := Bs.new_ w7 5 [2, 0, 0, 0, 0, 0, 0, 0, 0] (by decide) rfl
  replace L5 := Lib.hid L5
  replace Va := Lib.hid (blk_below Va.out hzL5 (blk_lt Va.out))
  replace Vb := Lib.hid (blk_below Vb.out hzL5 (blk_lt Vb.out))
  replace Vc := Lib.hid (blk_below Vc.out hzL5 (blk_lt Vc.out))
  replace Vp := Lib.hid (blk_below Vp.out hzL5 (blk_lt Vp.out))
  replace Vq := Lib.hid (blk_below Vq.out hzL5 (blk_lt Vq.out))
  replace Vx4 := Lib.hid (blk_below Vx4.out hzL5 (blk_lt Vx4.out))
  replace Ob1 := Lib.hid (own_below Ob1.out hzL5)
  replace Oq1 := Lib.hid (own_below Oq1.out hzL5)
  replace Oq2 := Lib.hid (own_below Oq2.out hzL5)
  replace Oq3 := Lib.hid (own_below Oq3.out hzL5)
  replace Ob3 := Lib.hid (own_below Ob3.out hzL5)
  replace HB := Lib.hid (And.intro (HB.out.1.trans (hzL5.mono HB.out.2)) (Nat.le_trans HB.out.2 hzL5.size))
  clear hzL5
  skip
  refine (c5.out _ _ L5.out).mono ?_
  rintro e w8 ⟨A5, n5, c5x, B5, m5, d5, C5, k5, f5, rfl, oc, ok, os, hb⟩
  replace Va := Lib.hid (blk_below Va.out hb (blk_lt Va.out))
  replace Vb := Lib.hid (blk_below Vb.out hb (blk_lt Vb.out))
  replace Vc := Lib.hid (blk_below Vc.out hb (blk_lt Vc.out))
  replace Vp := Lib.hid (blk_below Vp.out hb (blk_lt Vp.out))
  replace Vq := Lib.hid (blk_below Vq.out hb (blk_lt Vq.out))
  replace Vx4 := Lib.hid (blk_below Vx4.out hb (blk_lt Vx4.out))
  replace Ob1 := Lib.hid (own_below Ob1.out hb)
  replace Oq1 := Lib.hid (own_below Oq1.out hb)
  replace Oq2 := Lib.hid (own_below Oq2.out hb)
  replace Oq3 := Lib.hid (own_below Oq3.out hb)
  replace Ob3 := Lib.hid (own_below Ob3.out hb)
  replace HB := Lib.hid (And.intro (HB.out.1.trans (hb.mono HB.out.2)) (Nat.le_trans HB.out.2 hb.size))
  clear hb
  clear L5 oc ok os
  have lta := blk_lt Va.out
  have ltb := blk_lt Vb.out
  have ltc := blk_lt Vc.out
  have ltp := blk_lt Vp.out
  have ltq := blk_lt Vq.out
  have ltx4 := blk_lt Vx4.out
  have gq := HB.out.2
  obtain ⟨w9, hw9⟩ : ∃ W, (w8.alloc (.cells #[.slice A5 n5 c5x, .slice B5 m5 d5, .slice C5 k5 f5, .int .i64 z, .int .i64 z, .int .i64 z] 25)) = W := ⟨_, rfl⟩
  have hb : Below w8.heap.size w8 w9 := hw9 ▸ ((Below.refl _ _).alloc (Nat.le_refl _) _)
  have hv0 : w9.heap[w8.heap.size]? = some (.cells #[.slice A5 n5 c5x, .slice B5 m5 d5, .slice C5 k5 f5, .int .i64 z, .int .i64 z, .int .i64 z] 25) := by
    have h0 := heap_alloc_new w8 (.cells #[.slice A5 n5 c5x, .slice B5 m5 d5, .slice C5 k5 f5, .int .i64 z, .int .i64 z, .int .i64 z] 25)
    rw [show w8.heap.size = w8.heap.size by simp [Nat.add_assoc]] at h0
    rw [← hw9]
    exact h0
  replace Va := Lib.hid (blk_below Va.out hb (blk_lt Va.out))
  replace Vb := Lib.hid (blk_below Vb.out hb (blk_lt Vb.out))
  replace Vc := Lib.hid (blk_below Vc.out hb (blk_lt Vc.out))
  replace Vp := Lib.hid (blk_below Vp.out hb (blk_lt Vp.out))
  replace Vq := Lib.hid (blk_below Vq.out hb (blk_lt Vq.out))
  replace Vx4 := Lib.hid (blk_below Vx4.out hb (blk_lt Vx4.out))
  replace Ob1 := Lib.hid (own_below Ob1.out hb)
  replace Oq1 := Lib.hid (own_below Oq1.out hb)
  replace Oq2 := Lib.hid (own_below Oq2.out hb)
  replace Oq3 := Lib.hid (own_below Oq3.out hb)
  replace Ob3 := Lib.hid (own_below Ob3.out hb)
  replace HB := Lib.hid (And.intro (HB.out.1.trans (hb.mono HB.out.2)) (Nat.le_trans HB.out.2 hb.size))
  have Vx5 := Lib.hid hv0
  have nea_x5 := Nat.ne_of_lt lta
  have neb_x5 := Nat.ne_of_lt ltb
  have nec_x5 := Nat.ne_of_lt ltc
  have nep_x5 := Nat.ne_of_lt ltp
  have neq_x5 := Nat.ne_of_lt ltq
  have nex4_x5 := Nat.ne_of_lt ltx4
  have gex5 := gq
  generalize hsx5 : w8.heap.size = sx5 at *
  clear hb gq hv0 lta ltb ltc ltp ltq ltx4
  clear Vx4 Vx5
  have ocp0 : w9.cell? ⟨sa + 1 + 1 + 1, 0, none⟩ = some (.slice (some ⟨sa, 0, none⟩) 5 5) := (blk_cell Vp.out 0).trans rfl
  have ocp1 : w9.cell? ⟨sa + 1 + 1 + 1, 1, none⟩ = some (.slice (some ⟨sa + 1, 0, none⟩) 2 2) := (blk_cell Vp.out 1).trans rfl
  have ocp2 : w9.cell? ⟨sa + 1 + 1 + 1, 2, none⟩ = some (.slice (some ⟨sa + 1 + 1, 0, none⟩) 2 2) := (blk_cell Vp.out 2).trans rfl
  have ocp3 : w9.cell? ⟨sa + 1 + 1 + 1, 3, none⟩ = some (.int .i64 2) := (blk_cell Vp.out 3).trans rfl
  have ocp4 : w9.cell? ⟨sa + 1 + 1 + 1, 4, none⟩ = some (.int .i64 5) := (blk_cell Vp.out 4).trans rfl
  have ocp5 : w9.cell? ⟨sa + 1 + 1 + 1, 5, none⟩ = some (.int .i64 20) := (blk_cell Vp.out 5).trans rfl
  have lta := blk_lt Va.out
  have ltb := blk_lt Vb.out
  have ltc := blk_lt Vc.out
  have ltp := blk_lt Vp.out
  have ltq := blk_lt Vq.out
  have gq := HB.out.2
  obtain ⟨w10, hw10⟩ : ∃ W, (w9.alloc (.cells #[.slice (some ⟨sa, 0, none⟩) 5 5, .slice (some ⟨sa + 1, 0, none⟩) 2 2, .slice (some ⟨sa + 1 + 1, 0, none⟩) 2 2, .int .i64 2, .int .i64 5, .int .i64 20] 25)) = W := ⟨_, rfl⟩
  have hb : Below w9.heap.size w9 w10 := hw10 ▸ ((Below.refl _ _).alloc (Nat.le_refl _) _)
  have hv0 : w10.heap[w9.heap.size]? = some (.cells #[.slice (some ⟨sa, 0, none⟩) 5 5, .slice (some ⟨sa + 1, 0, none⟩) 2 2, .slice (some ⟨sa + 1 + 1, 0, none⟩) 2 2, .int .i64 2, .int .i64 5, .int .i64 20] 25) := by
    have h0 := heap_alloc_new w9 (.cells #[.slice (some ⟨sa, 0, none⟩) 5 5, .slice (some ⟨sa + 1, 0, none⟩) 2 2, .slice (some ⟨sa + 1 + 1, 0, none⟩) 2 2, .int .i64 2, .int .i64 5, .int .i64 20] 25)
    rw [show w9.heap.size = w9.heap.size by simp [Nat.add_assoc]] at h0
    rw [← hw10]
    exact h0
  replace Va := Lib.hid (blk_below Va.out hb (blk_lt Va.out))
  replace Vb := Lib.hid (blk_below Vb.out hb (blk_lt Vb.out))
  replace Vc := Lib.hid (blk_below Vc.out hb (blk_lt Vc.out))
  replace Vp := Lib.hid (blk_below Vp.out hb (blk_lt Vp.out))
  replace Vq := Lib.hid (blk_below Vq.out hb (blk_lt Vq.out))
  replace Ob1 := Lib.hid (own_below Ob1.out hb)
  replace Oq1 := Lib.hid (own_below Oq1.out hb)
  replace Oq2 := Lib.hid (own_below Oq2.out hb)
  replace Oq3 := Lib.hid (own_below Oq3.out hb)
  replace Ob3 := Lib.hid (own_below Ob3.out hb)
  replace HB := Lib.hid (And.intro (HB.out.1.trans (hb.mono HB.out.2)) (Nat.le_trans HB.out.2 hb.size))
  have Vy := Lib.hid hv0
  have nea_y := Nat.ne_of_lt lta
  have neb_y := Nat.ne_of_lt ltb
  have nec_y := Nat.ne_of_lt ltc
  have nep_y := Nat.ne_of_lt ltp
  have neq_y := Nat.ne_of_lt ltq
  have gey := gq
  generalize hsy : w9.heap.size = sy at *
  clear hb gq hv0 lta ltb ltc ltp ltq
  have lta := blk_lt Va.out
  have ltb := blk_lt Vb.out
  have ltc := blk_lt Vc.out
  have ltp := blk_lt Vp.out
  have ltq := blk_lt Vq.out
  have lty := blk_lt Vy.out
  have gq := HB.out.2
  obtain ⟨w11, hw11⟩ : ∃ W, (w10.alloc (.cells #[.int .i64 1, .int .i64 3] 3)) = W := ⟨_, rfl⟩
  have hb : Below w10.heap.size w10 w11 := hw11 ▸ ((Below.refl _ _).alloc (Nat.le_refl _) _)
  have hv0 : w11.heap[w10.heap.size]? = some (.cells #[.int .i64 1, .int .i64 3] 3) := by
    have h0 := heap_alloc_new w10 (.cells #[.int .i64 1, .int .i64 3] 3)
    rw [show w10.heap.size = w10.heap.size by simp [Nat.add_assoc]] at h0
    rw [← hw11]
    exact h0
  replace Va := Lib.hid (blk_below Va.out hb (blk_lt Va.out))
  replace Vb := Lib.hid (blk_below Vb.out hb (blk_lt Vb.out))
  replace Vc := Lib.hid (blk_below Vc.out hb (blk_lt Vc.out))
  replace Vp := Lib.hid (blk_below Vp.out hb (blk_lt Vp.out))
  replace Vq := Lib.hid (blk_below Vq.out hb (blk_lt Vq.out))
  replace Vy := Lib.hid (blk_below Vy.out hb (blk_lt Vy.out))
  replace Ob1 := Lib.hid (own_below Ob1.out hb)
  replace Oq1 := Lib.hid (own_below Oq1.out hb)
  replace Oq2 := Lib.hid (own_below Oq2.out hb)
  replace Oq3 := Lib.hid (own_below Oq3.out hb)
  replace Ob3 := Lib.hid (own_below Ob3.out hb)
  replace HB := Lib.hid (And.intro (HB.out.1.trans (hb.mono HB.out.2)) (Nat.le_trans HB.out.2 hb.size))
  have Vk := Lib.hid hv0
  have nea_k := Nat.ne_of_lt lta
  have neb_k := Nat.ne_of_lt ltb
  have nec_k := Nat.ne_of_lt ltc
  have nep_k := Nat.ne_of_lt ltp
  have neq_k := Nat.ne_of_lt ltq
  have ney_k := Nat.ne_of_lt lty
  have gek := gq
  generalize hsk : w10.heap.size = sk at *
  clear hb gq hv0 lta ltb ltc ltp ltq lty
  have pcy0 : w11.cell? ⟨sy, 0, none⟩ = some (.slice (some ⟨sa, 0, none⟩) 5 5) := (blk_cell Vy.out 0).trans rfl
  have pfy0 : w11.frozen? ⟨sy, 0, none⟩ = false := blk_frozen Vy.out 0
  have pcy1 : w11.cell? ⟨sy, 1, none⟩ = some (.slice (some ⟨sa + 1, 0, none⟩) 2 2) := (blk_cell Vy.out 1).trans rfl
  have pfy1 : w11.frozen? ⟨sy, 1, none⟩ = false := blk_frozen Vy.out 1
  have pcy2 : w11.cell? ⟨sy, 2, none⟩ = some (.slice (some ⟨sa + 1 + 1, 0, none⟩) 2 2) := (blk_cell Vy.out 2).trans rfl
  have pfy2 : w11.frozen? ⟨sy, 2, none⟩ = false := blk_frozen Vy.out 2
  have pcy3 : w11.cell? ⟨sy, 3, none⟩ = some (.int .i64 2) := (blk_cell Vy.out 3).trans rfl
  have pfy3 : w11.frozen? ⟨sy, 3, none⟩ = false := blk_frozen Vy.out 3
  have pcy4 : w11.cell? ⟨sy, 4, none⟩ = some (.int .i64 5) := (blk_cell Vy.out 4).trans rfl
  have pfy4 : w11.frozen? ⟨sy, 4, none⟩ = false := blk_frozen Vy.out 4
  have pcy5 : w11.cell? ⟨sy, 5, none⟩ = some (.int .i64 20) := (blk_cell Vy.out 5).trans rfl
  have pfy5 : w11.frozen? ⟨sy, 5, none⟩ = false := blk_frozen Vy.out 5
  obtain ⟨w12, hw12⟩ : ∃ W, w11.setCell ⟨sy, 1, none⟩ (.slice (some ⟨sk, 0, none⟩) 2 2) = W := ⟨_, rfl⟩
  replace Ob1 := Lib.hid (hw12 ▸ own_set (o := 1) (u := .slice (some ⟨sk, 0, none⟩) 2 2) Ob1.out Vy.out (by decide))
  replace Oq1 := Lib.hid (hw12 ▸ own_set (o := 1) (u := .slice (some ⟨sk, 0, none⟩) 2 2) Oq1.out Vy.out (by decide))
  replace Oq2 := Lib.hid (hw12 ▸ own_set (o := 1) (u := .slice (some ⟨sk, 0, none⟩) 2 2) Oq2.out Vy.out (by decide))
  replace Oq3 := Lib.hid (hw12 ▸ own_set (o := 1) (u := .slice (some ⟨sk, 0, none⟩) 2 2) Oq3.out Vy.out (by decide))
  replace Ob3 := Lib.hid (hw12 ▸ own_set (o := 1) (u := .slice (some ⟨sk, 0, none⟩) 2 2) Ob3.out Vy.out (by decide))
  replace Va := Lib.hid (hw12 ▸ (Below.heap_setCell _ ⟨sy, 1, none⟩ (.slice (some ⟨sk, 0, none⟩) 2 2) (sa) nea_y).trans Va.out)
  replace Vb := Lib.hid (hw12 ▸ (Below.heap_setCell _ ⟨sy, 1, none⟩ (.slice (some ⟨sk, 0, none⟩) 2 2) (sa + 1) neb_y).trans Vb.out)
  replace Vc := Lib.hid (hw12 ▸ (Below.heap_setCell _ ⟨sy, 1, none⟩ (.slice (some ⟨sk, 0, none⟩) 2 2) (sa + 1 + 1) nec_y).trans Vc.out)
  replace Vp := Lib.hid (hw12 ▸ (Below.heap_setCell _ ⟨sy, 1, none⟩ (.slice (some ⟨sk, 0, none⟩) 2 2) (sa + 1 + 1 + 1) nep_y).trans Vp.out)
  replace Vq := Lib.hid (hw12 ▸ (Below.heap_setCell _ ⟨sy, 1, none⟩ (.slice (some ⟨sk, 0, none⟩) 2 2) (sq) neq_y).trans Vq.out)
  replace Vk := Lib.hid (hw12 ▸ (Below.heap_setCell _ ⟨sy, 1, none⟩ (.slice (some ⟨sk, 0, none⟩) 2 2) (sk) ney_k.symm).trans Vk.out)
  replace Vy := Lib.hid (show w12.heap[sy]? = some (.cells #[.slice (some ⟨sa, 0, none⟩) 5 5, .slice (some ⟨sk, 0, none⟩) 2 2, .slice (some ⟨sa + 1 + 1, 0, none⟩) 2 2, .int .i64 2, .int .i64 5, .int .i64 20] 25) from hw12 ▸ blk_set (j := 1) Vy.out (.slice (some ⟨sk, 0, none⟩) 2 2))
  have hbb : Below _ _ w12 := hw12 ▸ Below.setCell HB.out.1 (p := ⟨sy, 1, none⟩) (show _ ≤ sy from gey) (.slice (some ⟨sk, 0, none⟩) 2 2)
  have hbs : w12.heap.size = w11.heap.size := by rw [← hw12]; simp [World.setCell]
  replace HB := Lib.hid (And.intro hbb (show _ ≤ w12.heap.size by rw [hbs]; exact HB.out.2))
  clear hbb hbs
  have cp0 : w12.cell? ⟨sa + 1 + 1 + 1, 0, none⟩ = some (.slice (some ⟨sa, 0, none⟩) 5 5) := (blk_cell Vp.out 0).trans rfl
  have cp1 : w12.cell? ⟨sa + 1 + 1 + 1, 1, none⟩ = some (.slice (some ⟨sa + 1, 0, none⟩) 2 2) := (blk_cell Vp.out 1).trans rfl
  have cp2 : w12.cell? ⟨sa + 1 + 1 + 1, 2, none⟩ = some (.slice (some ⟨sa + 1 + 1, 0, none⟩) 2 2) := (blk_cell Vp.out 2).trans rfl
  have cp3 : w12.cell? ⟨sa + 1 + 1 + 1, 3, none⟩ = some (.int .i64 2) := (blk_cell Vp.out 3).trans rfl
  have cp4 : w12.cell? ⟨sa + 1 + 1 + 1, 4, none⟩ = some (.int .i64 5) := (blk_cell Vp.out 4).trans rfl
  have cp5 : w12.cell? ⟨sa + 1 + 1 + 1, 5, none⟩ = some (.int .i64 20) := (blk_cell Vp.out 5).trans rfl
  have cq0 : w12.cell? ⟨sq, 0, none⟩ = some (.slice A1 n1 c1x) := (blk_cell Vq.out 0).trans rfl
  have cq1 : w12.cell? ⟨sq, 1, none⟩ = some (.slice B1 m1 d1) := (blk_cell Vq.out 1).trans rfl
  have cq2 : w12.cell? ⟨sq, 2, none⟩ = some (.slice C1 k1 f1) := (blk_cell Vq.out 2).trans rfl
  have cq3 : w12.cell? ⟨sq, 3, none⟩ = some (.int .i64 2) := (blk_cell Vq.out 3).trans rfl
  have cq4 : w12.cell? ⟨sq, 4, none⟩ = some (.int .i64 5) := (blk_cell Vq.out 4).trans rfl
  have cq5 : w12.cell? ⟨sq, 5, none⟩ = some (.int .i64 20) := (blk_cell Vq.out 5).trans rfl
  have eq29 : ((29 : Int) == ((29 : Nat) : Int)) = true := by decide
  go_wp2_with fail
  skip
  refine (c10.out _ _ _ _ _ _ _ _ _ w12 (show I4s w12 (some ⟨sa, 0, none⟩) 5 5 co from es_blk (cs := insC co) (by rw [HCA.out]; exact Va.out) (insC_one _) (by rw [HCA.out]; rfl)) (show Is w12 (some ⟨sa + 1, 0, none⟩) 2 2 kA from es_blk (cs := intC kA) (by rw [HKK.out]; exact Vb.out) (intC_one _) (by rw [HKK.out]; rfl)) (show Is w12 (some ⟨sa + 1 + 1, 0, none⟩) 2 2 sA from es_blk (cs := intC sA) (by rw [HSS.out]; exact Vc.out) (intC_one _) (by rw [HSS.out]; rfl)) _ _ _ _ _ _ _ _ _ (i4s_own Oq1.out) (is_own Oq2.out) (is_own Oq3.out)).mono ?_
  rintro e w13 ⟨rfl, hb⟩
  clear ocp0 ocp1 ocp2 ocp3 ocp4 ocp5 pcy0 pfy0 pcy1 pfy1 pcy2 pfy2 pcy3 pfy3 pcy4 pfy4 pcy5 pfy5 cp0 cp1 cp2 cp3 cp4 cp5 cq0 cq1 cq2 cq3 cq4 cq5
  replace Va := Lib.hid (blk_below Va.out hb (blk_lt Va.out))
  replace Vb := Lib.hid (blk_below Vb.out hb (blk_lt Vb.out))
  replace Vc := Lib.hid (blk_below Vc.out hb (blk_lt Vc.out))
  replace Vp := Lib.hid (blk_below Vp.out hb (blk_lt Vp.out))
  replace Vq := Lib.hid (blk_below Vq.out hb (blk_lt Vq.out))
  replace Vy := Lib.hid (blk_below Vy.out hb (blk_lt Vy.out))
  replace Vk := Lib.hid (blk_below Vk.out hb (blk_lt Vk.out))
  replace Ob1 := Lib.hid (own_below Ob1.out hb)
  replace Oq1 := Lib.hid (own_below Oq1.out hb)
  replace Oq2 := Lib.hid (own_below Oq2.out hb)
  replace Oq3 := Lib.hid (own_below Oq3.out hb)
  replace Ob3 := Lib.hid (own_below Ob3.out hb)
  replace HB := Lib.hid (And.intro (HB.out.1.trans (hb.mono HB.out.2)) (Nat.le_trans HB.out.2 hb.size))
  clear hb
  have htx := Bs.text (bs_es (es_own8 Ob3.out) (by decide))
  have t1 : strOfNums [7, 2, 0, 0, 0, 0, 0, 0, 0, 2] = ⟨#[7, 2, 0, 0, 0, 0, 0, 0, 0, 2]⟩ := rfl
  rw [t1] at htx
  have cp0 : w13.cell? ⟨sa + 1 + 1 + 1, 0, none⟩ = some (.slice (some ⟨sa, 0, none⟩) 5 5) := (blk_cell Vp.out 0).trans rfl
  have cp1 : w13.cell? ⟨sa + 1 + 1 + 1, 1, none⟩ = some (.slice (some ⟨sa + 1, 0, none⟩) 2 2) := (blk_cell Vp.out 1).trans rfl
  have cp2 : w13.cell? ⟨sa + 1 + 1 + 1, 2, none⟩ = some (.slice (some ⟨sa + 1 + 1, 0, none⟩) 2 2) := (blk_cell Vp.out 2).trans rfl
  have cp3 : w13.cell? ⟨sa + 1 + 1 + 1, 3, none⟩ = some (.int .i64 2) := (blk_cell Vp.out 3).trans rfl
  have cp4 : w13.cell? ⟨sa + 1 + 1 + 1, 4, none⟩ = some (.int .i64 5) := (blk_cell Vp.out 4).trans rfl
  have cp5 : w13.cell? ⟨sa + 1 + 1 + 1, 5, none⟩ = some (.int .i64 20) := (blk_cell Vp.out 5).trans rfl
  go_wp2_with fail
  clear htx
  skip
  refine (c6.out _ _ _ _ _ _ _ _ _ w13 (show I4s w13 (some ⟨sa, 0, none⟩) 5 5 co from es_blk (cs := insC co) (by rw [HCA.out]; exact Va.out) (insC_one _) (by rw [HCA.out]; rfl)) (show Is w13 (some ⟨sa + 1, 0, none⟩) 2 2 kA from es_blk (cs := intC kA) (by rw [HKK.out]; exact Vb.out) (intC_one _) (by rw [HKK.out]; rfl)) (show Is w13 (some ⟨sa + 1 + 1, 0, none⟩) 2 2 sA from es_blk (cs := intC sA) (by rw [HSS.out]; exact Vc.out) (intC_one _) (by rw [HSS.out]; rfl))).mono ?_
  rintro e w14 ⟨rfl, hb⟩
  clear cp0 cp1 cp2 cp3 cp4 cp5
  replace Va := Lib.hid (blk_below Va.out hb (blk_lt Va.out))
  replace Vb := Lib.hid (blk_below Vb.out hb (blk_lt Vb.out))
  replace Vc := Lib.hid (blk_below Vc.out hb (blk_lt Vc.out))
  replace Vp := Lib.hid (blk_below Vp.out hb (blk_lt Vp.out))
  replace Vq := Lib.hid (blk_below Vq.out hb (blk_lt Vq.out))
  replace Vy := Lib.hid (blk_below Vy.out hb (blk_lt Vy.out))
  replace Vk := Lib.hid (blk_below Vk.out hb (blk_lt Vk.out))
  replace Ob1 := Lib.hid (own_below Ob1.out hb)
  replace Oq1 := Lib.hid (own_below Oq1.out hb)
  replace Oq2 := Lib.hid (own_below Oq2.out hb)
  replace Oq3 := Lib.hid (own_below Oq3.out hb)
  replace Ob3 := Lib.hid (own_below Ob3.out hb)
  replace HB := Lib.hid (And.intro (HB.out.1.trans (hb.mono HB.out.2)) (Nat.le_trans HB.out.2 hb.size))
  clear hb
  have cp0 : w14.cell? ⟨sa + 1 + 1 + 1, 0, none⟩ = some (.slice (some ⟨sa, 0, none⟩) 5 5) := (blk_cell Vp.out 0).trans rfl
  have cp1 : w14.cell? ⟨sa + 1 + 1 + 1, 1, none⟩ = some (.slice (some ⟨sa + 1, 0, none⟩) 2 2) := (blk_cell Vp.out 1).trans rfl
  have cp2 : w14.cell? ⟨sa + 1 + 1 + 1, 2, none⟩ = some (.slice (some ⟨sa + 1 + 1, 0, none⟩) 2 2) := (blk_cell Vp.out 2).trans rfl
  have cp3 : w14.cell? ⟨sa + 1 + 1 + 1, 3, none⟩ = some (.int .i64 2) := (blk_cell Vp.out 3).trans rfl
  have cp4 : w14.cell? ⟨sa + 1 + 1 + 1, 4, none⟩ = some (.int .i64 5) := (blk_cell Vp.out 4).trans rfl
  have cp5 : w14.cell? ⟨sa + 1 + 1 + 1, 5, none⟩ = some (.int .i64 20) := (blk_cell Vp.out 5).trans rfl
  go_wp2_with fail
  skip
  refine (c8.out _ _ _ _ _ _ _ _ _ w14 (show I4s w14 (some ⟨sa, 0, none⟩) 5 5 co from es_blk (cs := insC co) (by rw [HCA.out]; exact Va.out) (insC_one _) (by rw [HCA.out]; rfl)) (show Is w14 (some ⟨sa + 1, 0, none⟩) 2 2 kA from es_blk (cs := intC kA) (by rw [HKK.out]; exact Vb.out) (intC_one _) (by rw [HKK.out]; rfl)) (show Is w14 (some ⟨sa + 1 + 1, 0, none⟩) 2 2 sA from es_blk (cs := intC sA) (by rw [HSS.out]; exact Vc.out) (intC_one _) (by rw [HSS.out]; rfl))).mono ?_
  rintro e w15 ⟨rfl, hb⟩
  clear cp0 cp1 cp2 cp3 cp4 cp5
  replace Va := Lib.hid (blk_below Va.out hb (blk_lt Va.out))
  replace Vb := Lib.hid (blk_below Vb.out hb (blk_lt Vb.out))
  replace Vc := Lib.hid (blk_below Vc.out hb (blk_lt Vc.out))
  replace Vp := Lib.hid (blk_below Vp.out hb (blk_lt Vp.out))
  replace Vq := Lib.hid (blk_below Vq.out hb (blk_lt Vq.out))
  replace Vy := Lib.hid (blk_below Vy.out hb (blk_lt Vy.out))
  replace Vk := Lib.hid (blk_below Vk.out hb (blk_lt Vk.out))
  replace Ob1 := Lib.hid (own_below Ob1.out hb)
  replace Oq1 := Lib.hid (own_below Oq1.out hb)
  replace Oq2 := Lib.hid (own_below Oq2.out hb)
  replace Oq3 := Lib.hid (own_below Oq3.out hb)
  replace Ob3 := Lib.hid (own_below Ob3.out hb)
  replace HB := Lib.hid (And.intro (HB.out.1.trans (hb.mono HB.out.2)) (Nat.le_trans HB.out.2 hb.size))
  clear hb
  have cy0 : w15.cell? ⟨sy, 0, none⟩ = some (.slice (some ⟨sa, 0, none⟩) 5 5) := (blk_cell Vy.out 0).trans rfl
  have cy1 : w15.cell? ⟨sy, 1, none⟩ = some (.slice (some ⟨sk, 0, none⟩) 2 2) := (blk_cell Vy.out 1).trans rfl
  have cy2 : w15.cell? ⟨sy, 2, none⟩ = some (.slice (some ⟨sa + 1 + 1, 0, none⟩) 2 2) := (blk_cell Vy.out 2).trans rfl
  have cy3 : w15.cell? ⟨sy, 3, none⟩ = some (.int .i64 2) := (blk_cell Vy.out 3).trans rfl
  have cy4 : w15.cell? ⟨sy, 4, none⟩ = some (.int .i64 5) := (blk_cell Vy.out 4).trans rfl
  have cy5 : w15.cell? ⟨sy, 5, none⟩ = some (.int .i64 20) := (blk_cell Vy.out 5).trans rfl
  go_wp2_with fail
  skip
  refine (c9.out _ _ _ _ _ _ _ _ _ w15 (show I4s w15 (some ⟨sa, 0, none⟩) 5 5 co from es_blk (cs := insC co) (by rw [HCA.out]; exact Va.out) (insC_one _) (by rw [HCA.out]; rfl)) (show Is w15 (some ⟨sk, 0, none⟩) 2 2 kC from es_blk (cs := intC kC) (by rw [HKC.out]; exact Vk.out) (intC_one _) (by rw [HKC.out]; rfl)) (show Is w15 (some ⟨sa + 1 + 1, 0, none⟩) 2 2 sA from es_blk (cs := intC sA) (by rw [HSS.out]; exact Vc.out) (intC_one _) (by rw [HSS.out]; rfl))).mono ?_
  rintro e w16 ⟨rfl, hb⟩
  clear cy0 cy1 cy2 cy3 cy4 cy5
  replace Va := Lib.hid (blk_below Va.out hb (blk_lt Va.out))
  replace Vb := Lib.hid (blk_below Vb.out hb (blk_lt Vb.out))
  replace Vc := Lib.hid (blk_below Vc.out hb (blk_lt Vc.out))
  replace Vp := Lib.hid (blk_below Vp.out hb (blk_lt Vp.out))
  replace Vq := Lib.hid (blk_below Vq.out hb (blk_lt Vq.out))
  replace Vy := Lib.hid (blk_below Vy.out hb (blk_lt Vy.out))
  replace Vk := Lib.hid (blk_below Vk.out hb (blk_lt Vk.out))
  replace Ob1 := Lib.hid (own_below Ob1.out hb)
  replace Oq1 := Lib.hid (own_below Oq1.out hb)
  replace Oq2 := Lib.hid (own_below Oq2.out hb)
  replace Oq3 := Lib.hid (own_below Oq3.out hb)
  replace Ob3 := Lib.hid (own_below Ob3.out hb)
  replace HB := Lib.hid (And.intro (HB.out.1.trans (hb.mono HB.out.2)) (Nat.le_trans HB.out.2 hb.size))
  clear hb
  have cy0 : w16.cell? ⟨sy, 0, none⟩ = some (.slice (some ⟨sa, 0, none⟩) 5 5) := (blk_cell Vy.out 0).trans rfl
  have cy1 : w16.cell? ⟨sy, 1, none⟩ = some (.slice (some ⟨sk, 0, none⟩) 2 2) := (blk_cell Vy.out 1).trans rfl
  have cy2 : w16.cell? ⟨sy, 2, none⟩ = some (.slice (some ⟨sa + 1 + 1, 0, none⟩) 2 2) := (blk_cell Vy.out 2).trans rfl
  have cy3 : w16.cell? ⟨sy, 3, none⟩ = some (.int .i64 2) := (blk_cell Vy.out 3).trans rfl
  have cy4 : w16.cell? ⟨sy, 4, none⟩ = some (.int .i64 5) := (blk_cell Vy.out 4).trans rfl
  have cy5 : w16.cell? ⟨sy, 5, none⟩ = some (.int .i64 20) := (blk_cell Vy.out 5).trans rfl
  go_wp2_with fail
  skip
  refine (c7.out _ _ _ _ _ _ _ _ _ w16 (show I4s w16 (some ⟨sa, 0, none⟩) 5 5 co from es_blk (cs := insC co) (by rw [HCA.out]; exact Va.out) (insC_one _) (by rw [HCA.out]; rfl)) (show Is w16 (some ⟨sk, 0, none⟩) 2 2 kC from es_blk (cs := intC kC) (by rw [HKC.out]; exact Vk.out) (intC_one _) (by rw [HKC.out]; rfl)) (show Is w16 (some ⟨sa + 1 + 1, 0, none⟩) 2 2 sA from es_blk (cs := intC sA) (by rw [HSS.out]; exact Vc.out) (intC_one _) (by rw [HSS.out]; rfl))).mono ?_
  rintro e w17 ⟨rfl, hb⟩
  clear cy0 cy1 cy2 cy3 cy4 cy5
  replace Va := Lib.hid (blk_below Va.out hb (blk_lt Va.out))
  replace Vb := Lib.hid (blk_below Vb.out hb (blk_lt Vb.out))
  replace Vc := Lib.hid (blk_below Vc.out hb (blk_lt Vc.out))
  replace Vp := Lib.hid (blk_below Vp.out hb (blk_lt Vp.out))
  replace Vq := Lib.hid (blk_below Vq.out hb (blk_lt Vq.out))
  replace Vy := Lib.hid (blk_below Vy.out hb (blk_lt Vy.out))
  replace Vk := Lib.hid (blk_below Vk.out hb (blk_lt Vk.out))
  replace Ob1 := Lib.hid (own_below Ob1.out hb)
  replace Oq1 := Lib.hid (own_below Oq1.out hb)
  replace Oq2 := Lib.hid (own_below Oq2.out hb)
  replace Oq3 := Lib.hid (own_below Oq3.out hb)
  replace Ob3 := Lib.hid (own_below Ob3.out hb)
  replace HB := Lib.hid (And.intro (HB.out.1.trans (hb.mono HB.out.2)) (Nat.le_trans HB.out.2 hb.size))
  clear hb
  go_wp2
  go_ret
  exact ⟨rfl, HB.out.1⟩
end Go.Proofs.Ytkoodhnfphmbnaa
