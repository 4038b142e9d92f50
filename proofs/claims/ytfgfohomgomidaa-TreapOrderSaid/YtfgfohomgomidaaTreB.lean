/- Words on nodes in memory; what the document's own empty, free and Copy of layer 9 answer; for slices of up to 16384 nodes. -/
import Derived.Test.YtfgfohomgomidaaTreQ
import Derived.Test.YtfgfohomgomidaaFr
import Derived.Deep.QuietTactic
namespace Go.Proofs.Ytfgfohomgomidaa
set_option linter.unusedVariables false
set_option linter.unusedSimpArgs false
open Go.RowKit

/-- a node as cells. -/
def ndC : List Nd → List Value
  | [] => []
  | x :: ns => .int .i64 x.k :: .int .u32 x.p :: .int .i64 x.l :: .int .i64 x.r :: .int .i64 x.h :: .int .i64 x.t :: ndC ns
theorem ndC_len : ∀ ns, (ndC ns).length = ns.length * 6
  | [] => rfl
  | x :: ns => by simp [ndC, ndC_len ns]; omega
theorem ndC_one : ∀ ns, ∀ u ∈ ndC ns, u.oneCell' = true
  | [], u, h => by simp [ndC] at h
  | x :: ns, u, h => by
    simp only [ndC, List.mem_cons] at h
    rcases h with rfl | rfl | rfl | rfl | rfl | rfl | h
    · rfl
    · rfl
    · rfl
    · rfl
    · rfl
    · rfl
    · exact ndC_one ns u h
theorem ndC_app : ∀ a b, ndC (a ++ b) = ndC a ++ ndC b
  | [], b => rfl
  | x :: a, b => by simp [ndC, ndC_app a b]
theorem ndAt_cons (x : Nd) (ns : List Nd) (i : Nat) : ndAt (x :: ns) ((i + 1 : Nat) : Int) = ndAt ns (i : Nat) := by
  unfold ndAt
  rw [Int.toNat_natCast, Int.toNat_natCast]; rfl
theorem ndC_at : ∀ (ns : List Nd) (i : Nat), i < ns.length → (ndC ns)[i * 6]? = some (.int .i64 (ndAt ns i).k) ∧ (ndC ns)[i * 6 + 1]? = some (.int .u32 (ndAt ns i).p) ∧ (ndC ns)[i * 6 + 2]? = some (.int .i64 (ndAt ns i).l) ∧ (ndC ns)[i * 6 + 3]? = some (.int .i64 (ndAt ns i).r) ∧ (ndC ns)[i * 6 + 4]? = some (.int .i64 (ndAt ns i).h) ∧ (ndC ns)[i * 6 + 5]? = some (.int .i64 (ndAt ns i).t)
  | [], i, h => by simp at h
  | x :: ns, 0, _ => ⟨rfl, rfl, rfl, rfl, rfl, rfl⟩
  | x :: ns, i + 1, h => by
    have := ndC_at ns i (by simpa using h)
    rw [ndAt_cons, show (i + 1) * 6 = i * 6 + 6 by omega]
    exact this
theorem ndC_set : ∀ (ns : List Nd) (i : Nat) (x : Nd), i < ns.length → ndC (ns.set i x) = ((((((ndC ns).set (i * 6) (.int .i64 x.k)).set (i * 6 + 1) (.int .u32 x.p)).set (i * 6 + 2) (.int .i64 x.l)).set (i * 6 + 3) (.int .i64 x.r)).set (i * 6 + 4) (.int .i64 x.h)).set (i * 6 + 5) (.int .i64 x.t)
  | [], i, x, h => by simp at h
  | y :: ns, 0, x, _ => rfl
  | y :: ns, i + 1, x, h => by
    rw [show (i + 1) * 6 = i * 6 + 6 by omega]
    simp only [List.set_cons_succ, ndC]
    rw [ndC_set ns i x (by simpa using h)]
theorem ndC_l : ∀ (ns : List Nd) (i : Nat) (x : Int), i < ns.length → ndC (setL ns i x) = (ndC ns).set (i * 6 + 2) (.int .i64 x)
  | [], i, x, h => by simp at h
  | y :: ns, 0, x, _ => rfl
  | y :: ns, i + 1, x, h => by
    have ih := ndC_l ns i x (by simpa using h)
    unfold setL at ih ⊢
    rw [ndAt_cons, Int.toNat_natCast, show (i + 1) * 6 + 2 = i * 6 + 2 + 6 by omega]
    rw [Int.toNat_natCast] at ih
    simp only [List.set_cons_succ, ndC]
    rw [ih]
theorem ndC_r : ∀ (ns : List Nd) (i : Nat) (x : Int), i < ns.length → ndC (setR ns i x) = (ndC ns).set (i * 6 + 3) (.int .i64 x)
  | [], i, x, h => by simp at h
  | y :: ns, 0, x, _ => rfl
  | y :: ns, i + 1, x, h => by
    have ih := ndC_r ns i x (by simpa using h)
    unfold setR at ih ⊢
    rw [ndAt_cons, Int.toNat_natCast, show (i + 1) * 6 + 3 = i * 6 + 3 + 6 by omega]
    rw [Int.toNat_natCast] at ih
    simp only [List.set_cons_succ, ndC]
    rw [ih]
/-- the slice '.slice A n c' reads as nodes. -/
def Ns (w : World) (A : Option Addr) (n c : Nat) (ns : List Nd) : Prop := Es w A n c 6 (ndC ns)
theorem Ns.len {w : World} {A : Option Addr} {n c : Nat} {ns : List Nd} (h : Ns w A n c ns) : ns.length = n := by
  have := Es.len h; rw [ndC_len] at this; omega
theorem Ns.look {w : World} {A : Option Addr} {n c : Nat} {ns : List Nd} (h : Ns w A n c ns) (i : Nat) (hi : i < n) :
    ∃ b off, A = some ⟨b, off, none⟩ ∧ b < w.heap.size ∧ w.cell? ⟨b, off + i * 6, none⟩ = some (.int .i64 (ndAt ns i).k) ∧ w.cell? ⟨b, off + i * 6 + 1, none⟩ = some (.int .u32 (ndAt ns i).p) ∧ w.cell? ⟨b, off + i * 6 + 2, none⟩ = some (.int .i64 (ndAt ns i).l) ∧ w.cell? ⟨b, off + i * 6 + 3, none⟩ = some (.int .i64 (ndAt ns i).r) ∧ w.cell? ⟨b, off + i * 6 + 4, none⟩ = some (.int .i64 (ndAt ns i).h) ∧ w.cell? ⟨b, off + i * 6 + 5, none⟩ = some (.int .i64 (ndAt ns i).t) := by
  obtain ⟨b, off, e, hb, hc⟩ := Es.mem h (by omega)
  obtain ⟨h0, h1, h2, h3, h4, h5⟩ := ndC_at ns i (by have := h.len; omega)
  refine ⟨b, off, e, hb, hc _ _ h0, ?_, ?_, ?_, ?_, ?_⟩
  · have := hc _ _ h1; rwa [← Nat.add_assoc] at this
  · have := hc _ _ h2; rwa [← Nat.add_assoc] at this
  · have := hc _ _ h3; rwa [← Nat.add_assoc] at this
  · have := hc _ _ h4; rwa [← Nat.add_assoc] at this
  · have := hc _ _ h5; rwa [← Nat.add_assoc] at this
theorem ns_own {w : World} {base n d : Nat} {B : Option Addr} {ns : List Nd} (h : w.ownsRow base 52 6 (.slice B n d) n (ndC ns)) : Ns w B n d ns := by
  obtain ⟨B', d', he, hrs⟩ := Es.of_own h (ndC_one _)
  injection he with he1 he2 he3; subst he1; subst he3; exact hrs
theorem infoNode : (Try.prog.info? 52).map (fun i => (i.zero, i.size, i.bytes)) = some (some (.agg #[.int .i64 0, .int .u32 0, .int .i64 0, .int .i64 0, .int .i64 0, .int .i64 0]), 6, 48) := by kernel_rfl
/-- a node by value. -/
def ndV (x : Nd) : Value := .agg #[.int .i64 x.k, .int .u32 x.p, .int .i64 x.l, .int .i64 x.r, .int .i64 x.h, .int .i64 x.t]
theorem node_neq (x y : Nd) (W : World) : (binOp .neq 52 (.agg #[.int .i64 x.k, .int .u32 x.p, .int .i64 x.l, .int .i64 x.r, .int .i64 x.h, .int .i64 x.t]) (.agg #[.int .i64 y.k, .int .u32 y.p, .int .i64 y.l, .int .i64 y.r, .int .i64 y.h, .int .i64 y.t])).run Try.prog W = .ok (.bool (decide (x ≠ y))) W := by
  obtain ⟨a1, a2, a3, a4, a5, a6⟩ := x
  obtain ⟨b1, b2, b3, b4, b5, b6⟩ := y
  have hd : decide ((⟨a1, a2, a3, a4, a5, a6⟩ : Nd) ≠ ⟨b1, b2, b3, b4, b5, b6⟩) = !(decide (a1 = b1) && (decide (a2 = b2) && (decide (a3 = b3) && (decide (a4 = b4) && (decide (a5 = b5) && decide (a6 = b6)))))) := by
    by_cases h1 : a1 = b1 <;> by_cases h2 : a2 = b2 <;> by_cases h3 : a3 = b3 <;> by_cases h4 : a4 = b4 <;> by_cases h5 : a5 = b5 <;> by_cases h6 : a6 = b6 <;> simp [h1, h2, h3, h4, h5, h6]
  rw [hd]
  go_simp
  (repeat' split) <;> simp_all
theorem nd_range {w : World} {b o : Nat} {v0 v1 v2 v3 v4 v5 : Value} (h0 : w.cell? ⟨b, o, none⟩ = some v0) (h1 : w.cell? ⟨b, o + 1, none⟩ = some v1) (h2 : w.cell? ⟨b, o + 2, none⟩ = some v2) (h3 : w.cell? ⟨b, o + 3, none⟩ = some v3) (h4 : w.cell? ⟨b, o + 4, none⟩ = some v4) (h5 : w.cell? ⟨b, o + 5, none⟩ = some v5) : w.rangeAt b o [v0, v1, v2, v3, v4, v5] := by
  intro j v hj
  match j, hj with
  | 0, hj => simp at hj; subst hj; exact h0
  | 1, hj => simp at hj; subst hj; exact h1
  | 2, hj => simp at hj; subst hj; exact h2
  | 3, hj => simp at hj; subst hj; exact h3
  | 4, hj => simp at hj; subst hj; exact h4
  | 5, hj => simp at hj; subst hj; exact h5
  | j + 6, hj => simp at hj
set_option maxRecDepth 100000 in
set_option maxHeartbeats 4000000 in
theorem refEmpty_any (nx : Int) (w : World) :
    Calls Try.prog 36 #[.int .i64 nx] w (fun e w' => e = .returned (.agg #[.int .i64 (-1), .int .u32 0, .int .i64 nx, .int .i64 (-1), .int .i64 (-1), .int .i64 (-1)]) ∧ Below w.heap.size w w') := by
  obtain ⟨v1, hv1⟩ : ∃ W, w.alloc (.cells #[.int .i64 0, .int .u32 0, .int .i64 0, .int .i64 0, .int .i64 0, .int .i64 0] 52) = W := ⟨_, rfl⟩
  have fr1 : Fr w v1 w.heap.size [.cells #[.int .i64 0, .int .u32 0, .int .i64 0, .int .i64 0, .int .i64 0, .int .i64 0] 52] := hv1 ▸ Fr.first w _
  have z1 : v1.heap.size = w.heap.size + 1 := by rw [← hv1, Fr.size1]
  generalize hq : w.heap.size = q at *
  have FR := Lib.hid fr1
  clear fr1
  have c00 : v1.cell? ⟨q, 0, none⟩ = some (.int .i64 0) := FR.out.cell 0 0 rfl rfl rfl
  have f00 : v1.frozen? ⟨q, 0, none⟩ = false := FR.out.frozen 0 0 rfl rfl
  have c01 : v1.cell? ⟨q, 1, none⟩ = some (.int .u32 0) := FR.out.cell 0 1 rfl rfl rfl
  have f01 : v1.frozen? ⟨q, 1, none⟩ = false := FR.out.frozen 0 1 rfl rfl
  have c02 : v1.cell? ⟨q, 2, none⟩ = some (.int .i64 0) := FR.out.cell 0 2 rfl rfl rfl
  have f02 : v1.frozen? ⟨q, 2, none⟩ = false := FR.out.frozen 0 2 rfl rfl
  have c03 : v1.cell? ⟨q, 3, none⟩ = some (.int .i64 0) := FR.out.cell 0 3 rfl rfl rfl
  have f03 : v1.frozen? ⟨q, 3, none⟩ = false := FR.out.frozen 0 3 rfl rfl
  have c04 : v1.cell? ⟨q, 4, none⟩ = some (.int .i64 0) := FR.out.cell 0 4 rfl rfl rfl
  have f04 : v1.frozen? ⟨q, 4, none⟩ = false := FR.out.frozen 0 4 rfl rfl
  have c05 : v1.cell? ⟨q, 5, none⟩ = some (.int .i64 0) := FR.out.cell 0 5 rfl rfl rfl
  have f05 : v1.frozen? ⟨q, 5, none⟩ = false := FR.out.frozen 0 5 rfl rfl
  go_enter Try.func36, Try.ntmps36
  go_wp2
  have FZ : Fr w ((((((v1.setCell ⟨q, 0, none⟩ (.int .i64 (-1))).setCell ⟨q, 1, none⟩ (.int .u32 0)).setCell ⟨q, 2, none⟩ (.int .i64 nx)).setCell ⟨q, 3, none⟩ (.int .i64 (-1))).setCell ⟨q, 4, none⟩ (.int .i64 (-1))).setCell ⟨q, 5, none⟩ (.int .i64 (-1))) q [.cells #[.int .i64 (-1), .int .u32 0, .int .i64 nx, .int .i64 (-1), .int .i64 (-1), .int .i64 (-1)] 52] := ((((((FR.out.set 0 0 rfl rfl (.int .i64 (-1))).set 0 1 rfl rfl (.int .u32 0)).set 0 2 rfl rfl (.int .i64 nx)).set 0 3 rfl rfl (.int .i64 (-1))).set 0 4 rfl rfl (.int .i64 (-1))).set 0 5 rfl rfl (.int .i64 (-1)))
  refine bodyPost_ret (res_c Try.results36 (by rfl) (FZ.load 0 rfl rfl Try.underlying52 (by kernel_rfl))) rfl ?_
  exact ⟨rfl, FZ.bel⟩
/-- the free list's places, and whether it ends. -/
def FreePost (w : World) (r : Option (List Int)) (e : Ending) (w' : World) : Prop :=
  ∃ B m d, e = .returned (.tuple #[.slice B m d, .bool r.isSome]) ∧ w'.ownsRow w.heap.size 3 1 (.slice B m d) m (intC (r.getD [])) ∧ Below w.heap.size w w'
set_option maxRecDepth 100000 in
set_option maxHeartbeats 4000000 in
theorem refFree9_any (A : Option Addr) (n c : Nat) (ns : List Nd) (rt fr : Int) (w : World) (hx : Ns w A n c ns) (hn : n ≤ 16384) :
    Calls Try.prog 38 #[.agg #[.slice A n c, .int .i64 rt, .int .i64 fr]] w (FreePost w (freeW (ns, rt, fr))) := by
  obtain ⟨i5, hi5, hz0, hz1, hz2⟩ := info_of infoInt
  have HI := Lib.hid hi5; have HZ0 := Lib.hid hz0; have HZ1 := Lib.hid hz1; have HZ2 := Lib.hid hz2
  clear hi5 hz0 hz1 hz2
  have hlen := hx.len
  have RX := Lib.hid hx
  have HL := Lib.hid hlen
  have HWP := Lib.hid (show freeW (ns, rt, fr) = walkT ns (n + 1 - 0) fr [] by unfold freeW; simp only [hlen]; rfl)
  obtain ⟨R, hR⟩ : ∃ R, freeW (ns, rt, fr) = R := ⟨_, rfl⟩
  rw [hR] at HWP ⊢
  clear hx hR hlen
  obtain ⟨v1, hv1⟩ : ∃ W, w.alloc (.cells #[.slice A n c, .int .i64 rt, .int .i64 fr] 24) = W := ⟨_, rfl⟩
  have fr1 : Fr w v1 w.heap.size [.cells #[.slice A n c, .int .i64 rt, .int .i64 fr] 24] := hv1 ▸ Fr.first w _
  have z1 : v1.heap.size = w.heap.size + 1 := by rw [← hv1, Fr.size1]
  generalize hq : w.heap.size = q at *
  have FR := Lib.hid fr1
  clear fr1
  have c00 : v1.cell? ⟨q, 0, none⟩ = some (.slice A n c) := FR.out.cell 0 0 rfl rfl rfl
  have c01 : v1.cell? ⟨q, 1, none⟩ = some (.int .i64 rt) := FR.out.cell 0 1 rfl rfl rfl
  have c02 : v1.cell? ⟨q, 2, none⟩ = some (.int .i64 fr) := FR.out.cell 0 2 rfl rfl rfl
  go_enter Try.func38, Try.ntmps38
  go_wp2
  clear c00 c01 c02
  clear hv1
  go_loopw [4, 5] (fun ov av wr => ∃ (out : List Int) (at_ : Int), av = .int .i64 at_ ∧ lenV ov = out.length ∧ Hid (wr.ownsRow (q + 1) 3 1 ov out.length (intC out)) ∧ Hid (Fr w wr q [.cells #[.slice A n c, .int .i64 rt, .int .i64 fr] 24]) ∧ Hid (out.Nodup ∧ InN n out) ∧ Hid (R = walkT ns (n + 1 - out.length) at_ out)) (fun ov _ _ => n - lenV ov)
  case atStart => exact ⟨[], fr, rfl, rfl, World.ownsRow_nil _ _ _ _, FR.out, ⟨List.nodup_nil, fun x hx => by simp at hx⟩, HWP.out⟩
  case round =>
    clear FR HWP
    obtain ⟨out, at_, rfl, hlv, OW, FR, HP, HW⟩ := hrel
    have hol := places_len HP.out.1 HP.out.2
    obtain ⟨B, d, rfl, his⟩ := Es.of_own OW.out (intC_one _)
    have HIS := Lib.hid (show Is wr B out.length d out from his)
    clear his hlv
    by_cases h1 : at_ = -1
    · have b0 : (at_ != -1) = false := by simp [h1]
      have HE := Lib.hid (show R = some out by rw [HW.out]; exact walkT_end (by omega) h1)
      clear h1
      go_wp2
      go_ret2
      rw [HE.out]
      exact ⟨_, _, _, rfl, own_base OW.out (by rw [hq]; omega), FR.out.out⟩
    · have b0 : (at_ != -1) = true := by simp [h1]
      by_cases hbad : badT ns out at_
      · have HE := Lib.hid (show R = none by rw [HW.out]; exact walkT_bad h1 hbad)
        unfold badT at hbad
        rw [HL.out] at hbad
        clear OW h1 HW
        by_cases h2 : at_ < 0
        · have b1 : decide (at_ < 0) = true := by simpa using h2
          clear hbad h2
          have c00 : wr.cell? ⟨q, 0, none⟩ = some (.slice A n c) := FR.out.cell 0 0 rfl rfl rfl
          have c01 : wr.cell? ⟨q, 1, none⟩ = some (.int .i64 rt) := FR.out.cell 0 1 rfl rfl rfl
          have c02 : wr.cell? ⟨q, 2, none⟩ = some (.int .i64 fr) := FR.out.cell 0 2 rfl rfl rfl
          go_wp2
          go_quiet (fail)
          go_wp2
          go_ret2
          rw [HE.out]
          exact ⟨_, _, _, rfl, World.ownsRow_nil _ _ _ _, bel_drewN FR.out.out _⟩
        · have b1 : decide (at_ < 0) = false := by simpa using h2
          by_cases h3 : (n : Int) ≤ at_
          · have b2 : decide ((n : Int) ≤ at_) = true := by simpa using h3
            clear hbad h2 h3
            have c00 : wr.cell? ⟨q, 0, none⟩ = some (.slice A n c) := FR.out.cell 0 0 rfl rfl rfl
            have c01 : wr.cell? ⟨q, 1, none⟩ = some (.int .i64 rt) := FR.out.cell 0 1 rfl rfl rfl
            have c02 : wr.cell? ⟨q, 2, none⟩ = some (.int .i64 fr) := FR.out.cell 0 2 rfl rfl rfl
            go_wp2
            go_quiet (fail)
            go_wp2
            go_ret2
            rw [HE.out]
            exact ⟨_, _, _, rfl, World.ownsRow_nil _ _ _ _, bel_drewN FR.out.out _⟩
          · have b2 : decide ((n : Int) ≤ at_) = false := by simpa using h3
            obtain ⟨i, rfl⟩ : ∃ i : Nat, at_ = i := ⟨at_.toNat, by omega⟩
            have hi0 : (0 : Int) ≤ (i : Int) := by omega
            have hi1 : (i : Int) < (n : Int) := by omega
            have hin : i < n := by omega
            have b2n : decide (n ≤ i) = false := by simp; omega
            have HH := fun W (h : Is W B out.length d out) => refHas_any B out.length d out (i : Int) W h (by omega)
            by_cases h4 : (i : Int) ∈ out
            · rw [decide_eq_true h4] at HH
              replace HH := Lib.hid HH
              clear hbad h2 h3 h4
              have hqz : q < wr.heap.size := by have := FR.out.sz; simp only [List.length_cons, List.length_nil] at this; omega
              have c00 : wr.cell? ⟨q, 0, none⟩ = some (.slice A n c) := FR.out.cell 0 0 rfl rfl rfl
              have c01 : wr.cell? ⟨q, 1, none⟩ = some (.int .i64 rt) := FR.out.cell 0 1 rfl rfl rfl
              have c02 : wr.cell? ⟨q, 2, none⟩ = some (.int .i64 fr) := FR.out.cell 0 2 rfl rfl rfl
              go_wp2
              refine wp_region_noPanic ?_
              refine wp_region_held_drew (S := (fun wv => Hid (Below wr.heap.size wr wv))) (by kernel_rfl) (Lib.hid (Below.refl _ wr).drew) (fun hS => ?_)
              refine wpAnyH_take (i := 0) (oi := ⟨some 16, .move (.tmp 5), 3, "ref.go:35", #[], none⟩) (v := ?_) rfl (by kernel_rfl) (by kernel_rfl) (by kernel_rfl) (fun _ _ _ h => h) (Or.inl ⟨by rfl, ?_⟩) hS ?_
              rotate_left
              · intro wv _; go_simp; try with_reducible rfl
              try simp only [Act.put, List.setIfInBounds_toArray, List.set_cons_zero, List.set_cons_succ]
              refine wpAnyH_take (i := 1) (oi := ⟨some 17, .binOp .lss 3 (.tmp 16) (.const (Value.int IntKind.i64 0)) 3, 4, "ref.go:35", #[⟨0, .data⟩], none⟩) (v := ?_) rfl (by kernel_rfl) (by kernel_rfl) (by kernel_rfl) (fun _ _ _ h => h) (Or.inl ⟨by rfl, ?_⟩) hS ?_
              rotate_left
              · intro wv _; go_simp; try with_reducible rfl
              try simp only [Act.put, List.setIfInBounds_toArray, List.set_cons_zero, List.set_cons_succ]
              refine wpAnyH_take (i := 2) (oi := ⟨some 18, .move (.tmp 17), 4, "ref.go:35", #[⟨1, .data⟩], none⟩) (v := ?_) rfl (by kernel_rfl) (by kernel_rfl) (by kernel_rfl) (fun _ _ _ h => h) (Or.inl ⟨by rfl, ?_⟩) hS ?_
              rotate_left
              · intro wv _; go_simp; try with_reducible rfl
              try simp only [Act.put, List.setIfInBounds_toArray, List.set_cons_zero, List.set_cons_succ]
              refine wpAnyH_take (i := 3) (oi := ⟨some 19, .move (.tmp 5), 3, "ref.go:35", #[⟨2, .guard⟩], some (2, false)⟩) (v := ?_) rfl (by kernel_rfl) (by kernel_rfl) (by kernel_rfl) (fun _ _ _ h => h) (Or.inl ⟨by rfl, ?_⟩) hS ?_
              rotate_left
              · intro wv _; go_simp; try with_reducible rfl
              try simp only [Act.put, List.setIfInBounds_toArray, List.set_cons_zero, List.set_cons_succ]
              refine wpAnyH_take (i := 4) (oi := ⟨some 20, .fieldAddr 24 (.tmp 1) 0, 0, "ref.go:35", #[⟨2, .guard⟩], some (2, false)⟩) (v := ?_) rfl (by kernel_rfl) (by kernel_rfl) (by kernel_rfl) (fun _ _ _ h => h) (Or.inl ⟨by rfl, ?_⟩) hS ?_
              rotate_left
              · intro wv _; go_simp; try with_reducible rfl
              try simp only [Act.put, List.setIfInBounds_toArray, List.set_cons_zero, List.set_cons_succ]
              refine wpAnyH_take (i := 5) (oi := ⟨some 21, .load 22 (.tmp 20), 22, "ref.go:35", #[⟨4, .data⟩, ⟨2, .guard⟩], some (2, false)⟩) (v := ?_) rfl (by kernel_rfl) (by kernel_rfl) (by kernel_rfl) (fun _ _ _ h => h) (Or.inl ⟨by rfl, ?_⟩) hS ?_
              rotate_left
              · intro wv hS; have hrun := (hS.out.cell (p := ⟨q, 0, none⟩) hqz).trans c00; go_simp; try with_reducible rfl
              try simp only [Act.put, List.setIfInBounds_toArray, List.set_cons_zero, List.set_cons_succ]
              refine wpAnyH_take (i := 6) (oi := ⟨some 22, .call { callee := .builtin .len, args := #[.tmp 21], argTypes := #[22] }, 3, "ref.go:35", #[⟨5, .data⟩, ⟨2, .guard⟩], some (2, false)⟩) (v := ?_) rfl (by kernel_rfl) (by kernel_rfl) (by kernel_rfl) (fun _ _ _ h => h) (Or.inl ⟨by rfl, ?_⟩) hS ?_
              rotate_left
              · intro wv _; go_simp; try with_reducible rfl
              try simp only [Act.put, List.setIfInBounds_toArray, List.set_cons_zero, List.set_cons_succ]
              refine wpAnyH_take (i := 7) (oi := ⟨some 23, .binOp .geq 3 (.tmp 19) (.tmp 22) 3, 4, "ref.go:35", #[⟨3, .data⟩, ⟨6, .data⟩, ⟨2, .guard⟩], some (2, false)⟩) (v := ?_) rfl (by kernel_rfl) (by kernel_rfl) (by kernel_rfl) (fun _ _ _ h => h) (Or.inl ⟨by rfl, ?_⟩) hS ?_
              rotate_left
              · intro wv _; go_simp; try with_reducible rfl
              try simp only [Act.put, List.setIfInBounds_toArray, List.set_cons_zero, List.set_cons_succ]
              refine wpAnyH_take (i := 8) (oi := ⟨some 24, .pick (.tmp 18) (.const (Value.bool true)) (.tmp 23), 4, "ref.go:35", #[⟨2, .data⟩, ⟨7, .data⟩], none⟩) (v := ?_) rfl (by kernel_rfl) (by kernel_rfl) (by kernel_rfl) (fun _ _ _ h => h) (Or.inl ⟨by rfl, ?_⟩) hS ?_
              rotate_left
              · intro wv _; go_simp; try with_reducible rfl
              try simp only [Act.put, List.setIfInBounds_toArray, List.set_cons_zero, List.set_cons_succ]
              refine wpAnyH_take (i := 9) (oi := ⟨some 25, .move (.tmp 24), 4, "ref.go:35", #[⟨8, .data⟩, ⟨2, .chain⟩], none⟩) (v := ?_) rfl (by kernel_rfl) (by kernel_rfl) (by kernel_rfl) (fun _ _ _ h => h) (Or.inl ⟨by rfl, ?_⟩) hS ?_
              rotate_left
              · intro wv _; go_simp; try with_reducible rfl
              try simp only [Act.put, List.setIfInBounds_toArray, List.set_cons_zero, List.set_cons_succ]
              refine wpAnyH_take (i := 10) (oi := ⟨some 26, .move (.tmp 4), 38, "ref.go:35", #[⟨9, .guard⟩], some (9, false)⟩) (v := ?_) rfl (by kernel_rfl) (by kernel_rfl) (by kernel_rfl) (fun _ _ _ h => h) (Or.inl ⟨by rfl, ?_⟩) hS ?_
              rotate_left
              · intro wv _; go_simp; try with_reducible rfl
              try simp only [Act.put, List.setIfInBounds_toArray, List.set_cons_zero, List.set_cons_succ]
              refine wpAnyH_take (i := 11) (oi := ⟨some 27, .move (.tmp 5), 3, "ref.go:35", #[⟨9, .guard⟩], some (9, false)⟩) (v := ?_) rfl (by kernel_rfl) (by kernel_rfl) (by kernel_rfl) (fun _ _ _ h => h) (Or.inl ⟨by rfl, ?_⟩) hS ?_
              rotate_left
              · intro wv _; go_simp; try with_reducible rfl
              try simp only [Act.put, List.setIfInBounds_toArray, List.set_cons_zero, List.set_cons_succ]
              refine wpAnyH_ready (rs := [12]) (by kernel_rfl) (by simp) (AllReadyH.cons (o := ⟨some 28, .call { callee := .value (.func 50), args := #[.tmp 26, .tmp 27], argTypes := #[38, 3] }, 4, "ref.go:35", #[⟨10, .data⟩, ⟨11, .data⟩, ⟨9, .chain⟩, ⟨9, .guard⟩], some (9, false)⟩) rfl (fun K hK => ?_) AllReadyH.nil)
              go_simp
              refine (HH.out _ (Es.below HIS.out hS.out)).mono ?_; rintro e wa ⟨rfl, rfl⟩
              go_wp2_with fail
              refine Shut.out hK _ _ hS (fun _ => ?_)
              clear hK K
              try simp only [Act.put, List.setIfInBounds_toArray, List.set_cons_zero, List.set_cons_succ]
              refine wpAnyH_take (i := 13) (oi := ⟨some 29, .pick (.tmp 25) (.const (Value.bool true)) (.tmp 28), 4, "ref.go:35", #[⟨9, .data⟩, ⟨12, .data⟩], none⟩) (v := ?_) rfl (by kernel_rfl) (by kernel_rfl) (by kernel_rfl) (fun _ _ _ h => h) (Or.inl ⟨by rfl, ?_⟩) hS ?_
              rotate_left
              · intro wv _; go_simp; try with_reducible rfl
              try simp only [Act.put, List.setIfInBounds_toArray, List.set_cons_zero, List.set_cons_succ]
              refine wpAnyH_take (i := 14) (oi := ⟨some 30, .move (.tmp 29), 4, "ref.go:35", #[⟨13, .data⟩, ⟨12, .chain⟩], none⟩) (v := ?_) rfl (by kernel_rfl) (by kernel_rfl) (by kernel_rfl) (fun _ _ _ h => h) (Or.inl ⟨by rfl, ?_⟩) hS ?_
              rotate_left
              · intro wv _; go_simp; try with_reducible rfl
              try simp only [Act.put, List.setIfInBounds_toArray, List.set_cons_zero, List.set_cons_succ]
              refine wpAnyH_take (i := 15) (oi := ⟨some 31, .fieldAddr 24 (.tmp 1) 0, 0, "ref.go:35", #[⟨14, .guard⟩], some (14, false)⟩) (v := undef) rfl (by kernel_rfl) (by kernel_rfl) (by kernel_rfl) (fun _ _ _ h => h) (Or.inr ⟨by rfl, rfl⟩) hS ?_
              try simp only [Act.put, List.setIfInBounds_toArray, List.set_cons_zero, List.set_cons_succ]
              refine wpAnyH_take (i := 16) (oi := ⟨some 32, .load 22 (.tmp 31), 22, "ref.go:35", #[⟨15, .data⟩, ⟨14, .guard⟩], some (14, false)⟩) (v := undef) rfl (by kernel_rfl) (by kernel_rfl) (by kernel_rfl) (fun _ _ _ h => h) (Or.inr ⟨by rfl, rfl⟩) hS ?_
              try simp only [Act.put, List.setIfInBounds_toArray, List.set_cons_zero, List.set_cons_succ]
              refine wpAnyH_take (i := 17) (oi := ⟨some 33, .move (.tmp 5), 3, "ref.go:35", #[⟨14, .guard⟩], some (14, false)⟩) (v := undef) rfl (by kernel_rfl) (by kernel_rfl) (by kernel_rfl) (fun _ _ _ h => h) (Or.inr ⟨by rfl, rfl⟩) hS ?_
              try simp only [Act.put, List.setIfInBounds_toArray, List.set_cons_zero, List.set_cons_succ]
              refine wpAnyH_take (i := 18) (oi := ⟨some 34, .indexAddr 22 (.tmp 32) (.tmp 33), 0, "ref.go:35", #[⟨16, .data⟩, ⟨17, .data⟩, ⟨14, .guard⟩], some (14, false)⟩) (v := undef) rfl (by kernel_rfl) (by kernel_rfl) (by kernel_rfl) (fun _ _ _ h => h) (Or.inr ⟨by rfl, rfl⟩) hS ?_
              try simp only [Act.put, List.setIfInBounds_toArray, List.set_cons_zero, List.set_cons_succ]
              refine wpAnyH_take (i := 19) (oi := ⟨some 35, .load 52 (.tmp 34), 52, "ref.go:35", #[⟨18, .data⟩, ⟨14, .guard⟩], some (14, false)⟩) (v := undef) rfl (by kernel_rfl) (by kernel_rfl) (by kernel_rfl) (fun _ _ _ h => h) (Or.inr ⟨by rfl, rfl⟩) hS ?_
              try simp only [Act.put, List.setIfInBounds_toArray, List.set_cons_zero, List.set_cons_succ]
              refine wpAnyH_take (i := 20) (oi := ⟨some 36, .fieldAddr 24 (.tmp 1) 0, 0, "ref.go:35", #[⟨14, .guard⟩], some (14, false)⟩) (v := undef) rfl (by kernel_rfl) (by kernel_rfl) (by kernel_rfl) (fun _ _ _ h => h) (Or.inr ⟨by rfl, rfl⟩) hS ?_
              try simp only [Act.put, List.setIfInBounds_toArray, List.set_cons_zero, List.set_cons_succ]
              refine wpAnyH_take (i := 21) (oi := ⟨some 37, .load 22 (.tmp 36), 22, "ref.go:35", #[⟨20, .data⟩, ⟨14, .guard⟩], some (14, false)⟩) (v := undef) rfl (by kernel_rfl) (by kernel_rfl) (by kernel_rfl) (fun _ _ _ h => h) (Or.inr ⟨by rfl, rfl⟩) hS ?_
              try simp only [Act.put, List.setIfInBounds_toArray, List.set_cons_zero, List.set_cons_succ]
              refine wpAnyH_take (i := 22) (oi := ⟨some 38, .move (.tmp 5), 3, "ref.go:35", #[⟨14, .guard⟩], some (14, false)⟩) (v := undef) rfl (by kernel_rfl) (by kernel_rfl) (by kernel_rfl) (fun _ _ _ h => h) (Or.inr ⟨by rfl, rfl⟩) hS ?_
              try simp only [Act.put, List.setIfInBounds_toArray, List.set_cons_zero, List.set_cons_succ]
              refine wpAnyH_take (i := 23) (oi := ⟨some 39, .indexAddr 22 (.tmp 37) (.tmp 38), 0, "ref.go:35", #[⟨21, .data⟩, ⟨22, .data⟩, ⟨14, .guard⟩], some (14, false)⟩) (v := undef) rfl (by kernel_rfl) (by kernel_rfl) (by kernel_rfl) (fun _ _ _ h => h) (Or.inr ⟨by rfl, rfl⟩) hS ?_
              try simp only [Act.put, List.setIfInBounds_toArray, List.set_cons_zero, List.set_cons_succ]
              refine wpAnyH_take (i := 24) (oi := ⟨some 40, .fieldAddr 52 (.tmp 39) 2, 0, "ref.go:35", #[⟨23, .data⟩, ⟨14, .guard⟩], some (14, false)⟩) (v := undef) rfl (by kernel_rfl) (by kernel_rfl) (by kernel_rfl) (fun _ _ _ h => h) (Or.inr ⟨by rfl, rfl⟩) hS ?_
              try simp only [Act.put, List.setIfInBounds_toArray, List.set_cons_zero, List.set_cons_succ]
              refine wpAnyH_take (i := 25) (oi := ⟨some 41, .load 3 (.tmp 40), 3, "ref.go:35", #[⟨24, .data⟩, ⟨14, .guard⟩], some (14, false)⟩) (v := undef) rfl (by kernel_rfl) (by kernel_rfl) (by kernel_rfl) (fun _ _ _ h => h) (Or.inr ⟨by rfl, rfl⟩) hS ?_
              try simp only [Act.put, List.setIfInBounds_toArray, List.set_cons_zero, List.set_cons_succ]
              refine wpAnyH_take (i := 26) (oi := ⟨some 42, .call { callee := .value (.func 36), args := #[.tmp 41], argTypes := #[3] }, 52, "ref.go:35", #[⟨25, .data⟩, ⟨14, .chain⟩, ⟨14, .guard⟩], some (14, false)⟩) (v := undef) rfl (by kernel_rfl) (by kernel_rfl) (by kernel_rfl) (fun _ _ _ h => h) (Or.inr ⟨by rfl, rfl⟩) hS ?_
              try simp only [Act.put, List.setIfInBounds_toArray, List.set_cons_zero, List.set_cons_succ]
              refine wpAnyH_take (i := 27) (oi := ⟨some 43, .binOp .neq 52 (.tmp 35) (.tmp 42) 52, 4, "ref.go:35", #[⟨19, .data⟩, ⟨26, .data⟩, ⟨14, .guard⟩], some (14, false)⟩) (v := undef) rfl (by kernel_rfl) (by kernel_rfl) (by kernel_rfl) (fun _ _ _ h => h) (Or.inr ⟨by rfl, rfl⟩) hS ?_
              try simp only [Act.put, List.setIfInBounds_toArray, List.set_cons_zero, List.set_cons_succ]
              refine wpAnyH_take (i := 28) (oi := ⟨some 44, .pick (.tmp 30) (.const (Value.bool true)) (.tmp 43), 4, "ref.go:35", #[⟨14, .data⟩, ⟨27, .data⟩], none⟩) (v := ?_) rfl (by kernel_rfl) (by kernel_rfl) (by kernel_rfl) (fun _ _ _ h => h) (Or.inl ⟨by rfl, ?_⟩) hS ?_
              rotate_left
              · intro wv _; go_simp; try with_reducible rfl
              try simp only [Act.put, List.setIfInBounds_toArray, List.set_cons_zero, List.set_cons_succ]
              refine wpAnyH_done (by kernel_rfl) ?_ _
              refine NoPanic.normal ?_
              go_wp2
              go_ret2
              rw [HE.out]
              exact ⟨_, _, _, rfl, World.ownsRow_nil _ _ _ _, FR.out.out.drew⟩
            · rw [decide_eq_false h4] at HH
              replace HH := Lib.hid HH
              have h5 : ndAt ns i ≠ empN (ndAt ns i).l := by
                rcases hbad with h | h | h | h
                · omega
                · omega
                · exact absurd h h4
                · exact h
              obtain ⟨b, off, rfl, hbq, k0, k1, k2, k3, k4, k5⟩ := Ns.look (ns := ns) RX.out i (by omega)
              have hb0 : b < wr.heap.size := Nat.lt_of_lt_of_le hbq FR.out.out.size
              replace k0 := (FR.out.out.cell (p := ⟨b, off + i * 6, none⟩) hbq).trans k0
              replace k1 := (FR.out.out.cell (p := ⟨b, off + i * 6 + 1, none⟩) hbq).trans k1
              replace k2 := (FR.out.out.cell (p := ⟨b, off + i * 6 + 2, none⟩) hbq).trans k2
              replace k3 := (FR.out.out.cell (p := ⟨b, off + i * 6 + 3, none⟩) hbq).trans k3
              replace k4 := (FR.out.out.cell (p := ⟨b, off + i * 6 + 4, none⟩) hbq).trans k4
              replace k5 := (FR.out.out.cell (p := ⟨b, off + i * 6 + 5, none⟩) hbq).trans k5
              have hqz : q < wr.heap.size := by have := FR.out.sz; simp only [List.length_cons, List.length_nil] at this; omega
              clear hbad h2 h3 h4
              generalize ndAt ns (i : Int) = r at *
              have hne := node_neq r (empN r.l)
              rw [decide_eq_true h5] at hne
              unfold empN at hne
              clear h5
              have c00 : wr.cell? ⟨q, 0, none⟩ = some (.slice (some ⟨b, off, none⟩) n c) := FR.out.cell 0 0 rfl rfl rfl
              have c01 : wr.cell? ⟨q, 1, none⟩ = some (.int .i64 rt) := FR.out.cell 0 1 rfl rfl rfl
              have c02 : wr.cell? ⟨q, 2, none⟩ = some (.int .i64 fr) := FR.out.cell 0 2 rfl rfl rfl
              go_wp2
              refine wp_region_noPanic ?_
              refine wp_region_held_drew (S := (fun wv => Hid (Below wr.heap.size wr wv))) (by kernel_rfl) (Lib.hid (Below.refl _ wr).drew) (fun hS => ?_)
              refine wpAnyH_take (i := 0) (oi := ⟨some 16, .move (.tmp 5), 3, "ref.go:35", #[], none⟩) (v := ?_) rfl (by kernel_rfl) (by kernel_rfl) (by kernel_rfl) (fun _ _ _ h => h) (Or.inl ⟨by rfl, ?_⟩) hS ?_
              rotate_left
              · intro wv _; go_simp; try with_reducible rfl
              try simp only [Act.put, List.setIfInBounds_toArray, List.set_cons_zero, List.set_cons_succ]
              refine wpAnyH_take (i := 1) (oi := ⟨some 17, .binOp .lss 3 (.tmp 16) (.const (Value.int IntKind.i64 0)) 3, 4, "ref.go:35", #[⟨0, .data⟩], none⟩) (v := ?_) rfl (by kernel_rfl) (by kernel_rfl) (by kernel_rfl) (fun _ _ _ h => h) (Or.inl ⟨by rfl, ?_⟩) hS ?_
              rotate_left
              · intro wv _; go_simp; try with_reducible rfl
              try simp only [Act.put, List.setIfInBounds_toArray, List.set_cons_zero, List.set_cons_succ]
              refine wpAnyH_take (i := 2) (oi := ⟨some 18, .move (.tmp 17), 4, "ref.go:35", #[⟨1, .data⟩], none⟩) (v := ?_) rfl (by kernel_rfl) (by kernel_rfl) (by kernel_rfl) (fun _ _ _ h => h) (Or.inl ⟨by rfl, ?_⟩) hS ?_
              rotate_left
              · intro wv _; go_simp; try with_reducible rfl
              try simp only [Act.put, List.setIfInBounds_toArray, List.set_cons_zero, List.set_cons_succ]
              refine wpAnyH_take (i := 3) (oi := ⟨some 19, .move (.tmp 5), 3, "ref.go:35", #[⟨2, .guard⟩], some (2, false)⟩) (v := ?_) rfl (by kernel_rfl) (by kernel_rfl) (by kernel_rfl) (fun _ _ _ h => h) (Or.inl ⟨by rfl, ?_⟩) hS ?_
              rotate_left
              · intro wv _; go_simp; try with_reducible rfl
              try simp only [Act.put, List.setIfInBounds_toArray, List.set_cons_zero, List.set_cons_succ]
              refine wpAnyH_take (i := 4) (oi := ⟨some 20, .fieldAddr 24 (.tmp 1) 0, 0, "ref.go:35", #[⟨2, .guard⟩], some (2, false)⟩) (v := ?_) rfl (by kernel_rfl) (by kernel_rfl) (by kernel_rfl) (fun _ _ _ h => h) (Or.inl ⟨by rfl, ?_⟩) hS ?_
              rotate_left
              · intro wv _; go_simp; try with_reducible rfl
              try simp only [Act.put, List.setIfInBounds_toArray, List.set_cons_zero, List.set_cons_succ]
              refine wpAnyH_take (i := 5) (oi := ⟨some 21, .load 22 (.tmp 20), 22, "ref.go:35", #[⟨4, .data⟩, ⟨2, .guard⟩], some (2, false)⟩) (v := ?_) rfl (by kernel_rfl) (by kernel_rfl) (by kernel_rfl) (fun _ _ _ h => h) (Or.inl ⟨by rfl, ?_⟩) hS ?_
              rotate_left
              · intro wv hS; have hrun := (hS.out.cell (p := ⟨q, 0, none⟩) hqz).trans c00; go_simp; try with_reducible rfl
              try simp only [Act.put, List.setIfInBounds_toArray, List.set_cons_zero, List.set_cons_succ]
              refine wpAnyH_take (i := 6) (oi := ⟨some 22, .call { callee := .builtin .len, args := #[.tmp 21], argTypes := #[22] }, 3, "ref.go:35", #[⟨5, .data⟩, ⟨2, .guard⟩], some (2, false)⟩) (v := ?_) rfl (by kernel_rfl) (by kernel_rfl) (by kernel_rfl) (fun _ _ _ h => h) (Or.inl ⟨by rfl, ?_⟩) hS ?_
              rotate_left
              · intro wv _; go_simp; try with_reducible rfl
              try simp only [Act.put, List.setIfInBounds_toArray, List.set_cons_zero, List.set_cons_succ]
              refine wpAnyH_take (i := 7) (oi := ⟨some 23, .binOp .geq 3 (.tmp 19) (.tmp 22) 3, 4, "ref.go:35", #[⟨3, .data⟩, ⟨6, .data⟩, ⟨2, .guard⟩], some (2, false)⟩) (v := ?_) rfl (by kernel_rfl) (by kernel_rfl) (by kernel_rfl) (fun _ _ _ h => h) (Or.inl ⟨by rfl, ?_⟩) hS ?_
              rotate_left
              · intro wv _; go_simp; try with_reducible rfl
              try simp only [Act.put, List.setIfInBounds_toArray, List.set_cons_zero, List.set_cons_succ]
              refine wpAnyH_take (i := 8) (oi := ⟨some 24, .pick (.tmp 18) (.const (Value.bool true)) (.tmp 23), 4, "ref.go:35", #[⟨2, .data⟩, ⟨7, .data⟩], none⟩) (v := ?_) rfl (by kernel_rfl) (by kernel_rfl) (by kernel_rfl) (fun _ _ _ h => h) (Or.inl ⟨by rfl, ?_⟩) hS ?_
              rotate_left
              · intro wv _; go_simp; try with_reducible rfl
              try simp only [Act.put, List.setIfInBounds_toArray, List.set_cons_zero, List.set_cons_succ]
              refine wpAnyH_take (i := 9) (oi := ⟨some 25, .move (.tmp 24), 4, "ref.go:35", #[⟨8, .data⟩, ⟨2, .chain⟩], none⟩) (v := ?_) rfl (by kernel_rfl) (by kernel_rfl) (by kernel_rfl) (fun _ _ _ h => h) (Or.inl ⟨by rfl, ?_⟩) hS ?_
              rotate_left
              · intro wv _; go_simp; try with_reducible rfl
              try simp only [Act.put, List.setIfInBounds_toArray, List.set_cons_zero, List.set_cons_succ]
              refine wpAnyH_take (i := 10) (oi := ⟨some 26, .move (.tmp 4), 38, "ref.go:35", #[⟨9, .guard⟩], some (9, false)⟩) (v := ?_) rfl (by kernel_rfl) (by kernel_rfl) (by kernel_rfl) (fun _ _ _ h => h) (Or.inl ⟨by rfl, ?_⟩) hS ?_
              rotate_left
              · intro wv _; go_simp; try with_reducible rfl
              try simp only [Act.put, List.setIfInBounds_toArray, List.set_cons_zero, List.set_cons_succ]
              refine wpAnyH_take (i := 11) (oi := ⟨some 27, .move (.tmp 5), 3, "ref.go:35", #[⟨9, .guard⟩], some (9, false)⟩) (v := ?_) rfl (by kernel_rfl) (by kernel_rfl) (by kernel_rfl) (fun _ _ _ h => h) (Or.inl ⟨by rfl, ?_⟩) hS ?_
              rotate_left
              · intro wv _; go_simp; try with_reducible rfl
              try simp only [Act.put, List.setIfInBounds_toArray, List.set_cons_zero, List.set_cons_succ]
              refine wpAnyH_ready (rs := [12]) (by kernel_rfl) (by simp) (AllReadyH.cons (o := ⟨some 28, .call { callee := .value (.func 50), args := #[.tmp 26, .tmp 27], argTypes := #[38, 3] }, 4, "ref.go:35", #[⟨10, .data⟩, ⟨11, .data⟩, ⟨9, .chain⟩, ⟨9, .guard⟩], some (9, false)⟩) rfl (fun K hK => ?_) AllReadyH.nil)
              go_simp
              refine (HH.out _ (Es.below HIS.out hS.out)).mono ?_; rintro e wa ⟨rfl, rfl⟩
              go_wp2_with fail
              refine Shut.out hK _ _ hS (fun _ => ?_)
              clear hK K
              try simp only [Act.put, List.setIfInBounds_toArray, List.set_cons_zero, List.set_cons_succ]
              refine wpAnyH_take (i := 13) (oi := ⟨some 29, .pick (.tmp 25) (.const (Value.bool true)) (.tmp 28), 4, "ref.go:35", #[⟨9, .data⟩, ⟨12, .data⟩], none⟩) (v := ?_) rfl (by kernel_rfl) (by kernel_rfl) (by kernel_rfl) (fun _ _ _ h => h) (Or.inl ⟨by rfl, ?_⟩) hS ?_
              rotate_left
              · intro wv _; go_simp; try with_reducible rfl
              try simp only [Act.put, List.setIfInBounds_toArray, List.set_cons_zero, List.set_cons_succ]
              refine wpAnyH_take (i := 14) (oi := ⟨some 30, .move (.tmp 29), 4, "ref.go:35", #[⟨13, .data⟩, ⟨12, .chain⟩], none⟩) (v := ?_) rfl (by kernel_rfl) (by kernel_rfl) (by kernel_rfl) (fun _ _ _ h => h) (Or.inl ⟨by rfl, ?_⟩) hS ?_
              rotate_left
              · intro wv _; go_simp; try with_reducible rfl
              try simp only [Act.put, List.setIfInBounds_toArray, List.set_cons_zero, List.set_cons_succ]
              refine wpAnyH_take (i := 15) (oi := ⟨some 31, .fieldAddr 24 (.tmp 1) 0, 0, "ref.go:35", #[⟨14, .guard⟩], some (14, false)⟩) (v := ?_) rfl (by kernel_rfl) (by kernel_rfl) (by kernel_rfl) (fun _ _ _ h => h) (Or.inl ⟨by rfl, ?_⟩) hS ?_
              rotate_left
              · intro wv _; go_simp; try with_reducible rfl
              try simp only [Act.put, List.setIfInBounds_toArray, List.set_cons_zero, List.set_cons_succ]
              refine wpAnyH_take (i := 16) (oi := ⟨some 32, .load 22 (.tmp 31), 22, "ref.go:35", #[⟨15, .data⟩, ⟨14, .guard⟩], some (14, false)⟩) (v := ?_) rfl (by kernel_rfl) (by kernel_rfl) (by kernel_rfl) (fun _ _ _ h => h) (Or.inl ⟨by rfl, ?_⟩) hS ?_
              rotate_left
              · intro wv hS; have hrun := (hS.out.cell (p := ⟨q, 0, none⟩) hqz).trans c00; go_simp; try with_reducible rfl
              try simp only [Act.put, List.setIfInBounds_toArray, List.set_cons_zero, List.set_cons_succ]
              refine wpAnyH_take (i := 17) (oi := ⟨some 33, .move (.tmp 5), 3, "ref.go:35", #[⟨14, .guard⟩], some (14, false)⟩) (v := ?_) rfl (by kernel_rfl) (by kernel_rfl) (by kernel_rfl) (fun _ _ _ h => h) (Or.inl ⟨by rfl, ?_⟩) hS ?_
              rotate_left
              · intro wv _; go_simp; try with_reducible rfl
              try simp only [Act.put, List.setIfInBounds_toArray, List.set_cons_zero, List.set_cons_succ]
              refine wpAnyH_take (i := 18) (oi := ⟨some 34, .indexAddr 22 (.tmp 32) (.tmp 33), 0, "ref.go:35", #[⟨16, .data⟩, ⟨17, .data⟩, ⟨14, .guard⟩], some (14, false)⟩) (v := ?_) rfl (by kernel_rfl) (by kernel_rfl) (by kernel_rfl) (fun _ _ _ h => h) (Or.inl ⟨by rfl, ?_⟩) hS ?_
              rotate_left
              · intro wv _; go_simp; try with_reducible rfl
              try simp only [Act.put, List.setIfInBounds_toArray, List.set_cons_zero, List.set_cons_succ]
              refine wpAnyH_take (i := 19) (oi := ⟨some 35, .load 52 (.tmp 34), 52, "ref.go:35", #[⟨18, .data⟩, ⟨14, .guard⟩], some (14, false)⟩) (v := .agg (([.int .i64 r.k, .int .u32 r.p, .int .i64 r.l, .int .i64 r.r, .int .i64 r.h, .int .i64 r.t] : List Value)).toArray) rfl (by kernel_rfl) (by kernel_rfl) (by kernel_rfl) (fun _ _ _ h => h) (yieldsIf_load_mid (by rfl) _ _ (by rfl) (b) (off + i * 6) (by rfl) (([.int .i64 r.k, .int .u32 r.p, .int .i64 r.l, .int .i64 r.r, .int .i64 r.h, .int .i64 r.t] : List Value)) _ (fun wv hS => nd_range (hS.out.cell (p := ⟨b, off + i * 6, none⟩) hb0 |>.trans k0) (hS.out.cell (p := ⟨b, off + i * 6 + 1, none⟩) hb0 |>.trans k1) (hS.out.cell (p := ⟨b, off + i * 6 + 2, none⟩) hb0 |>.trans k2) (hS.out.cell (p := ⟨b, off + i * 6 + 3, none⟩) hb0 |>.trans k3) (hS.out.cell (p := ⟨b, off + i * 6 + 4, none⟩) hb0 |>.trans k4) (hS.out.cell (p := ⟨b, off + i * 6 + 5, none⟩) hb0 |>.trans k5)) Try.underlying52 (by rfl) (by kernel_rfl)) hS ?_
              try simp only [Act.put, List.setIfInBounds_toArray, List.set_cons_zero, List.set_cons_succ]
              refine wpAnyH_take (i := 20) (oi := ⟨some 36, .fieldAddr 24 (.tmp 1) 0, 0, "ref.go:35", #[⟨14, .guard⟩], some (14, false)⟩) (v := ?_) rfl (by kernel_rfl) (by kernel_rfl) (by kernel_rfl) (fun _ _ _ h => h) (Or.inl ⟨by rfl, ?_⟩) hS ?_
              rotate_left
              · intro wv _; go_simp; try with_reducible rfl
              try simp only [Act.put, List.setIfInBounds_toArray, List.set_cons_zero, List.set_cons_succ]
              refine wpAnyH_take (i := 21) (oi := ⟨some 37, .load 22 (.tmp 36), 22, "ref.go:35", #[⟨20, .data⟩, ⟨14, .guard⟩], some (14, false)⟩) (v := ?_) rfl (by kernel_rfl) (by kernel_rfl) (by kernel_rfl) (fun _ _ _ h => h) (Or.inl ⟨by rfl, ?_⟩) hS ?_
              rotate_left
              · intro wv hS; have hrun := (hS.out.cell (p := ⟨q, 0, none⟩) hqz).trans c00; go_simp; try with_reducible rfl
              try simp only [Act.put, List.setIfInBounds_toArray, List.set_cons_zero, List.set_cons_succ]
              refine wpAnyH_take (i := 22) (oi := ⟨some 38, .move (.tmp 5), 3, "ref.go:35", #[⟨14, .guard⟩], some (14, false)⟩) (v := ?_) rfl (by kernel_rfl) (by kernel_rfl) (by kernel_rfl) (fun _ _ _ h => h) (Or.inl ⟨by rfl, ?_⟩) hS ?_
              rotate_left
              · intro wv _; go_simp; try with_reducible rfl
              try simp only [Act.put, List.setIfInBounds_toArray, List.set_cons_zero, List.set_cons_succ]
              refine wpAnyH_take (i := 23) (oi := ⟨some 39, .indexAddr 22 (.tmp 37) (.tmp 38), 0, "ref.go:35", #[⟨21, .data⟩, ⟨22, .data⟩, ⟨14, .guard⟩], some (14, false)⟩) (v := ?_) rfl (by kernel_rfl) (by kernel_rfl) (by kernel_rfl) (fun _ _ _ h => h) (Or.inl ⟨by rfl, ?_⟩) hS ?_
              rotate_left
              · intro wv _; go_simp; try with_reducible rfl
              try simp only [Act.put, List.setIfInBounds_toArray, List.set_cons_zero, List.set_cons_succ]
              refine wpAnyH_take (i := 24) (oi := ⟨some 40, .fieldAddr 52 (.tmp 39) 2, 0, "ref.go:35", #[⟨23, .data⟩, ⟨14, .guard⟩], some (14, false)⟩) (v := ?_) rfl (by kernel_rfl) (by kernel_rfl) (by kernel_rfl) (fun _ _ _ h => h) (Or.inl ⟨by rfl, ?_⟩) hS ?_
              rotate_left
              · intro wv _; go_simp; try with_reducible rfl
              try simp only [Act.put, List.setIfInBounds_toArray, List.set_cons_zero, List.set_cons_succ]
              refine wpAnyH_take (i := 25) (oi := ⟨some 41, .load 3 (.tmp 40), 3, "ref.go:35", #[⟨24, .data⟩, ⟨14, .guard⟩], some (14, false)⟩) (v := ?_) rfl (by kernel_rfl) (by kernel_rfl) (by kernel_rfl) (fun _ _ _ h => h) (Or.inl ⟨by rfl, ?_⟩) hS ?_
              rotate_left
              · intro wv hS; have hrun := (hS.out.cell (p := ⟨b, off + i * 6 + 2, none⟩) hb0).trans k2; go_simp; try with_reducible rfl
              try simp only [Act.put, List.setIfInBounds_toArray, List.set_cons_zero, List.set_cons_succ]
              refine wpAnyH_ready (rs := [26]) (by kernel_rfl) (by simp) (AllReadyH.cons (o := ⟨some 42, .call { callee := .value (.func 36), args := #[.tmp 41], argTypes := #[3] }, 52, "ref.go:35", #[⟨25, .data⟩, ⟨14, .chain⟩, ⟨14, .guard⟩], some (14, false)⟩) rfl (fun K hK => ?_) AllReadyH.nil)
              go_simp
              refine (refEmpty_any r.l _).mono ?_; rintro e wb ⟨rfl, hb⟩
              replace hS := Lib.hid (hS.out.trans (hb.mono hS.out.size))
              clear hb
              go_wp2_with fail
              refine Shut.out hK _ _ hS (fun _ => ?_)
              clear hK K
              try simp only [Act.put, List.setIfInBounds_toArray, List.set_cons_zero, List.set_cons_succ]
              refine wpAnyH_take (i := 27) (oi := ⟨some 43, .binOp .neq 52 (.tmp 35) (.tmp 42) 52, 4, "ref.go:35", #[⟨19, .data⟩, ⟨26, .data⟩, ⟨14, .guard⟩], some (14, false)⟩) (v := ?_) rfl (by kernel_rfl) (by kernel_rfl) (by kernel_rfl) (fun _ _ _ h => h) (Or.inl ⟨by rfl, ?_⟩) hS ?_
              rotate_left
              · intro wv _; go_simp; try with_reducible rfl
              try simp only [Act.put, List.setIfInBounds_toArray, List.set_cons_zero, List.set_cons_succ]
              refine wpAnyH_take (i := 28) (oi := ⟨some 44, .pick (.tmp 30) (.const (Value.bool true)) (.tmp 43), 4, "ref.go:35", #[⟨14, .data⟩, ⟨27, .data⟩], none⟩) (v := ?_) rfl (by kernel_rfl) (by kernel_rfl) (by kernel_rfl) (fun _ _ _ h => h) (Or.inl ⟨by rfl, ?_⟩) hS ?_
              rotate_left
              · intro wv _; go_simp; try with_reducible rfl
              try simp only [Act.put, List.setIfInBounds_toArray, List.set_cons_zero, List.set_cons_succ]
              refine wpAnyH_done (by kernel_rfl) ?_ _
              refine NoPanic.normal ?_
              go_wp2
              go_ret2
              rw [HE.out]
              exact ⟨_, _, _, rfl, World.ownsRow_nil _ _ _ _, FR.out.out.trans (hS.out.mono FR.out.out.size)⟩
      · obtain ⟨g0, g1, g2, g3⟩ := not_badT hbad
        rw [HL.out] at g1
        have hstep := walkT_step (ns := ns) (f := n + 1 - out.length) (at_ := at_) (out := out) (by omega) h1 hbad
        obtain ⟨i, rfl⟩ : ∃ i : Nat, at_ = i := ⟨at_.toNat, by omega⟩
        have b1 : decide ((i : Int) < 0) = false := by simp
        have b2 : decide ((n : Int) ≤ (i : Int)) = false := by simp; omega
        have hi0 : (0 : Int) ≤ (i : Int) := g0
        have hi1 : (i : Int) < (n : Int) := g1
        have hin : i < n := by omega
        have b2n : decide (n ≤ i) = false := by simp; omega
        have HH := fun W (h : Is W B out.length d out) => refHas_any B out.length d out (i : Int) W h (by omega)
        have h4 := g2
        rw [decide_eq_false h4] at HH
        replace HH := Lib.hid HH
        have HP2 := Lib.hid (show (out ++ [(i : Int)]).Nodup ∧ InN n (out ++ [(i : Int)]) from ⟨List.nodup_append.2 ⟨HP.out.1, by simp, fun a ha b hb e => by simp at hb; subst hb; subst e; exact g2 ha⟩, fun x hx => by rcases List.mem_append.1 hx with hx | hx; exact HP.out.2 x hx; simp at hx; subst hx; exact ⟨g0, g1⟩⟩)
        have HLN := Lib.hid (places_len HP2.out.1 HP2.out.2)
        have HW2 := Lib.hid (show R = walkT ns (n + 1 - (out.length + 1)) (ndAt ns i).l (out ++ [(i : Int)]) by rw [HW.out, hstep]; rfl)
        obtain ⟨b, off, rfl, hbq, k0, k1, k2, k3, k4, k5⟩ := Ns.look (ns := ns) RX.out i (by omega)
        have hb0 : b < wr.heap.size := Nat.lt_of_lt_of_le hbq FR.out.out.size
        replace k0 := (FR.out.out.cell (p := ⟨b, off + i * 6, none⟩) hbq).trans k0
        replace k1 := (FR.out.out.cell (p := ⟨b, off + i * 6 + 1, none⟩) hbq).trans k1
        replace k2 := (FR.out.out.cell (p := ⟨b, off + i * 6 + 2, none⟩) hbq).trans k2
        replace k3 := (FR.out.out.cell (p := ⟨b, off + i * 6 + 3, none⟩) hbq).trans k3
        replace k4 := (FR.out.out.cell (p := ⟨b, off + i * 6 + 4, none⟩) hbq).trans k4
        replace k5 := (FR.out.out.cell (p := ⟨b, off + i * 6 + 5, none⟩) hbq).trans k5
        have hqz : q < wr.heap.size := by have := FR.out.sz; simp only [List.length_cons, List.length_nil] at this; omega
        have hlt : out.length < n := by have := HLN.out; simp at this; omega
        clear hstep g0 g1 g2 h1 hbad h4 HP HW
        generalize ndAt ns (i : Int) = r at *
        have hne := node_neq r (empN r.l)
        rw [decide_eq_false (fun h => h g3)] at hne
        unfold empN at hne
        clear g3
        have c00 : wr.cell? ⟨q, 0, none⟩ = some (.slice (some ⟨b, off, none⟩) n c) := FR.out.cell 0 0 rfl rfl rfl
        have c01 : wr.cell? ⟨q, 1, none⟩ = some (.int .i64 rt) := FR.out.cell 0 1 rfl rfl rfl
        have c02 : wr.cell? ⟨q, 2, none⟩ = some (.int .i64 fr) := FR.out.cell 0 2 rfl rfl rfl
        go_wp2
        refine wp_region_noPanic ?_
        refine wp_region_held_drew (S := (fun wv => Hid (Below wr.heap.size wr wv))) (by kernel_rfl) (Lib.hid (Below.refl _ wr).drew) (fun hS => ?_)
        refine wpAnyH_take (i := 0) (oi := ⟨some 16, .move (.tmp 5), 3, "ref.go:35", #[], none⟩) (v := ?_) rfl (by kernel_rfl) (by kernel_rfl) (by kernel_rfl) (fun _ _ _ h => h) (Or.inl ⟨by rfl, ?_⟩) hS ?_
        rotate_left
        · intro wv _; go_simp; try with_reducible rfl
        try simp only [Act.put, List.setIfInBounds_toArray, List.set_cons_zero, List.set_cons_succ]
        refine wpAnyH_take (i := 1) (oi := ⟨some 17, .binOp .lss 3 (.tmp 16) (.const (Value.int IntKind.i64 0)) 3, 4, "ref.go:35", #[⟨0, .data⟩], none⟩) (v := ?_) rfl (by kernel_rfl) (by kernel_rfl) (by kernel_rfl) (fun _ _ _ h => h) (Or.inl ⟨by rfl, ?_⟩) hS ?_
        rotate_left
        · intro wv _; go_simp; try with_reducible rfl
        try simp only [Act.put, List.setIfInBounds_toArray, List.set_cons_zero, List.set_cons_succ]
        refine wpAnyH_take (i := 2) (oi := ⟨some 18, .move (.tmp 17), 4, "ref.go:35", #[⟨1, .data⟩], none⟩) (v := ?_) rfl (by kernel_rfl) (by kernel_rfl) (by kernel_rfl) (fun _ _ _ h => h) (Or.inl ⟨by rfl, ?_⟩) hS ?_
        rotate_left
        · intro wv _; go_simp; try with_reducible rfl
        try simp only [Act.put, List.setIfInBounds_toArray, List.set_cons_zero, List.set_cons_succ]
        refine wpAnyH_take (i := 3) (oi := ⟨some 19, .move (.tmp 5), 3, "ref.go:35", #[⟨2, .guard⟩], some (2, false)⟩) (v := ?_) rfl (by kernel_rfl) (by kernel_rfl) (by kernel_rfl) (fun _ _ _ h => h) (Or.inl ⟨by rfl, ?_⟩) hS ?_
        rotate_left
        · intro wv _; go_simp; try with_reducible rfl
        try simp only [Act.put, List.setIfInBounds_toArray, List.set_cons_zero, List.set_cons_succ]
        refine wpAnyH_take (i := 4) (oi := ⟨some 20, .fieldAddr 24 (.tmp 1) 0, 0, "ref.go:35", #[⟨2, .guard⟩], some (2, false)⟩) (v := ?_) rfl (by kernel_rfl) (by kernel_rfl) (by kernel_rfl) (fun _ _ _ h => h) (Or.inl ⟨by rfl, ?_⟩) hS ?_
        rotate_left
        · intro wv _; go_simp; try with_reducible rfl
        try simp only [Act.put, List.setIfInBounds_toArray, List.set_cons_zero, List.set_cons_succ]
        refine wpAnyH_take (i := 5) (oi := ⟨some 21, .load 22 (.tmp 20), 22, "ref.go:35", #[⟨4, .data⟩, ⟨2, .guard⟩], some (2, false)⟩) (v := ?_) rfl (by kernel_rfl) (by kernel_rfl) (by kernel_rfl) (fun _ _ _ h => h) (Or.inl ⟨by rfl, ?_⟩) hS ?_
        rotate_left
        · intro wv hS; have hrun := (hS.out.cell (p := ⟨q, 0, none⟩) hqz).trans c00; go_simp; try with_reducible rfl
        try simp only [Act.put, List.setIfInBounds_toArray, List.set_cons_zero, List.set_cons_succ]
        refine wpAnyH_take (i := 6) (oi := ⟨some 22, .call { callee := .builtin .len, args := #[.tmp 21], argTypes := #[22] }, 3, "ref.go:35", #[⟨5, .data⟩, ⟨2, .guard⟩], some (2, false)⟩) (v := ?_) rfl (by kernel_rfl) (by kernel_rfl) (by kernel_rfl) (fun _ _ _ h => h) (Or.inl ⟨by rfl, ?_⟩) hS ?_
        rotate_left
        · intro wv _; go_simp; try with_reducible rfl
        try simp only [Act.put, List.setIfInBounds_toArray, List.set_cons_zero, List.set_cons_succ]
        refine wpAnyH_take (i := 7) (oi := ⟨some 23, .binOp .geq 3 (.tmp 19) (.tmp 22) 3, 4, "ref.go:35", #[⟨3, .data⟩, ⟨6, .data⟩, ⟨2, .guard⟩], some (2, false)⟩) (v := ?_) rfl (by kernel_rfl) (by kernel_rfl) (by kernel_rfl) (fun _ _ _ h => h) (Or.inl ⟨by rfl, ?_⟩) hS ?_
        rotate_left
        · intro wv _; go_simp; try with_reducible rfl
        try simp only [Act.put, List.setIfInBounds_toArray, List.set_cons_zero, List.set_cons_succ]
        refine wpAnyH_take (i := 8) (oi := ⟨some 24, .pick (.tmp 18) (.const (Value.bool true)) (.tmp 23), 4, "ref.go:35", #[⟨2, .data⟩, ⟨7, .data⟩], none⟩) (v := ?_) rfl (by kernel_rfl) (by kernel_rfl) (by kernel_rfl) (fun _ _ _ h => h) (Or.inl ⟨by rfl, ?_⟩) hS ?_
        rotate_left
        · intro wv _; go_simp; try with_reducible rfl
        try simp only [Act.put, List.setIfInBounds_toArray, List.set_cons_zero, List.set_cons_succ]
        refine wpAnyH_take (i := 9) (oi := ⟨some 25, .move (.tmp 24), 4, "ref.go:35", #[⟨8, .data⟩, ⟨2, .chain⟩], none⟩) (v := ?_) rfl (by kernel_rfl) (by kernel_rfl) (by kernel_rfl) (fun _ _ _ h => h) (Or.inl ⟨by rfl, ?_⟩) hS ?_
        rotate_left
        · intro wv _; go_simp; try with_reducible rfl
        try simp only [Act.put, List.setIfInBounds_toArray, List.set_cons_zero, List.set_cons_succ]
        refine wpAnyH_take (i := 10) (oi := ⟨some 26, .move (.tmp 4), 38, "ref.go:35", #[⟨9, .guard⟩], some (9, false)⟩) (v := ?_) rfl (by kernel_rfl) (by kernel_rfl) (by kernel_rfl) (fun _ _ _ h => h) (Or.inl ⟨by rfl, ?_⟩) hS ?_
        rotate_left
        · intro wv _; go_simp; try with_reducible rfl
        try simp only [Act.put, List.setIfInBounds_toArray, List.set_cons_zero, List.set_cons_succ]
        refine wpAnyH_take (i := 11) (oi := ⟨some 27, .move (.tmp 5), 3, "ref.go:35", #[⟨9, .guard⟩], some (9, false)⟩) (v := ?_) rfl (by kernel_rfl) (by kernel_rfl) (by kernel_rfl) (fun _ _ _ h => h) (Or.inl ⟨by rfl, ?_⟩) hS ?_
        rotate_left
        · intro wv _; go_simp; try with_reducible rfl
        try simp only [Act.put, List.setIfInBounds_toArray, List.set_cons_zero, List.set_cons_succ]
        refine wpAnyH_ready (rs := [12]) (by kernel_rfl) (by simp) (AllReadyH.cons (o := ⟨some 28, .call { callee := .value (.func 50), args := #[.tmp 26, .tmp 27], argTypes := #[38, 3] }, 4, "ref.go:35", #[⟨10, .data⟩, ⟨11, .data⟩, ⟨9, .chain⟩, ⟨9, .guard⟩], some (9, false)⟩) rfl (fun K hK => ?_) AllReadyH.nil)
        go_simp
        refine (HH.out _ (Es.below HIS.out hS.out)).mono ?_; rintro e wa ⟨rfl, rfl⟩
        go_wp2_with fail
        refine Shut.out hK _ _ hS (fun _ => ?_)
        clear hK K
        try simp only [Act.put, List.setIfInBounds_toArray, List.set_cons_zero, List.set_cons_succ]
        refine wpAnyH_take (i := 13) (oi := ⟨some 29, .pick (.tmp 25) (.const (Value.bool true)) (.tmp 28), 4, "ref.go:35", #[⟨9, .data⟩, ⟨12, .data⟩], none⟩) (v := ?_) rfl (by kernel_rfl) (by kernel_rfl) (by kernel_rfl) (fun _ _ _ h => h) (Or.inl ⟨by rfl, ?_⟩) hS ?_
        rotate_left
        · intro wv _; go_simp; try with_reducible rfl
        try simp only [Act.put, List.setIfInBounds_toArray, List.set_cons_zero, List.set_cons_succ]
        refine wpAnyH_take (i := 14) (oi := ⟨some 30, .move (.tmp 29), 4, "ref.go:35", #[⟨13, .data⟩, ⟨12, .chain⟩], none⟩) (v := ?_) rfl (by kernel_rfl) (by kernel_rfl) (by kernel_rfl) (fun _ _ _ h => h) (Or.inl ⟨by rfl, ?_⟩) hS ?_
        rotate_left
        · intro wv _; go_simp; try with_reducible rfl
        try simp only [Act.put, List.setIfInBounds_toArray, List.set_cons_zero, List.set_cons_succ]
        refine wpAnyH_take (i := 15) (oi := ⟨some 31, .fieldAddr 24 (.tmp 1) 0, 0, "ref.go:35", #[⟨14, .guard⟩], some (14, false)⟩) (v := ?_) rfl (by kernel_rfl) (by kernel_rfl) (by kernel_rfl) (fun _ _ _ h => h) (Or.inl ⟨by rfl, ?_⟩) hS ?_
        rotate_left
        · intro wv _; go_simp; try with_reducible rfl
        try simp only [Act.put, List.setIfInBounds_toArray, List.set_cons_zero, List.set_cons_succ]
        refine wpAnyH_take (i := 16) (oi := ⟨some 32, .load 22 (.tmp 31), 22, "ref.go:35", #[⟨15, .data⟩, ⟨14, .guard⟩], some (14, false)⟩) (v := ?_) rfl (by kernel_rfl) (by kernel_rfl) (by kernel_rfl) (fun _ _ _ h => h) (Or.inl ⟨by rfl, ?_⟩) hS ?_
        rotate_left
        · intro wv hS; have hrun := (hS.out.cell (p := ⟨q, 0, none⟩) hqz).trans c00; go_simp; try with_reducible rfl
        try simp only [Act.put, List.setIfInBounds_toArray, List.set_cons_zero, List.set_cons_succ]
        refine wpAnyH_take (i := 17) (oi := ⟨some 33, .move (.tmp 5), 3, "ref.go:35", #[⟨14, .guard⟩], some (14, false)⟩) (v := ?_) rfl (by kernel_rfl) (by kernel_rfl) (by kernel_rfl) (fun _ _ _ h => h) (Or.inl ⟨by rfl, ?_⟩) hS ?_
        rotate_left
        · intro wv _; go_simp; try with_reducible rfl
        try simp only [Act.put, List.setIfInBounds_toArray, List.set_cons_zero, List.set_cons_succ]
        refine wpAnyH_take (i := 18) (oi := ⟨some 34, .indexAddr 22 (.tmp 32) (.tmp 33), 0, "ref.go:35", #[⟨16, .data⟩, ⟨17, .data⟩, ⟨14, .guard⟩], some (14, false)⟩) (v := ?_) rfl (by kernel_rfl) (by kernel_rfl) (by kernel_rfl) (fun _ _ _ h => h) (Or.inl ⟨by rfl, ?_⟩) hS ?_
        rotate_left
        · intro wv _; go_simp; try with_reducible rfl
        try simp only [Act.put, List.setIfInBounds_toArray, List.set_cons_zero, List.set_cons_succ]
        refine wpAnyH_take (i := 19) (oi := ⟨some 35, .load 52 (.tmp 34), 52, "ref.go:35", #[⟨18, .data⟩, ⟨14, .guard⟩], some (14, false)⟩) (v := .agg (([.int .i64 r.k, .int .u32 r.p, .int .i64 r.l, .int .i64 r.r, .int .i64 r.h, .int .i64 r.t] : List Value)).toArray) rfl (by kernel_rfl) (by kernel_rfl) (by kernel_rfl) (fun _ _ _ h => h) (yieldsIf_load_mid (by rfl) _ _ (by rfl) (b) (off + i * 6) (by rfl) (([.int .i64 r.k, .int .u32 r.p, .int .i64 r.l, .int .i64 r.r, .int .i64 r.h, .int .i64 r.t] : List Value)) _ (fun wv hS => nd_range (hS.out.cell (p := ⟨b, off + i * 6, none⟩) hb0 |>.trans k0) (hS.out.cell (p := ⟨b, off + i * 6 + 1, none⟩) hb0 |>.trans k1) (hS.out.cell (p := ⟨b, off + i * 6 + 2, none⟩) hb0 |>.trans k2) (hS.out.cell (p := ⟨b, off + i * 6 + 3, none⟩) hb0 |>.trans k3) (hS.out.cell (p := ⟨b, off + i * 6 + 4, none⟩) hb0 |>.trans k4) (hS.out.cell (p := ⟨b, off + i * 6 + 5, none⟩) hb0 |>.trans k5)) Try.underlying52 (by rfl) (by kernel_rfl)) hS ?_
        try simp only [Act.put, List.setIfInBounds_toArray, List.set_cons_zero, List.set_cons_succ]
        refine wpAnyH_take (i := 20) (oi := ⟨some 36, .fieldAddr 24 (.tmp 1) 0, 0, "ref.go:35", #[⟨14, .guard⟩], some (14, false)⟩) (v := ?_) rfl (by kernel_rfl) (by kernel_rfl) (by kernel_rfl) (fun _ _ _ h => h) (Or.inl ⟨by rfl, ?_⟩) hS ?_
        rotate_left
        · intro wv _; go_simp; try with_reducible rfl
        try simp only [Act.put, List.setIfInBounds_toArray, List.set_cons_zero, List.set_cons_succ]
        refine wpAnyH_take (i := 21) (oi := ⟨some 37, .load 22 (.tmp 36), 22, "ref.go:35", #[⟨20, .data⟩, ⟨14, .guard⟩], some (14, false)⟩) (v := ?_) rfl (by kernel_rfl) (by kernel_rfl) (by kernel_rfl) (fun _ _ _ h => h) (Or.inl ⟨by rfl, ?_⟩) hS ?_
        rotate_left
        · intro wv hS; have hrun := (hS.out.cell (p := ⟨q, 0, none⟩) hqz).trans c00; go_simp; try with_reducible rfl
        try simp only [Act.put, List.setIfInBounds_toArray, List.set_cons_zero, List.set_cons_succ]
        refine wpAnyH_take (i := 22) (oi := ⟨some 38, .move (.tmp 5), 3, "ref.go:35", #[⟨14, .guard⟩], some (14, false)⟩) (v := ?_) rfl (by kernel_rfl) (by kernel_rfl) (by kernel_rfl) (fun _ _ _ h => h) (Or.inl ⟨by rfl, ?_⟩) hS ?_
        rotate_left
        · intro wv _; go_simp; try with_reducible rfl
        try simp only [Act.put, List.setIfInBounds_toArray, List.set_cons_zero, List.set_cons_succ]
        refine wpAnyH_take (i := 23) (oi := ⟨some 39, .indexAddr 22 (.tmp 37) (.tmp 38), 0, "ref.go:35", #[⟨21, .data⟩, ⟨22, .data⟩, ⟨14, .guard⟩], some (14, false)⟩) (v := ?_) rfl (by kernel_rfl) (by kernel_rfl) (by kernel_rfl) (fun _ _ _ h => h) (Or.inl ⟨by rfl, ?_⟩) hS ?_
        rotate_left
        · intro wv _; go_simp; try with_reducible rfl
        try simp only [Act.put, List.setIfInBounds_toArray, List.set_cons_zero, List.set_cons_succ]
        refine wpAnyH_take (i := 24) (oi := ⟨some 40, .fieldAddr 52 (.tmp 39) 2, 0, "ref.go:35", #[⟨23, .data⟩, ⟨14, .guard⟩], some (14, false)⟩) (v := ?_) rfl (by kernel_rfl) (by kernel_rfl) (by kernel_rfl) (fun _ _ _ h => h) (Or.inl ⟨by rfl, ?_⟩) hS ?_
        rotate_left
        · intro wv _; go_simp; try with_reducible rfl
        try simp only [Act.put, List.setIfInBounds_toArray, List.set_cons_zero, List.set_cons_succ]
        refine wpAnyH_take (i := 25) (oi := ⟨some 41, .load 3 (.tmp 40), 3, "ref.go:35", #[⟨24, .data⟩, ⟨14, .guard⟩], some (14, false)⟩) (v := ?_) rfl (by kernel_rfl) (by kernel_rfl) (by kernel_rfl) (fun _ _ _ h => h) (Or.inl ⟨by rfl, ?_⟩) hS ?_
        rotate_left
        · intro wv hS; have hrun := (hS.out.cell (p := ⟨b, off + i * 6 + 2, none⟩) hb0).trans k2; go_simp; try with_reducible rfl
        try simp only [Act.put, List.setIfInBounds_toArray, List.set_cons_zero, List.set_cons_succ]
        refine wpAnyH_ready (rs := [26]) (by kernel_rfl) (by simp) (AllReadyH.cons (o := ⟨some 42, .call { callee := .value (.func 36), args := #[.tmp 41], argTypes := #[3] }, 52, "ref.go:35", #[⟨25, .data⟩, ⟨14, .chain⟩, ⟨14, .guard⟩], some (14, false)⟩) rfl (fun K hK => ?_) AllReadyH.nil)
        go_simp
        refine (refEmpty_any r.l _).mono ?_; rintro e wb ⟨rfl, hb⟩
        replace hS := Lib.hid (hS.out.trans (hb.mono hS.out.size))
        clear hb
        go_wp2_with fail
        refine Shut.out hK _ _ hS (fun _ => ?_)
        clear hK K
        try simp only [Act.put, List.setIfInBounds_toArray, List.set_cons_zero, List.set_cons_succ]
        refine wpAnyH_take (i := 27) (oi := ⟨some 43, .binOp .neq 52 (.tmp 35) (.tmp 42) 52, 4, "ref.go:35", #[⟨19, .data⟩, ⟨26, .data⟩, ⟨14, .guard⟩], some (14, false)⟩) (v := ?_) rfl (by kernel_rfl) (by kernel_rfl) (by kernel_rfl) (fun _ _ _ h => h) (Or.inl ⟨by rfl, ?_⟩) hS ?_
        rotate_left
        · intro wv _; go_simp; try with_reducible rfl
        try simp only [Act.put, List.setIfInBounds_toArray, List.set_cons_zero, List.set_cons_succ]
        refine wpAnyH_take (i := 28) (oi := ⟨some 44, .pick (.tmp 30) (.const (Value.bool true)) (.tmp 43), 4, "ref.go:35", #[⟨14, .data⟩, ⟨27, .data⟩], none⟩) (v := ?_) rfl (by kernel_rfl) (by kernel_rfl) (by kernel_rfl) (fun _ _ _ h => h) (Or.inl ⟨by rfl, ?_⟩) hS ?_
        rotate_left
        · intro wv _; go_simp; try with_reducible rfl
        try simp only [Act.put, List.setIfInBounds_toArray, List.set_cons_zero, List.set_cons_succ]
        refine wpAnyH_done (by kernel_rfl) ?_ _
        refine NoPanic.normal ?_
        clear c00 c01 c02
        have hb := hS.out
        replace FR := Lib.hid (FR.out.step hb)
        replace OW := Lib.hid (own_below OW.out hb)
        have hsz := FR.out.sz
        simp only [List.length_cons, List.length_nil] at hsz
        obtain ⟨A4, c4, w9, hap4, hown4, hbel4⟩ := eapp_lit (P := Try.prog) (ty := 38) (w0 := wb) Try.underlying38 HI.out HZ0.out HZ1.out HZ2.out rfl (by decide) OW.out (intC_one _) (intC [(i : Int)]) (intC_one _) (m := 1) rfl (by unfold maxLen; omega) (by omega) (Below.refl _ _) (by omega)
        rw [← intC_app] at hown4
        have fr4 : Fr w w9 q [.cells #[.slice (some ⟨b, off, none⟩) n c, .int .i64 rt, .int .i64 fr] 24] := ⟨fun k o hk => (hbel4.block (q + k) (by have : k < 1 := (List.getElem?_eq_some_iff.1 hk).1; omega)).trans (FR.out.blk k o hk), FR.out.bel.trans (hbel4.mono (by omega)), by have := hbel4.size; simp only [List.length_cons, List.length_nil]; omega, FR.out.q0⟩
        have hbw := FR.out.out
        have k29 := (hbel4.cell (p := ⟨b, off + i * 6 + 2, none⟩) (show b < q + 1 by omega)).trans ((hb.cell (p := ⟨b, off + i * 6 + 2, none⟩) hb0).trans k2)
        replace hap4 : (Builtin.append_ #[38, 38] 38 #[_, .slice (some ⟨wb.heap.size, 0, none⟩) 1 1]).run Try.prog (wb.alloc (.cells #[.int .i64 (i : Int)] 3)) = _ := hap4
        have HO4 := Lib.hid hown4; have FR4 := Lib.hid fr4
        have d00 : w9.cell? ⟨q, 0, none⟩ = some (.slice (some ⟨b, off, none⟩) n c) := FR4.out.cell 0 0 rfl rfl rfl
        clear hown4 hbel4 fr4 hb hbw k0 k1 k2 k3 k4 k5 hb0 OW hne hS
        go_wp2_with (at_builtin; refine eapp_run (by rfl) rfl rfl rfl hap4 ?_)
        go_roundw
        case rel => exact ⟨out ++ [(i : Int)], r.l, rfl, by simp [lenV], by rw [List.length_append]; exact HO4.out, FR4.out, HP2.out, by rw [List.length_append]; exact HW2.out⟩
        case measure => have := HLN.out; simp [lenV] at this ⊢; omega
/-- a treap whose nodes are the call's own. -/
def CopyPost9 (w : World) (n : Nat) (ns : List Nd) (rt fr : Int) (e : Ending) (w' : World) : Prop :=
  ∃ B d, e = .returned (.agg #[.slice B n d, .int .i64 rt, .int .i64 fr]) ∧ w'.ownsRow w.heap.size 52 6 (.slice B n d) n (ndC ns) ∧ Below w.heap.size w w'
set_option maxRecDepth 100000 in
set_option maxHeartbeats 4000000 in
theorem refCopy9_any (A : Option Addr) (n c : Nat) (ns : List Nd) (rt fr : Int) (w : World) (hx : Ns w A n c ns) (hn : n ≤ 16384) :
    Calls Try.prog 8 #[.agg #[.slice A n c, .int .i64 rt, .int .i64 fr]] w (CopyPost9 w n ns rt fr) := by
  obtain ⟨i5, hi5, hz0, hz1, hz2⟩ := info_of infoNode
  have RX := Lib.hid hx
  clear hx
  obtain ⟨v1, hv1⟩ : ∃ W, w.alloc (.cells #[.slice A n c, .int .i64 rt, .int .i64 fr] 24) = W := ⟨_, rfl⟩
  have fr1 : Fr w v1 w.heap.size [.cells #[.slice A n c, .int .i64 rt, .int .i64 fr] 24] := hv1 ▸ Fr.first w _
  have z1 : v1.heap.size = w.heap.size + 1 := by rw [← hv1, Fr.size1]
  obtain ⟨v2, hv2⟩ : ∃ W, v1.alloc (.cells #[.slice none 0 0, .int .i64 0, .int .i64 0] 24) = W := ⟨_, rfl⟩
  have fr2 : Fr w v2 w.heap.size [.cells #[.slice A n c, .int .i64 rt, .int .i64 fr] 24, .cells #[.slice none 0 0, .int .i64 0, .int .i64 0] 24] := hv2 ▸ fr1.more z1 _
  have z2 : v2.heap.size = w.heap.size + 2 := by rw [← hv2, Fr.size1, z1]
  generalize hq : w.heap.size = q at *
  have FR := Lib.hid fr2
  clear fr1 fr2
  have own0 : (v2.drew.alloc (.cells #[] 52)).ownsRow (q + 2) 52 6 (.slice (some ⟨v2.drew.heap.size, 0, none⟩) 0 0) 0 [] := World.ownsRow_lit v2.drew #[] 0 (by show q + 2 ≤ v2.heap.size; omega) (by unfold maxLen; omega) (by simp)
  obtain ⟨v, w3, hap, hown, hgr, hvk⟩ := eapp_own (P := Try.prog) (v2.drew.alloc (.cells #[] 52)) (q + 2) 22 22 52 i5 _ 6 48 Try.underlying22 hi5 hz0 hz1 hz2 rfl (by decide) _ 0 _ own0 A n c _ (Es.alloc (Es.drew (FR.out.es RX.out)) _) (by unfold maxLen; omega) (by omega) (by simp; omega)
  rw [Nat.zero_add, List.nil_append] at hown
  have hb3 : Below (q + 2) v2 w3 := ((Below.refl _ _).drew.alloc (by show q + 2 ≤ v2.heap.size; omega) _).grown hgr (by simp; omega) (by simp [Value.ownBlock]; omega)
  obtain ⟨B, d, rfl, _⟩ := (show ∃ B d, v = .slice B n d ∧ True from by obtain ⟨B, d, h, _⟩ := Es.of_own hown (ndC_one _); exact ⟨B, d, h, trivial⟩)
  rw [show v2.drew.heap.size = q + 2 from z2] at hap
  have FR3 := Lib.hid (FR.out.step (show Below v2.heap.size v2 w3 by rw [z2]; exact hb3))
  have OW := Lib.hid hown; have HB3 := Lib.hid hb3; have HZ := Lib.hid z2
  clear hown hgr hb3 own0 hi5 hz0 hz1 hz2 hvk
  have c00 : v2.cell? ⟨q, 0, none⟩ = some (.slice A n c) := FR.out.cell 0 0 rfl rfl rfl
  have c01 : v2.cell? ⟨q, 1, none⟩ = some (.int .i64 rt) := FR.out.cell 0 1 rfl rfl rfl
  have c02 : v2.cell? ⟨q, 2, none⟩ = some (.int .i64 fr) := FR.out.cell 0 2 rfl rfl rfl
  go_enter Try.func8, Try.ntmps8
  go_wp2
  refine wp_region_noPanic ?_
  refine wp_region_held_drew (S := (fun wv => Below (q + 1) v2 wv)) (by kernel_rfl) ((Below.refl (q + 1) v2).drew) (fun hS => ?_)
  refine wpAnyH_take (i := 1) (oi := ⟨some 4, .fieldAddr 24 (.tmp 1) 0, 0, "ref.go:45", #[], none⟩) (v := ?_) rfl (by kernel_rfl) (by kernel_rfl) (by kernel_rfl) (fun _ _ _ h => h) (Or.inl ⟨by rfl, ?_⟩) hS ?_
  rotate_left
  · intro wv _; go_simp; try with_reducible rfl
  try simp only [Act.put, List.setIfInBounds_toArray, List.set_cons_zero, List.set_cons_succ]
  refine wpAnyH_take (i := 2) (oi := ⟨some 5, .load 22 (.tmp 4), 22, "ref.go:45", #[⟨1, .data⟩], none⟩) (v := ?_) rfl (by kernel_rfl) (by kernel_rfl) (by kernel_rfl) (fun _ _ _ h => h) (Or.inl ⟨by rfl, ?_⟩) hS ?_
  rotate_left
  · intro wv hS; have hrun := (hS.cell (p := ⟨q, 0, none⟩) (by simp only; omega)).trans c00; go_simp; try with_reducible rfl
  try simp only [Act.put, List.setIfInBounds_toArray, List.set_cons_zero, List.set_cons_succ]
  refine wpAnyH_take (i := 4) (oi := ⟨some 7, .fieldAddr 24 (.tmp 1) 1, 0, "ref.go:45", #[], none⟩) (v := ?_) rfl (by kernel_rfl) (by kernel_rfl) (by kernel_rfl) (fun _ _ _ h => h) (Or.inl ⟨by rfl, ?_⟩) hS ?_
  rotate_left
  · intro wv _; go_simp; try with_reducible rfl
  try simp only [Act.put, List.setIfInBounds_toArray, List.set_cons_zero, List.set_cons_succ]
  refine wpAnyH_take (i := 5) (oi := ⟨some 8, .load 3 (.tmp 7), 3, "ref.go:45", #[⟨4, .data⟩], none⟩) (v := ?_) rfl (by kernel_rfl) (by kernel_rfl) (by kernel_rfl) (fun _ _ _ h => h) (Or.inl ⟨by rfl, ?_⟩) hS ?_
  rotate_left
  · intro wv hS; have hrun := (hS.cell (p := ⟨q, 1, none⟩) (by simp only; omega)).trans c01; go_simp; try with_reducible rfl
  try simp only [Act.put, List.setIfInBounds_toArray, List.set_cons_zero, List.set_cons_succ]
  refine wpAnyH_take (i := 6) (oi := ⟨some 9, .fieldAddr 24 (.tmp 1) 2, 0, "ref.go:45", #[], none⟩) (v := ?_) rfl (by kernel_rfl) (by kernel_rfl) (by kernel_rfl) (fun _ _ _ h => h) (Or.inl ⟨by rfl, ?_⟩) hS ?_
  rotate_left
  · intro wv _; go_simp; try with_reducible rfl
  try simp only [Act.put, List.setIfInBounds_toArray, List.set_cons_zero, List.set_cons_succ]
  refine wpAnyH_take (i := 7) (oi := ⟨some 10, .load 3 (.tmp 9), 3, "ref.go:45", #[⟨6, .data⟩], none⟩) (v := ?_) rfl (by kernel_rfl) (by kernel_rfl) (by kernel_rfl) (fun _ _ _ h => h) (Or.inl ⟨by rfl, ?_⟩) hS ?_
  rotate_left
  · intro wv hS; have hrun := (hS.cell (p := ⟨q, 2, none⟩) (by simp only; omega)).trans c02; go_simp; try with_reducible rfl
  try simp only [Act.put, List.setIfInBounds_toArray, List.set_cons_zero, List.set_cons_succ]
  refine wpAnyH_ready (rs := [0]) (by kernel_rfl) (by simp) (AllReadyH.cons (o := ⟨some 3, .buildSlice 22 0 #[], 22, "ref.go:45", #[], none⟩) rfl (fun K hK => ?_) AllReadyH.nil)
  go_simp
  replace hS := hS.alloc (by show q + 1 ≤ v2.heap.size; have := HZ.out; omega) (.cells #[] 52)
  refine Shut.out hK _ _ hS (fun _ => ?_)
  clear hK K
  try simp only [Act.put, List.setIfInBounds_toArray, List.set_cons_zero, List.set_cons_succ]
  refine wpAnyH_ready (rs := [3]) (by kernel_rfl) (by simp) (AllReadyH.cons (o := ⟨some 6, .call { callee := .builtin .append, args := #[.tmp 3, .tmp 5], argTypes := #[22, 22] }, 22, "ref.go:45", #[⟨0, .data⟩, ⟨2, .data⟩], none⟩) rfl (fun K hK => ?_) AllReadyH.nil)
  refine op_app_run7 (by rfl) rfl rfl rfl hap ?_
  replace hS := HB3.out.mono (show q + 1 ≤ q + 2 by omega)
  replace FR := FR3
  clear c00 c01 c02
  have c10 : w3.cell? ⟨q + 1, 0, none⟩ = some (.slice none 0 0) := FR.out.cell 1 0 rfl rfl rfl
  have f10 : w3.frozen? ⟨q + 1, 0, none⟩ = false := FR.out.frozen 1 0 rfl rfl
  have c11 : w3.cell? ⟨q + 1, 1, none⟩ = some (.int .i64 0) := FR.out.cell 1 1 rfl rfl rfl
  have f11 : w3.frozen? ⟨q + 1, 1, none⟩ = false := FR.out.frozen 1 1 rfl rfl
  have c12 : w3.cell? ⟨q + 1, 2, none⟩ = some (.int .i64 0) := FR.out.cell 1 2 rfl rfl rfl
  have f12 : w3.frozen? ⟨q + 1, 2, none⟩ = false := FR.out.frozen 1 2 rfl rfl
  refine Shut.out hK _ _ hS (fun _ => ?_)
  clear hK K
  try simp only [Act.put, List.setIfInBounds_toArray, List.set_cons_zero, List.set_cons_succ]
  refine wpAnyH_take (i := 8) (oi := ⟨some 11, .build 24 #[(0, .tmp 6), (1, .tmp 8), (2, .tmp 10)], 24, "ref.go:45", #[⟨3, .data⟩, ⟨5, .data⟩, ⟨7, .data⟩], none⟩) (v := ?_) rfl (by kernel_rfl) (by kernel_rfl) (by kernel_rfl) (fun _ _ _ h => h) (Or.inl ⟨by rfl, ?_⟩) hS ?_
  rotate_left
  · intro wv _; go_simp; try with_reducible rfl
  try simp only [Act.put, List.setIfInBounds_toArray, List.set_cons_zero, List.set_cons_succ]
  refine wpAnyH_ready (rs := [9]) (by kernel_rfl) (by simp) (AllReadyH.cons (o := ⟨none, .store 24 (.tmp 2) (.tmp 11), 0, "ref.go:45", #[⟨8, .data⟩, ⟨3, .chain⟩, ⟨0, .phase⟩, ⟨1, .phase⟩, ⟨2, .phase⟩, ⟨3, .phase⟩, ⟨4, .phase⟩, ⟨5, .phase⟩, ⟨6, .phase⟩, ⟨7, .phase⟩, ⟨8, .phase⟩], none⟩) rfl (fun K hK => ?_) AllReadyH.nil)
  go_simp
  replace hS := ((hS.setCell (by simp) (p := ⟨q + 1, 0, none⟩) (.slice B n d)).setCell (by simp) (p := ⟨q + 1, 1, none⟩) (.int .i64 rt)).setCell (by simp) (p := ⟨q + 1, 2, none⟩) (.int .i64 fr)
  refine Shut.out hK _ _ hS (fun _ => ?_)
  clear hK K
  try simp only [Act.put, List.setIfInBounds_toArray, List.set_cons_zero, List.set_cons_succ]
  refine wpAnyH_done (by kernel_rfl) ?_ _
  refine NoPanic.normal ?_
  go_wp2
  have FZ : Fr w (((w3.setCell ⟨q + 1, 0, none⟩ (.slice B n d)).setCell ⟨q + 1, 1, none⟩ (.int .i64 rt)).setCell ⟨q + 1, 2, none⟩ (.int .i64 fr)) q [.cells #[.slice A n c, .int .i64 rt, .int .i64 fr] 24, .cells #[.slice B n d, .int .i64 rt, .int .i64 fr] 24] := (((FR.out.set 1 0 rfl rfl (.slice B n d)).set 1 1 rfl rfl (.int .i64 rt)).set 1 2 rfl rfl (.int .i64 fr))
  refine bodyPost_ret (res_c Try.results8 (by rfl) (FZ.load 1 rfl rfl Try.underlying24 (by kernel_rfl))) rfl ?_
  exact ⟨_, _, rfl, own_base (own_apart (own_apart (own_apart (OW.out) (k := q + 1) (o := 0) (u := .slice B n d) (by omega)) (k := q + 1) (o := 1) (u := .int .i64 rt) (by omega)) (k := q + 1) (o := 2) (u := .int .i64 fr) (by omega)) (by rw [hq]; omega), FZ.out⟩
end Go.Proofs.Ytfgfohomgomidaa
