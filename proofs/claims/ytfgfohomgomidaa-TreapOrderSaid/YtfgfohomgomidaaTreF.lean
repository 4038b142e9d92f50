/- What the document's own Place and Find of layer 9 answer; for slices of up to 16384 nodes. -/
import Derived.Test.YtfgfohomgomidaaTreG
import Derived.Handy
namespace Go.Proofs.Ytfgfohomgomidaa
set_option linter.unusedVariables false
set_option linter.unusedSimpArgs false
open Go.RowKit

theorem placeN_hit {ns : List Nd} {key : Int} {f i : Nat} (hf : 0 < f) (h : (ndAt ns i).k = key ∧ 0 ≤ key) : placeN ns key f i = i := by
  obtain ⟨g, rfl⟩ : ∃ g, f = g + 1 := ⟨f - 1, by omega⟩
  unfold placeN; rw [if_pos h]
theorem placeN_skip {ns : List Nd} {key : Int} {f g i : Nat} (hf : f = g + 1) (h : ¬ ((ndAt ns i).k = key ∧ 0 ≤ key)) : placeN ns key f i = placeN ns key g (i + 1) := by
  subst hf
  conv => lhs; unfold placeN
  rw [if_neg h]
theorem placeT_in {ns : List Nd} {key : Int} (h : 0 ≤ placeT ns key) : placeT ns key < (ns.length : Int) := by
  have : ∀ {f i : Nat}, i + f ≤ ns.length → 0 ≤ placeN ns key f i → placeN ns key f i < (ns.length : Int) := by
    intro f
    induction f with
    | zero => intro i _ h; unfold placeN at h; omega
    | succ f ih =>
      intro i hi h
      unfold placeN at h ⊢
      split
      · omega
      · rename_i hh; rw [if_neg hh] at h; exact ih (by omega) h
  exact this (by omega) h
theorem findN_end {ns : List Nd} {key looks : Int} {f : Nat} (hf : 0 < f) : findN ns key f (-1) looks = (0, looks, false) := by
  obtain ⟨g, rfl⟩ : ∃ g, f = g + 1 := ⟨f - 1, by omega⟩
  unfold findN; rw [if_pos rfl]
theorem findN_hit {ns : List Nd} {key looks at_ : Int} {f : Nat} (hf : 0 < f) (h0 : at_ ≠ -1) (h : (ndAt ns at_).k = key) : findN ns key f at_ looks = (at_, looks + 1, true) := by
  obtain ⟨g, rfl⟩ : ∃ g, f = g + 1 := ⟨f - 1, by omega⟩
  unfold findN; rw [if_neg h0, if_pos h]
theorem findN_step {ns : List Nd} {key looks at_ : Int} {f g : Nat} (hf : f = g + 1) (h0 : at_ ≠ -1) (h : (ndAt ns at_).k ≠ key) : findN ns key f at_ looks = findN ns key g (if key < (ndAt ns at_).k then (ndAt ns at_).l else (ndAt ns at_).r) (looks + 1) := by
  subst hf
  conv => lhs; unfold findN
  rw [if_neg h0, if_neg h]
def Num9 (w : World) (x : Int) (e : Ending) (w' : World) : Prop := e = .returned (.int .i64 x) ∧ Below w.heap.size w w'
set_option maxRecDepth 100000 in
set_option maxHeartbeats 4000000 in
theorem refPlace9_any (A : Option Addr) (n c : Nat) (ns : List Nd) (rt fr key : Int) (w : World) (hx : Ns w A n c ns) (hn : n ≤ 16384) :
    Calls Try.prog 30 #[.agg #[.slice A n c, .int .i64 rt, .int .i64 fr], .int .i64 key] w (Num9 w (placeT ns key)) := by
  have hlen := hx.len
  have RX := Lib.hid hx
  obtain ⟨R, hR⟩ : ∃ R, placeT ns key = R := ⟨_, rfl⟩
  rw [hR]
  have HR := Lib.hid (show R = placeN ns key (n - 0) 0 by rw [← hR, ← hlen]; rfl)
  clear hx hR hlen
  obtain ⟨v1, hv1⟩ : ∃ W, w.alloc (.cells #[.slice A n c, .int .i64 rt, .int .i64 fr] 24) = W := ⟨_, rfl⟩
  have fr1 : Fr w v1 w.heap.size [.cells #[.slice A n c, .int .i64 rt, .int .i64 fr] 24] := hv1 ▸ Fr.first w _
  have z1 : v1.heap.size = w.heap.size + 1 := by rw [← hv1, Fr.size1]
  generalize hq : w.heap.size = q at *
  have FR := Lib.hid fr1
  clear fr1
  have c00 : v1.cell? ⟨q, 0, none⟩ = some (.slice A n c) := FR.out.cell 0 0 rfl rfl rfl
  have c01 : v1.cell? ⟨q, 1, none⟩ = some (.int .i64 rt) := FR.out.cell 0 1 rfl rfl rfl
  have c02 : v1.cell? ⟨q, 2, none⟩ = some (.int .i64 fr) := FR.out.cell 0 2 rfl rfl rfl
  go_enter Try.func30, Try.ntmps30
  go_wp2
  clear c00 c01 c02
  clear hv1 z1
  go_loopw [5] (fun iv wr => ∃ i : Nat, iv = .int .i64 (i : Int) ∧ i ≤ n ∧ Hid (R = placeN ns key (n - i) i) ∧ Hid (Fr w wr q [.cells #[.slice A n c, .int .i64 rt, .int .i64 fr] 24])) (fun iv _ => n - (intOf iv).toNat)
  case atStart => exact ⟨0, rfl, by omega, HR.out, FR.out⟩
  case round =>
    clear FR HR
    obtain ⟨i, rfl, hi, HR, FR⟩ := hrel
    by_cases hlt : i < n
    · have b1 : decide ((i : Int) < (n : Int)) = true := by simpa using hlt
      have i0 : (0 : Int) ≤ (i : Int) := by omega
      have i1 : (i : Int) < (n : Int) := by omega
      obtain ⟨b, off, rfl, hb0, kx, _, _, _, _, _⟩ := Ns.look (ns := ns) (FR.out.es RX.out) i hlt
      clear hb0
      by_cases hk : (ndAt ns i).k = key
      · have b2 : ((ndAt ns i).k == key) = true := by simp [hk]
        by_cases h0 : 0 ≤ key
        · have b3 : decide (0 ≤ key) = true := by simpa using h0
          have HE := Lib.hid (show R = i by rw [HR.out]; exact placeN_hit (by omega) ⟨hk, h0⟩)
          clear hk h0 HR
          generalize (ndAt ns (i : Int)).k = ki at *
          have c00 : wr.cell? ⟨q, 0, none⟩ = some (.slice (some ⟨b, off, none⟩) n c) := FR.out.cell 0 0 rfl rfl rfl
          have c01 : wr.cell? ⟨q, 1, none⟩ = some (.int .i64 rt) := FR.out.cell 0 1 rfl rfl rfl
          have c02 : wr.cell? ⟨q, 2, none⟩ = some (.int .i64 fr) := FR.out.cell 0 2 rfl rfl rfl
          go_wp2
          go_ret
          rw [HE.out]
          exact ⟨rfl, FR.out.out⟩
        · have b3 : decide (0 ≤ key) = false := by simpa using h0
          have HR2 := Lib.hid (show R = placeN ns key (n - (i + 1)) (i + 1) by rw [HR.out]; exact placeN_skip (by omega) (fun h => h0 h.2))
          clear hk h0 HR
          generalize (ndAt ns (i : Int)).k = ki at *
          have c00 : wr.cell? ⟨q, 0, none⟩ = some (.slice (some ⟨b, off, none⟩) n c) := FR.out.cell 0 0 rfl rfl rfl
          have c01 : wr.cell? ⟨q, 1, none⟩ = some (.int .i64 rt) := FR.out.cell 0 1 rfl rfl rfl
          have c02 : wr.cell? ⟨q, 2, none⟩ = some (.int .i64 fr) := FR.out.cell 0 2 rfl rfl rfl
          go_wp2
          go_roundw
          case rel => exact ⟨i + 1, by go_num, by omega, HR2, FR⟩
          case measure => simp [intOf]; omega
      · have b2 : ((ndAt ns i).k == key) = false := by simp [hk]
        have HR2 := Lib.hid (show R = placeN ns key (n - (i + 1)) (i + 1) by rw [HR.out]; exact placeN_skip (by omega) (fun h => hk h.1))
        clear hk HR
        generalize (ndAt ns (i : Int)).k = ki at *
        have c00 : wr.cell? ⟨q, 0, none⟩ = some (.slice (some ⟨b, off, none⟩) n c) := FR.out.cell 0 0 rfl rfl rfl
        have c01 : wr.cell? ⟨q, 1, none⟩ = some (.int .i64 rt) := FR.out.cell 0 1 rfl rfl rfl
        have c02 : wr.cell? ⟨q, 2, none⟩ = some (.int .i64 fr) := FR.out.cell 0 2 rfl rfl rfl
        go_wp2
        go_roundw
        case rel => exact ⟨i + 1, by go_num, by omega, HR2, FR⟩
        case measure => simp [intOf]; omega
    · have en : n = i := by omega
      subst en
      have b1 : decide ((n : Int) < (n : Int)) = false := by simp
      have HE := Lib.hid (show R = -1 by rw [HR.out, Nat.sub_self]; rfl)
      have c00 : wr.cell? ⟨q, 0, none⟩ = some (.slice A n c) := FR.out.cell 0 0 rfl rfl rfl
      have c01 : wr.cell? ⟨q, 1, none⟩ = some (.int .i64 rt) := FR.out.cell 0 1 rfl rfl rfl
      have c02 : wr.cell? ⟨q, 2, none⟩ = some (.int .i64 fr) := FR.out.cell 0 2 rfl rfl rfl
      go_wp2
      go_ret
      rw [HE.out]
      exact ⟨rfl, FR.out.out⟩
/-- a place, how many nodes were looked at, and whether it is there. -/
def FindPost9 (w : World) (r : Int × Int × Bool) (e : Ending) (w' : World) : Prop := e = .returned (.tuple #[.int .i64 r.1, .int .i64 r.2.1, .bool r.2.2]) ∧ Below w.heap.size w w'
set_option maxRecDepth 100000 in
set_option maxHeartbeats 4000000 in
theorem refFind9_any (A : Option Addr) (n c : Nat) (ns : List Nd) (rt fr key : Int) (w : World) (hx : Ns w A n c ns) (hn : n ≤ 16384) :
    Calls Try.prog 14 #[.agg #[.slice A n c, .int .i64 rt, .int .i64 fr], .int .i64 key] w (FindPost9 w (findT (ns, rt, fr) key)) := by
  have hlen := hx.len
  have RX := Lib.hid hx
  have HL := Lib.hid hlen
  have RT := fun (W : World) (h : Ns W A n c ns) => refRight9_any A n c ns rt fr W h hn
  obtain ⟨R, hR⟩ : ∃ R, findT (ns, rt, fr) key = R := ⟨_, rfl⟩
  rw [hR]
  unfold findT at hR
  clear hx
  obtain ⟨v1, hv1⟩ : ∃ W, w.alloc (.cells #[.slice A n c, .int .i64 rt, .int .i64 fr] 24) = W := ⟨_, rfl⟩
  have fr1 : Fr w v1 w.heap.size [.cells #[.slice A n c, .int .i64 rt, .int .i64 fr] 24] := hv1 ▸ Fr.first w _
  have z1 : v1.heap.size = w.heap.size + 1 := by rw [← hv1, Fr.size1]
  generalize hq : w.heap.size = q at *
  have FR := Lib.hid fr1
  clear fr1
  cases hr : rightT (ns, rt, fr)
  · rw [hr] at RT hR
    replace RT := Lib.hid RT
    have HE := Lib.hid (show R = (0, 0, false) from hR.symm)
    clear hr hR hlen
    go_enter Try.func14, Try.ntmps14
    have c00 : v1.cell? ⟨q, 0, none⟩ = some (.slice A n c) := FR.out.cell 0 0 rfl rfl rfl
    have c01 : v1.cell? ⟨q, 1, none⟩ = some (.int .i64 rt) := FR.out.cell 0 1 rfl rfl rfl
    have c02 : v1.cell? ⟨q, 2, none⟩ = some (.int .i64 fr) := FR.out.cell 0 2 rfl rfl rfl
    go_wp2_with fail
    refine ((RT.out _ (FR.out.es RX.out))).mono ?_
    rintro e w2 ⟨rfl, hb⟩
    clear c00 c01 c02
    replace FR := Lib.hid (FR.out.step hb)
    clear hb
    go_wp2
    go_ret3
    rw [HE.out]
    exact ⟨rfl, FR.out.out⟩
  · rw [hr] at RT hR
    replace RT := Lib.hid RT
    obtain ⟨fl, l, hok⟩ := TOk.of hr
    have hll := hok.len
    simp only [hlen] at hll
    have hsz := hok.size
    simp only [hlen] at hsz
    have HTR := Lib.hid hok.tree
    have HRF := Lib.hid (show R = findN ns key (n + 1) rt 0 by rw [← hR, if_pos rfl]; simp only; rw [hlen])
    clear hr hR hlen hok
    go_enter Try.func14, Try.ntmps14
    have c00 : v1.cell? ⟨q, 0, none⟩ = some (.slice A n c) := FR.out.cell 0 0 rfl rfl rfl
    have c01 : v1.cell? ⟨q, 1, none⟩ = some (.int .i64 rt) := FR.out.cell 0 1 rfl rfl rfl
    have c02 : v1.cell? ⟨q, 2, none⟩ = some (.int .i64 fr) := FR.out.cell 0 2 rfl rfl rfl
    go_wp2_with fail
    refine ((RT.out _ (FR.out.es RX.out))).mono ?_
    rintro e w2 ⟨rfl, hb⟩
    clear c00 c01 c02
    replace FR := Lib.hid (FR.out.step hb)
    clear hb
    have c00 : w2.cell? ⟨q, 0, none⟩ = some (.slice A n c) := FR.out.cell 0 0 rfl rfl rfl
    have c01 : w2.cell? ⟨q, 1, none⟩ = some (.int .i64 rt) := FR.out.cell 0 1 rfl rfl rfl
    have c02 : w2.cell? ⟨q, 2, none⟩ = some (.int .i64 fr) := FR.out.cell 0 2 rfl rfl rfl
    go_wp2
    clear c00 c01 c02
    clear hv1 z1
    go_loopw [7, 8] (fun lv av wr => ∃ (looks f : Nat) (at_ : Int) (s : List Int), lv = .int .i64 (looks : Int) ∧ av = .int .i64 at_ ∧ looks + s.length ≤ n ∧ s.length < f ∧ Hid (Tr ns at_ s) ∧ Hid (R = findN ns key f at_ looks) ∧ Hid (Fr w wr q [.cells #[.slice A n c, .int .i64 rt, .int .i64 fr] 24])) (fun lv _ _ => n - (intOf lv).toNat)
    case atStart => exact ⟨0, n + 1, rt, l, rfl, rfl, by omega, by omega, HTR.out, HRF.out, FR.out⟩
    case round =>
      clear FR HTR HRF hll
      obtain ⟨looks, f, at_, s, rfl, rfl, hls, hsf, HT, HRF, FR⟩ := hrel
      by_cases h1 : at_ = -1
      · have b0 : (at_ != -1) = false := by simp [h1]
        have HE := Lib.hid (show R = (0, (looks : Int), false) by rw [HRF.out, h1]; exact findN_end (by omega))
        clear h1 HT HRF
        go_wp2
        go_ret3
        rw [HE.out]
        exact ⟨rfl, FR.out.out⟩
      · have b0 : (at_ != -1) = true := by simp [h1]
        obtain ⟨sa_, sb_, hs, g0, g1, ta, tb, _, _⟩ := HT.out.cases h1
        have hsl : s.length = sa_.length + sb_.length + 1 := by rw [hs]; simp; omega
        rw [HL.out] at g1
        obtain ⟨i, rfl⟩ : ∃ i : Nat, at_ = i := ⟨at_.toNat, by omega⟩
        have i0 : (0 : Int) ≤ (i : Int) := g0
        have i1 : (i : Int) < (n : Int) := g1
        have HTA := Lib.hid ta; have HTB := Lib.hid tb
        obtain ⟨b, off, rfl, hb0, k0, k1, k2, k3, k4, k5⟩ := Ns.look (ns := ns) (FR.out.es RX.out) i (by omega)
        have hw1 : IntKind.i64.wrap ((looks : Int) + 1) = ((looks + 1 : Nat) : Int) := by rw [IntKind.wrap_i64]; omega
        clear hb0 hs ta tb g0 g1 HT
        by_cases hk : (ndAt ns (i : Int)).k = key
        · have HE := Lib.hid (show R = ((i : Int), (looks : Int) + 1, true) by rw [HRF.out]; exact findN_hit (by omega) h1 hk)
          have b1 : ((ndAt ns (i : Int)).k == key) = true := by simp [hk]
          clear hk h1 HRF HTA HTB
          generalize ndAt ns (i : Int) = r at *
          have c00 : wr.cell? ⟨q, 0, none⟩ = some (.slice (some ⟨b, off, none⟩) n c) := FR.out.cell 0 0 rfl rfl rfl
          have c01 : wr.cell? ⟨q, 1, none⟩ = some (.int .i64 rt) := FR.out.cell 0 1 rfl rfl rfl
          have c02 : wr.cell? ⟨q, 2, none⟩ = some (.int .i64 fr) := FR.out.cell 0 2 rfl rfl rfl
          have ged := FR.out.sz
          simp only [List.length_cons, List.length_nil] at ged
          obtain ⟨w3, hw3⟩ : ∃ W, wr.alloc (.cells #[.int .i64 r.k, .int .u32 r.p, .int .i64 r.l, .int .i64 r.r, .int .i64 r.h, .int .i64 r.t] 52) = W := ⟨_, rfl⟩
          have hb : Below wr.heap.size wr w3 := hw3 ▸ (Below.refl _ _).alloc (Nat.le_refl _) _
          have hv : w3.heap[wr.heap.size]? = some (.cells #[.int .i64 r.k, .int .u32 r.p, .int .i64 r.l, .int .i64 r.r, .int .i64 r.h, .int .i64 r.t] 52) := hw3 ▸ heap_alloc_new _ _
          replace FR := Lib.hid (FR.out.step hb)
          have Vd := Lib.hid hv
          generalize hsd : wr.heap.size = sd at *
          clear hb hv
          have c00 : w3.cell? ⟨q, 0, none⟩ = some (.slice (some ⟨b, off, none⟩) n c) := FR.out.cell 0 0 rfl rfl rfl
          have c01 : w3.cell? ⟨q, 1, none⟩ = some (.int .i64 rt) := FR.out.cell 0 1 rfl rfl rfl
          have c02 : w3.cell? ⟨q, 2, none⟩ = some (.int .i64 fr) := FR.out.cell 0 2 rfl rfl rfl
          have cd0 : w3.cell? ⟨sd, 0, none⟩ = some (.int .i64 r.k) := (blk_cell Vd.out 0).trans rfl
          have cd1 : w3.cell? ⟨sd, 1, none⟩ = some (.int .u32 r.p) := (blk_cell Vd.out 1).trans rfl
          have cd2 : w3.cell? ⟨sd, 2, none⟩ = some (.int .i64 r.l) := (blk_cell Vd.out 2).trans rfl
          have cd3 : w3.cell? ⟨sd, 3, none⟩ = some (.int .i64 r.r) := (blk_cell Vd.out 3).trans rfl
          have cd4 : w3.cell? ⟨sd, 4, none⟩ = some (.int .i64 r.h) := (blk_cell Vd.out 4).trans rfl
          have cd5 : w3.cell? ⟨sd, 5, none⟩ = some (.int .i64 r.t) := (blk_cell Vd.out 5).trans rfl
          go_wp2
          go_ret3
          rw [HE.out]
          exact ⟨rfl, FR.out.out⟩
        · have b1 : ((ndAt ns (i : Int)).k == key) = false := by simp [hk]
          have hst := findN_step (ns := ns) (key := key) (looks := (looks : Int)) (at_ := (i : Int)) (f := f) (g := f - 1) (by omega) h1 hk
          by_cases hlt : key < (ndAt ns (i : Int)).k
          · have b2 : decide (key < (ndAt ns (i : Int)).k) = true := by simpa using hlt
            have HR2 := Lib.hid (show R = findN ns key (f - 1) (ndAt ns (i : Int)).l ((looks + 1 : Nat) : Int) by rw [HRF.out, hst, if_pos hlt]; rfl)
            clear hst hk h1 hlt HRF
            generalize ndAt ns (i : Int) = r at *
            have c00 : wr.cell? ⟨q, 0, none⟩ = some (.slice (some ⟨b, off, none⟩) n c) := FR.out.cell 0 0 rfl rfl rfl
            have c01 : wr.cell? ⟨q, 1, none⟩ = some (.int .i64 rt) := FR.out.cell 0 1 rfl rfl rfl
            have c02 : wr.cell? ⟨q, 2, none⟩ = some (.int .i64 fr) := FR.out.cell 0 2 rfl rfl rfl
            have ged := FR.out.sz
            simp only [List.length_cons, List.length_nil] at ged
            obtain ⟨w3, hw3⟩ : ∃ W, wr.alloc (.cells #[.int .i64 r.k, .int .u32 r.p, .int .i64 r.l, .int .i64 r.r, .int .i64 r.h, .int .i64 r.t] 52) = W := ⟨_, rfl⟩
            have hb : Below wr.heap.size wr w3 := hw3 ▸ (Below.refl _ _).alloc (Nat.le_refl _) _
            have hv : w3.heap[wr.heap.size]? = some (.cells #[.int .i64 r.k, .int .u32 r.p, .int .i64 r.l, .int .i64 r.r, .int .i64 r.h, .int .i64 r.t] 52) := hw3 ▸ heap_alloc_new _ _
            replace FR := Lib.hid (FR.out.step hb)
            have Vd := Lib.hid hv
            generalize hsd : wr.heap.size = sd at *
            clear hb hv
            have c00 : w3.cell? ⟨q, 0, none⟩ = some (.slice (some ⟨b, off, none⟩) n c) := FR.out.cell 0 0 rfl rfl rfl
            have c01 : w3.cell? ⟨q, 1, none⟩ = some (.int .i64 rt) := FR.out.cell 0 1 rfl rfl rfl
            have c02 : w3.cell? ⟨q, 2, none⟩ = some (.int .i64 fr) := FR.out.cell 0 2 rfl rfl rfl
            have cd0 : w3.cell? ⟨sd, 0, none⟩ = some (.int .i64 r.k) := (blk_cell Vd.out 0).trans rfl
            have cd1 : w3.cell? ⟨sd, 1, none⟩ = some (.int .u32 r.p) := (blk_cell Vd.out 1).trans rfl
            have cd2 : w3.cell? ⟨sd, 2, none⟩ = some (.int .i64 r.l) := (blk_cell Vd.out 2).trans rfl
            have cd3 : w3.cell? ⟨sd, 3, none⟩ = some (.int .i64 r.r) := (blk_cell Vd.out 3).trans rfl
            have cd4 : w3.cell? ⟨sd, 4, none⟩ = some (.int .i64 r.h) := (blk_cell Vd.out 4).trans rfl
            have cd5 : w3.cell? ⟨sd, 5, none⟩ = some (.int .i64 r.t) := (blk_cell Vd.out 5).trans rfl
            go_wp2
            go_roundw
            case rel => exact ⟨looks + 1, f - 1, r.l, sa_, by go_num, rfl, by omega, by omega, HTA, HR2, FR⟩
            case measure => simp [intOf]; omega
          · have b2 : decide (key < (ndAt ns (i : Int)).k) = false := by simpa using hlt
            have HR2 := Lib.hid (show R = findN ns key (f - 1) (ndAt ns (i : Int)).r ((looks + 1 : Nat) : Int) by rw [HRF.out, hst, if_neg hlt]; rfl)
            clear hst hk h1 hlt HRF
            generalize ndAt ns (i : Int) = r at *
            have c00 : wr.cell? ⟨q, 0, none⟩ = some (.slice (some ⟨b, off, none⟩) n c) := FR.out.cell 0 0 rfl rfl rfl
            have c01 : wr.cell? ⟨q, 1, none⟩ = some (.int .i64 rt) := FR.out.cell 0 1 rfl rfl rfl
            have c02 : wr.cell? ⟨q, 2, none⟩ = some (.int .i64 fr) := FR.out.cell 0 2 rfl rfl rfl
            have ged := FR.out.sz
            simp only [List.length_cons, List.length_nil] at ged
            obtain ⟨w3, hw3⟩ : ∃ W, wr.alloc (.cells #[.int .i64 r.k, .int .u32 r.p, .int .i64 r.l, .int .i64 r.r, .int .i64 r.h, .int .i64 r.t] 52) = W := ⟨_, rfl⟩
            have hb : Below wr.heap.size wr w3 := hw3 ▸ (Below.refl _ _).alloc (Nat.le_refl _) _
            have hv : w3.heap[wr.heap.size]? = some (.cells #[.int .i64 r.k, .int .u32 r.p, .int .i64 r.l, .int .i64 r.r, .int .i64 r.h, .int .i64 r.t] 52) := hw3 ▸ heap_alloc_new _ _
            replace FR := Lib.hid (FR.out.step hb)
            have Vd := Lib.hid hv
            generalize hsd : wr.heap.size = sd at *
            clear hb hv
            have c00 : w3.cell? ⟨q, 0, none⟩ = some (.slice (some ⟨b, off, none⟩) n c) := FR.out.cell 0 0 rfl rfl rfl
            have c01 : w3.cell? ⟨q, 1, none⟩ = some (.int .i64 rt) := FR.out.cell 0 1 rfl rfl rfl
            have c02 : w3.cell? ⟨q, 2, none⟩ = some (.int .i64 fr) := FR.out.cell 0 2 rfl rfl rfl
            have cd0 : w3.cell? ⟨sd, 0, none⟩ = some (.int .i64 r.k) := (blk_cell Vd.out 0).trans rfl
            have cd1 : w3.cell? ⟨sd, 1, none⟩ = some (.int .u32 r.p) := (blk_cell Vd.out 1).trans rfl
            have cd2 : w3.cell? ⟨sd, 2, none⟩ = some (.int .i64 r.l) := (blk_cell Vd.out 2).trans rfl
            have cd3 : w3.cell? ⟨sd, 3, none⟩ = some (.int .i64 r.r) := (blk_cell Vd.out 3).trans rfl
            have cd4 : w3.cell? ⟨sd, 4, none⟩ = some (.int .i64 r.h) := (blk_cell Vd.out 4).trans rfl
            have cd5 : w3.cell? ⟨sd, 5, none⟩ = some (.int .i64 r.t) := (blk_cell Vd.out 5).trans rfl
            go_wp2
            go_roundw
            case rel => exact ⟨looks + 1, f - 1, r.r, sb_, by go_num, rfl, by omega, by omega, HTB, HR2, FR⟩
            case measure => simp [intOf]; omega
end Go.Proofs.Ytfgfohomgomidaa
