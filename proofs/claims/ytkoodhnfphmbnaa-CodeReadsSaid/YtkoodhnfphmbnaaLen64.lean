/- What math/bits.Len64 answers, for words of 64 bits. -/
import Derived.Test.YtkoodhnfphmbnaaRows
import Derived.WalkKit
import Derived.WalkLawsBesides
import Derived.WalkSpells
import Derived.Lib.Tables
import Derived.Lib.BitFns
import Derived.Deep.Light
import Derived.Lib.MinMax
import Derived.Lib.Hide
namespace Go.Proofs.Ytkoodhnfphmbnaa
set_option linter.unusedVariables false
set_option linter.unusedSimpArgs false
open Go.RowKit

theorem len8_get (y : Int) (h : y.toNat < Lib.len8tab.size) : ((Lib.len8tab[y.toNat]'h).toNat : Int) = Lib.len8 y := by
  unfold Lib.len8
  rw [getElem?_pos Lib.len8tab y.toNat h]; rfl
theorem size8 : (Lib.len8tab.size : Int) = 256 := by have := Lib.len8tab_size; omega
theorem wrap_len (a k : Int) (ha : 0 ≤ a) (ha8 : a ≤ 8) (hk : 0 ≤ k) (hk6 : k ≤ 64) : wrap64 (k + wrap64 a) = k + a := by
  unfold wrap64; omega
theorem len_of_byte (x : Nat) (k : Int) (y : Int) (hy : 0 ≤ y) (hy1 : y ≤ 255) (h : (Lib.bitLen x : Int) = k + (Lib.bitLen y.toNat : Int)) (hk : 0 ≤ k) (hk6 : k ≤ 64) (hs : y.toNat < Lib.len8tab.size) :
    wrap64 (k + wrap64 ((Lib.len8tab[y.toNat]'hs).toNat : Int)) = (Lib.bitLen x : Int) := by
  have h1 := Lib.len8_of y hy hy1
  have h2 := Lib.bitLen_le8' y hy hy1
  rw [len8_get, h1, wrap_len _ _ (by omega) (by omega) hk hk6, h]
theorem len_of_byte0 (x : Int) (h0 : 0 ≤ x) (h1 : x ≤ 255) (hs : x.toNat < Lib.len8tab.size) : wrap64 (wrap64 ((Lib.len8tab[x.toNat]'hs).toNat : Int)) = (Lib.bitLen x.toNat : Int) := by
  have := len_of_byte x.toNat 0 x h0 h1 (by omega) (by omega) (by omega) hs
  rwa [Int.zero_add] at this
theorem sh (a b k : Nat) (y : Int) (h : a = k + b) (e : y.toNat = y.toNat) : (a : Int) = (k : Int) + (b : Int) := by omega

set_option maxHeartbeats 4000000 in
set_option maxRecDepth 100000 in
theorem len64_any (x : Int) (w : World) (h0 : 0 ≤ x) (h1 : x ≤ 18446744073709551615) :
    Calls Try.prog 63 #[.int .u64 x] w fun e w' => e = .returned (.int .i64 (Lib.bitLen x.toNat)) ∧ w = w' := by
  go_enter Try.func63, Try.ntmps63
  go_wp2
  all_goals first
    | (go_ret; refine ⟨congrArg Ending.returned (congrArg (Value.int IntKind.i64) ?_), rfl⟩; go_light)
    | (exfalso; go_light; have hs := size8; omega)
  · refine len_of_byte x.toNat 56 (x / 4294967296 / 65536 / 256) (by omega) (by omega) ?_ (by decide) (by decide) _
    have e : (x / 4294967296 / 65536 / 256).toNat = x.toNat / 72057594037927936 := by omega
    have := Lib.bitLen_shift56 x.toNat (by omega) (by omega)
    rw [e]; omega
  · refine len_of_byte x.toNat 48 (x / 4294967296 / 65536) (by omega) (by omega) ?_ (by decide) (by decide) _
    have e : (x / 4294967296 / 65536).toNat = x.toNat / 281474976710656 := by omega
    have := Lib.bitLen_shift48 x.toNat (by omega) (by omega)
    rw [e]; omega
  · refine len_of_byte x.toNat 40 (x / 4294967296 / 256) (by omega) (by omega) ?_ (by decide) (by decide) _
    have e : (x / 4294967296 / 256).toNat = x.toNat / 1099511627776 := by omega
    have := Lib.bitLen_shift40 x.toNat (by omega) (by omega)
    rw [e]; omega
  · refine len_of_byte x.toNat 32 (x / 4294967296) (by omega) (by omega) ?_ (by decide) (by decide) _
    have e : (x / 4294967296).toNat = x.toNat / 4294967296 := by omega
    have := Lib.bitLen_shift32 x.toNat (by omega) (by omega)
    rw [e]; omega
  · refine len_of_byte x.toNat 24 (x / 65536 / 256) (by omega) (by omega) ?_ (by decide) (by decide) _
    have e : (x / 65536 / 256).toNat = x.toNat / 16777216 := by omega
    have := Lib.bitLen_shift24 x.toNat (by omega) (by omega)
    rw [e]; omega
  · refine len_of_byte x.toNat 16 (x / 65536) (by omega) (by omega) ?_ (by decide) (by decide) _
    have e : (x / 65536).toNat = x.toNat / 65536 := by omega
    have := Lib.bitLen_shift16 x.toNat (by omega) (by omega)
    rw [e]; omega
  · refine len_of_byte x.toNat 8 (x / 256) (by omega) (by omega) ?_ (by decide) (by decide) _
    have e : (x / 256).toNat = x.toNat / 256 := by omega
    have := Lib.bitLen_shift8 x.toNat (by omega) (by omega)
    rw [e]; omega
  · exact len_of_byte0 x (by omega) (by omega) _

end Go.Proofs.Ytkoodhnfphmbnaa
