/- The walks of package sha's words as bytes. Each theorem names its own conditions. -/
import Derived.Test.YtcadfccijeodbaaDoorProg
import Derived.Test.YtcadfccijeodbaaDoorShaSpec
namespace Go.Proofs.YtcadfccijeodbaaDoor
open Go.RowKit
set_option linter.unusedVariables false
set_option linter.unusedSimpArgs false

theorem or_u32 (a b : Nat) (ha : a < 4294967296) (hb : b < 4294967296) : bits .or .u32 (a : Int) (b : Int) = ((a ||| b : Nat) : Int) := by
  have e1 : (BitVec.ofInt 32 (a : Int)).toNat = a := by rw [BitVec.toNat_ofInt]; omega
  have e2 : (BitVec.ofInt 32 (b : Int)).toNat = b := by rw [BitVec.toNat_ofInt]; omega
  show IntKind.u32.wrap ((BitVec.ofInt 32 (a : Int) ||| BitVec.ofInt 32 (b : Int)).toNat : Nat) = _
  have e3 : a ||| b < 2 ^ 32 := Nat.or_lt_two_pow ha hb
  rw [BitVec.toNat_or, e1, e2, wrap_nat, Nat.mod_eq_of_lt e3]
/-- Four bytes laid together. -/
theorem or4 (x0 x1 x2 x3 : Nat) (h0 : x0 < 256) (h1 : x1 < 256) (h2 : x2 < 256) (h3 : x3 < 256) :
    bits .or .u32 (bits .or .u32 (bits .or .u32 ((x0 : Int) * 16777216) ((x1 : Int) * 65536)) ((x2 : Int) * 256)) (x3 : Int) = wi (BitVec.ofNat 32 (16777216 * x0 + 65536 * x1 + 256 * x2 + x3)) := by
  have a0 : (x0 : Int) * 16777216 = ((16777216 * x0 : Nat) : Int) := by omega
  have a1 : (x1 : Int) * 65536 = ((65536 * x1 : Nat) : Int) := by omega
  have a2 : (x2 : Int) * 256 = ((256 * x2 : Nat) : Int) := by omega
  have b1 : 16777216 * x0 ||| 65536 * x1 = 16777216 * x0 + 65536 * x1 := or_sum 24 (65536 * x1) x0 (by omega)
  have b2 : 16777216 * x0 + 65536 * x1 ||| 256 * x2 = 16777216 * x0 + 65536 * x1 + 256 * x2 := by
    have h := or_sum 16 (256 * x2) (256 * x0 + x1) (by omega)
    have e : 2 ^ 16 * (256 * x0 + x1) = 16777216 * x0 + 65536 * x1 := by omega
    rwa [e] at h
  have b3 : 16777216 * x0 + 65536 * x1 + 256 * x2 ||| x3 = 16777216 * x0 + 65536 * x1 + 256 * x2 + x3 := by
    have h := or_sum 8 x3 (65536 * x0 + 256 * x1 + x2) (by omega)
    have e : 2 ^ 8 * (65536 * x0 + 256 * x1 + x2) = 16777216 * x0 + 65536 * x1 + 256 * x2 := by omega
    rwa [e] at h
  rw [a0, a1, a2, or_u32 _ _ (by omega) (by omega), b1, or_u32 _ _ (by omega) (by omega), b2, or_u32 _ _ (by omega) (by omega), b3, wi_lit _ (by omega)]

set_option maxHeartbeats 2000000 in
/-- A word is read off four bytes of a block. -/
theorem sha_word_any (c off len cap : Nat) (cs : List UInt8) (t : TypeId) (w : World) (hb : Blk w c (cs.map bval) t) (hl : off + 4 ≤ cs.length) (h4 : 4 ≤ len) :
    Calls Tryd.prog 41 #[.slice (some ⟨c, off, none⟩) len cap] w fun e w' => e = .returned (.int .u32 (wi (beW cs off))) ∧ w' = w.drew := by
  have cc : ∀ j, j ≤ 3 → w.cell? ⟨c, off + j, none⟩ = some (.int .u8 ((cs.getD (off + j) 0).toNat : Int)) := fun j hj => by
    rw [hb.cell, bval_get (by omega)]
  have c0 := cc 0 (by omega)
  have c1 := cc 1 (by omega)
  have c2 := cc 2 (by omega)
  have c3 := cc 3 (by omega)
  simp only [Nat.add_zero] at c0
  have d0 := UInt8.toNat_lt (cs.getD off 0)
  have d1 := UInt8.toNat_lt (cs.getD (off + 1) 0)
  have d2 := UInt8.toNat_lt (cs.getD (off + 2) 0)
  have d3 := UInt8.toNat_lt (cs.getD (off + 3) 0)
  have HBE : Hid (beW cs off = BitVec.ofNat 32 (16777216 * (cs.getD off 0).toNat + 65536 * (cs.getD (off + 1) 0).toNat + 256 * (cs.getD (off + 2) 0).toNat + (cs.getD (off + 3) 0).toNat)) := Lib.hid rfl
  generalize (cs.getD off 0).toNat = x0 at *
  generalize (cs.getD (off + 1) 0).toNat = x1 at *
  generalize (cs.getD (off + 2) 0).toNat = x2 at *
  generalize (cs.getD (off + 3) 0).toNat = x3 at *
  clear cc hb hl
  have i0 : (0 : Int) < (len : Int) ∧ (1 : Int) < (len : Int) ∧ (2 : Int) < (len : Int) ∧ (3 : Int) < (len : Int) := by omega
  obtain ⟨i0, i1, i2, i3⟩ := i0
  go_enter Tryd.func41, Tryd.ntmps41
  go_wp2_with fail
  go_region
  go_wp2_with fail
  go_ret
  exact ⟨by rw [HBE.out, ← or4 x0 x1 x2 x3 d0 d1 d2 d3]; rfl, rfl⟩

/-- A word's four bytes, the highest first, laid over a list from off on. -/
def put4 (cs : List UInt8) (off : Nat) (x : W32) : List UInt8 := (((cs.set off (UInt8.ofNat (x.toNat / 16777216))).set (off + 1) (UInt8.ofNat (x.toNat / 65536))).set (off + 2) (UInt8.ofNat (x.toNat / 256))).set (off + 3) (UInt8.ofNat x.toNat)
theorem put4_length (cs : List UInt8) (off : Nat) (x : W32) : (put4 cs off x).length = cs.length := by simp [put4]
theorem bval_ofNat (n : Nat) : bval (UInt8.ofNat n) = .int .u8 ((n : Int) % 256) := by
  unfold bval
  rw [UInt8.toNat_ofNat']
  congr 1

set_option maxHeartbeats 2000000 in
/-- A word is laid over four bytes of a block. -/
theorem put_any (c off len cap : Nat) (cs : List UInt8) (x : W32) (t : TypeId) (w : World) (hb : Blk w c (cs.map bval) t) (hl : off + 4 ≤ cs.length) (h4 : 4 ≤ len) :
    Calls Tryd.prog 38 #[.slice (some ⟨c, off, none⟩) len cap, .int .u32 (wi x)] w fun e w' => e = .returned (.tuple #[]) ∧ Blk w' c ((put4 cs off x).map bval) t ∧ w.grownBy w' (some c) := by
  have cc : ∀ j, j ≤ 3 → w.cell? ⟨c, off + j, none⟩ = some (.int .u8 ((cs.getD (off + j) 0).toNat : Int)) := fun j hj => by
    rw [hb.cell, bval_get (by omega)]
  have ff : ∀ j, w.frozen? ⟨c, off + j, none⟩ = false := fun j => hb.free _
  have c0 := cc 0 (by omega)
  have c1 := cc 1 (by omega)
  have c2 := cc 2 (by omega)
  have c3 := cc 3 (by omega)
  have f0 := ff 0
  have f1 := ff 1
  have f2 := ff 2
  have f3 := ff 3
  simp only [Nat.add_zero] at c0 f0
  generalize (cs.getD off 0).toNat = x0 at *
  generalize (cs.getD (off + 1) 0).toNat = x1 at *
  generalize (cs.getD (off + 2) 0).toNat = x2 at *
  generalize (cs.getD (off + 3) 0).toNat = x3 at *
  have HB := Lib.hid hb
  have HL := Lib.hid hl
  have hr := wi_range x
  have HX : Hid (wi x = (x.toNat : Int)) := Lib.hid rfl
  clear cc ff hb hl
  have i0 : (0 : Int) < (len : Int) ∧ (1 : Int) < (len : Int) ∧ (2 : Int) < (len : Int) ∧ (3 : Int) < (len : Int) := by omega
  obtain ⟨i0, i1, i2, i3⟩ := i0
  have b0 : bval (UInt8.ofNat (x.toNat / 16777216)) = .int .u8 (wi x / 16777216) := by rw [bval_ofNat]; congr 1; unfold wi; have := x.isLt; omega
  have b1 : bval (UInt8.ofNat (x.toNat / 65536)) = .int .u8 (wi x / 65536 % 256) := by rw [bval_ofNat]; congr 1
  have b2 : bval (UInt8.ofNat (x.toNat / 256)) = .int .u8 (wi x / 256 % 256) := by rw [bval_ofNat]; congr 1
  have b3 : bval (UInt8.ofNat x.toNat) = .int .u8 (wi x % 256) := by rw [bval_ofNat]; congr 1
  have hP : (put4 cs off x).map bval = ((((cs.map bval).set off (.int .u8 (wi x / 16777216))).set (off + 1) (.int .u8 (wi x / 65536 % 256))).set (off + 2) (.int .u8 (wi x / 256 % 256))).set (off + 3) (.int .u8 (wi x % 256)) := by
    unfold put4
    rw [List.map_set, List.map_set, List.map_set, List.map_set, b0, b1, b2, b3]
  have HP := Lib.hid hP
  clear hP b0 b1 b2 b3
  generalize wi x = z at *
  go_enter Tryd.func38, Tryd.ntmps38
  go_wp2_with fail
  refine bodyPost_end (results_none rfl _ _ _) rfl ?_
  refine ⟨rfl, ?_, ?_⟩
  · rw [HP.out]
    exact (((HB.out.set _ _).set _ _).set _ _).set _ _
  · exact grownBy_set (grownBy_set (grownBy_set (grownBy_set (grownBy_refl w _) _ _) _ _) _ _) _ _

end Go.Proofs.YtcadfccijeodbaaDoor
