/- The walks of package shb's words as bytes. Each theorem names its own conditions. -/
import Derived.Test.YtmadoehajapfhaaDoorProg
import Derived.Test.YtmadoehajapfhaaDoorShbSpec
import Derived.Test.YtmadoehajapfhaaDoorDetConv
import Derived.Test.YtmadoehajapfhaaDoorDetTail
namespace Go.Proofs.YtmadoehajapfhaaDoor
open Go.RowKit
set_option linter.unusedVariables false
set_option linter.unusedSimpArgs false

/-- Eight bytes laid together. -/
theorem or8 (x0 x1 x2 x3 x4 x5 x6 x7 : Nat) (h0 : x0 < 256) (h1 : x1 < 256) (h2 : x2 < 256) (h3 : x3 < 256) (h4 : x4 < 256) (h5 : x5 < 256) (h6 : x6 < 256) (h7 : x7 < 256) :
    bits .or .u64 (bits .or .u64 (bits .or .u64 (bits .or .u64 (bits .or .u64 (bits .or .u64 (bits .or .u64 ((x0 : Int) * 72057594037927936) ((x1 : Int) * 281474976710656)) ((x2 : Int) * 1099511627776)) ((x3 : Int) * 4294967296)) ((x4 : Int) * 16777216)) ((x5 : Int) * 65536)) ((x6 : Int) * 256)) (x7 : Int) = qi (BitVec.ofNat 64 (256 * (256 * (256 * (256 * (256 * (256 * (256 * x0 + x1) + x2) + x3) + x4) + x5) + x6) + x7)) := by
  have a0 : (x0 : Int) * 72057594037927936 = ((72057594037927936 * x0 : Nat) : Int) := by omega
  have a1 : (x1 : Int) * 281474976710656 = ((281474976710656 * x1 : Nat) : Int) := by omega
  have a2 : (x2 : Int) * 1099511627776 = ((1099511627776 * x2 : Nat) : Int) := by omega
  have a3 : (x3 : Int) * 4294967296 = ((4294967296 * x3 : Nat) : Int) := by omega
  have a4 : (x4 : Int) * 16777216 = ((16777216 * x4 : Nat) : Int) := by omega
  have a5 : (x5 : Int) * 65536 = ((65536 * x5 : Nat) : Int) := by omega
  have a6 : (x6 : Int) * 256 = ((256 * x6 : Nat) : Int) := by omega
  have b1 : 72057594037927936 * x0 ||| 281474976710656 * x1 = 72057594037927936 * x0 + 281474976710656 * x1 := by
    have h := or_sum 56 (281474976710656 * x1) (x0) (by omega)
    have e : 2 ^ 56 * (x0) = 72057594037927936 * x0 := by omega
    rwa [e] at h
  have b2 : 72057594037927936 * x0 + 281474976710656 * x1 ||| 1099511627776 * x2 = 72057594037927936 * x0 + 281474976710656 * x1 + 1099511627776 * x2 := by
    have h := or_sum 48 (1099511627776 * x2) (256 * x0 + x1) (by omega)
    have e : 2 ^ 48 * (256 * x0 + x1) = 72057594037927936 * x0 + 281474976710656 * x1 := by omega
    rwa [e] at h
  have b3 : 72057594037927936 * x0 + 281474976710656 * x1 + 1099511627776 * x2 ||| 4294967296 * x3 = 72057594037927936 * x0 + 281474976710656 * x1 + 1099511627776 * x2 + 4294967296 * x3 := by
    have h := or_sum 40 (4294967296 * x3) (256 * (256 * x0 + x1) + x2) (by omega)
    have e : 2 ^ 40 * (256 * (256 * x0 + x1) + x2) = 72057594037927936 * x0 + 281474976710656 * x1 + 1099511627776 * x2 := by omega
    rwa [e] at h
  have b4 : 72057594037927936 * x0 + 281474976710656 * x1 + 1099511627776 * x2 + 4294967296 * x3 ||| 16777216 * x4 = 72057594037927936 * x0 + 281474976710656 * x1 + 1099511627776 * x2 + 4294967296 * x3 + 16777216 * x4 := by
    have h := or_sum 32 (16777216 * x4) (256 * (256 * (256 * x0 + x1) + x2) + x3) (by omega)
    have e : 2 ^ 32 * (256 * (256 * (256 * x0 + x1) + x2) + x3) = 72057594037927936 * x0 + 281474976710656 * x1 + 1099511627776 * x2 + 4294967296 * x3 := by omega
    rwa [e] at h
  have b5 : 72057594037927936 * x0 + 281474976710656 * x1 + 1099511627776 * x2 + 4294967296 * x3 + 16777216 * x4 ||| 65536 * x5 = 72057594037927936 * x0 + 281474976710656 * x1 + 1099511627776 * x2 + 4294967296 * x3 + 16777216 * x4 + 65536 * x5 := by
    have h := or_sum 24 (65536 * x5) (256 * (256 * (256 * (256 * x0 + x1) + x2) + x3) + x4) (by omega)
    have e : 2 ^ 24 * (256 * (256 * (256 * (256 * x0 + x1) + x2) + x3) + x4) = 72057594037927936 * x0 + 281474976710656 * x1 + 1099511627776 * x2 + 4294967296 * x3 + 16777216 * x4 := by omega
    rwa [e] at h
  have b6 : 72057594037927936 * x0 + 281474976710656 * x1 + 1099511627776 * x2 + 4294967296 * x3 + 16777216 * x4 + 65536 * x5 ||| 256 * x6 = 72057594037927936 * x0 + 281474976710656 * x1 + 1099511627776 * x2 + 4294967296 * x3 + 16777216 * x4 + 65536 * x5 + 256 * x6 := by
    have h := or_sum 16 (256 * x6) (256 * (256 * (256 * (256 * (256 * x0 + x1) + x2) + x3) + x4) + x5) (by omega)
    have e : 2 ^ 16 * (256 * (256 * (256 * (256 * (256 * x0 + x1) + x2) + x3) + x4) + x5) = 72057594037927936 * x0 + 281474976710656 * x1 + 1099511627776 * x2 + 4294967296 * x3 + 16777216 * x4 + 65536 * x5 := by omega
    rwa [e] at h
  have b7 : 72057594037927936 * x0 + 281474976710656 * x1 + 1099511627776 * x2 + 4294967296 * x3 + 16777216 * x4 + 65536 * x5 + 256 * x6 ||| x7 = 72057594037927936 * x0 + 281474976710656 * x1 + 1099511627776 * x2 + 4294967296 * x3 + 16777216 * x4 + 65536 * x5 + 256 * x6 + x7 := by
    have h := or_sum 8 (x7) (256 * (256 * (256 * (256 * (256 * (256 * x0 + x1) + x2) + x3) + x4) + x5) + x6) (by omega)
    have e : 2 ^ 8 * (256 * (256 * (256 * (256 * (256 * (256 * x0 + x1) + x2) + x3) + x4) + x5) + x6) = 72057594037927936 * x0 + 281474976710656 * x1 + 1099511627776 * x2 + 4294967296 * x3 + 16777216 * x4 + 65536 * x5 + 256 * x6 := by omega
    rwa [e] at h
  have e : 256 * (256 * (256 * (256 * (256 * (256 * (256 * x0 + x1) + x2) + x3) + x4) + x5) + x6) + x7 = 72057594037927936 * x0 + 281474976710656 * x1 + 1099511627776 * x2 + 4294967296 * x3 + 16777216 * x4 + 65536 * x5 + 256 * x6 + x7 := by omega
  rw [a0, a1, a2, a3, a4, a5, a6, or64 _ _ (by omega) (by omega), b1, or64 _ _ (by omega) (by omega), b2, or64 _ _ (by omega) (by omega), b3, or64 _ _ (by omega) (by omega), b4, or64 _ _ (by omega) (by omega), b5, or64 _ _ (by omega) (by omega), b6, or64 _ _ (by omega) (by omega), b7, e, qi_lit _ (by omega)]

set_option maxHeartbeats 2000000 in
/-- A word is read off eight bytes of a block. -/
theorem word_anyQ (c off len cap : Nat) (cs : List UInt8) (t : TypeId) (w : World) (hb : Blk w c (cs.map bval) t) (hl : off + 8 ≤ cs.length) (h4 : 8 ≤ len) :
    Calls Tryd.prog 41 #[.slice (some ⟨c, off, none⟩) len cap] w fun e w' => e = .returned (.int .u64 (qi (beQ cs off))) ∧ Below w.heap.size w w' := by
  have cc : ∀ j, j ≤ 7 → w.cell? ⟨c, off + j, none⟩ = some (.int .u8 ((cs.getD (off + j) 0).toNat : Int)) := fun j hj => by
    rw [hb.cell, bval_get (by omega)]
  have c0 := cc 0 (by omega)
  have c1 := cc 1 (by omega)
  have c2 := cc 2 (by omega)
  have c3 := cc 3 (by omega)
  have c4 := cc 4 (by omega)
  have c5 := cc 5 (by omega)
  have c6 := cc 6 (by omega)
  have c7 := cc 7 (by omega)
  have d0 := UInt8.toNat_lt (cs.getD (off + 0) 0)
  have d1 := UInt8.toNat_lt (cs.getD (off + 1) 0)
  have d2 := UInt8.toNat_lt (cs.getD (off + 2) 0)
  have d3 := UInt8.toNat_lt (cs.getD (off + 3) 0)
  have d4 := UInt8.toNat_lt (cs.getD (off + 4) 0)
  have d5 := UInt8.toNat_lt (cs.getD (off + 5) 0)
  have d6 := UInt8.toNat_lt (cs.getD (off + 6) 0)
  have d7 := UInt8.toNat_lt (cs.getD (off + 7) 0)
  have HBE : Hid (beQ cs off = BitVec.ofNat 64 (256 * (256 * (256 * (256 * (256 * (256 * (256 * (cs.getD (off + 0) 0).toNat + (cs.getD (off + 1) 0).toNat) + (cs.getD (off + 2) 0).toNat) + (cs.getD (off + 3) 0).toNat) + (cs.getD (off + 4) 0).toNat) + (cs.getD (off + 5) 0).toNat) + (cs.getD (off + 6) 0).toNat) + (cs.getD (off + 7) 0).toNat)) := Lib.hid (by simp only [beQ, beN, Nat.mul_zero, Nat.zero_add])
  generalize (cs.getD (off + 0) 0).toNat = x0 at *
  generalize (cs.getD (off + 1) 0).toNat = x1 at *
  generalize (cs.getD (off + 2) 0).toNat = x2 at *
  generalize (cs.getD (off + 3) 0).toNat = x3 at *
  generalize (cs.getD (off + 4) 0).toNat = x4 at *
  generalize (cs.getD (off + 5) 0).toNat = x5 at *
  generalize (cs.getD (off + 6) 0).toNat = x6 at *
  generalize (cs.getD (off + 7) 0).toNat = x7 at *
  have hcl : c < w.heap.size := hb.lt
  clear cc hb hl
  have i0 : (0 : Int) < (len : Int) ∧ (1 : Int) < (len : Int) ∧ (2 : Int) < (len : Int) ∧ (3 : Int) < (len : Int) ∧ (4 : Int) < (len : Int) ∧ (5 : Int) < (len : Int) ∧ (6 : Int) < (len : Int) ∧ (7 : Int) < (len : Int) := by omega
  obtain ⟨i0, i1, i2, i3, i4, i5, i6, i7⟩ := i0
  have HC0 : Hid (∀ w' : World, Ext w w' → w'.cell? ⟨c, off + 0, none⟩ = some (.int .u8 (x0 : Int))) := Lib.hid (fun w' he => by rw [← c0]; exact he.cell (p := ⟨c, off + 0, none⟩) hcl)
  have HC1 : Hid (∀ w' : World, Ext w w' → w'.cell? ⟨c, off + 1, none⟩ = some (.int .u8 (x1 : Int))) := Lib.hid (fun w' he => by rw [← c1]; exact he.cell (p := ⟨c, off + 1, none⟩) hcl)
  have HC2 : Hid (∀ w' : World, Ext w w' → w'.cell? ⟨c, off + 2, none⟩ = some (.int .u8 (x2 : Int))) := Lib.hid (fun w' he => by rw [← c2]; exact he.cell (p := ⟨c, off + 2, none⟩) hcl)
  have HC3 : Hid (∀ w' : World, Ext w w' → w'.cell? ⟨c, off + 3, none⟩ = some (.int .u8 (x3 : Int))) := Lib.hid (fun w' he => by rw [← c3]; exact he.cell (p := ⟨c, off + 3, none⟩) hcl)
  have HC4 : Hid (∀ w' : World, Ext w w' → w'.cell? ⟨c, off + 4, none⟩ = some (.int .u8 (x4 : Int))) := Lib.hid (fun w' he => by rw [← c4]; exact he.cell (p := ⟨c, off + 4, none⟩) hcl)
  have HC5 : Hid (∀ w' : World, Ext w w' → w'.cell? ⟨c, off + 5, none⟩ = some (.int .u8 (x5 : Int))) := Lib.hid (fun w' he => by rw [← c5]; exact he.cell (p := ⟨c, off + 5, none⟩) hcl)
  have HC6 : Hid (∀ w' : World, Ext w w' → w'.cell? ⟨c, off + 6, none⟩ = some (.int .u8 (x6 : Int))) := Lib.hid (fun w' he => by rw [← c6]; exact he.cell (p := ⟨c, off + 6, none⟩) hcl)
  have HC7 : Hid (∀ w' : World, Ext w w' → w'.cell? ⟨c, off + 7, none⟩ = some (.int .u8 (x7 : Int))) := Lib.hid (fun w' he => by rw [← c7]; exact he.cell (p := ⟨c, off + 7, none⟩) hcl)
  clear c0 c1 c2 c3 c4 c5 c6 c7
  go_enter Tryd.func41, Tryd.ntmps41
  go_wp2_with fail
  refine wp_region_all (by kernel_rfl) (by kernel_rfl) ?_
  refine det_move _ (.slice (some ⟨c, off, none⟩) len cap) (by rfl) rfl rfl ?_
  simp only [Act.put, List.setIfInBounds_toArray, List.set_cons_zero, List.set_cons_succ]
  refine det_sindex _ _ _ _ c off len cap 0 (by rfl) rfl rfl rfl Tryd.underlying25 (by omega) Tryd.sizeOf5 ?_
  simp only [Act.put, List.setIfInBounds_toArray, List.set_cons_zero, List.set_cons_succ]
  refine det_cell _ _ c (off + 0) (.int .u8 (x0 : Int)) (by rfl) rfl rfl (fun w' hw => HC0.out w' hw) Tryd.isAgg5 ?_
  simp only [Act.put, List.setIfInBounds_toArray, List.set_cons_zero, List.set_cons_succ]
  refine det_conv _ _ _ .u8 .u64 (x0 : Int) (x0 : Int) (by rfl) rfl rfl rfl Tryd.underlying55 (w64 (by omega)) ?_
  simp only [Act.put, List.setIfInBounds_toArray, List.set_cons_zero, List.set_cons_succ]
  refine det_shlk _ _ _ _ .u64 .u64 (x0 : Int) ((x0 : Int) * 72057594037927936) 56 (by rfl) rfl rfl rfl (by decide) (by rw [IntKind.wrap_u64]; omega) ?_
  simp only [Act.put, List.setIfInBounds_toArray, List.set_cons_zero, List.set_cons_succ]
  refine det_move _ (.slice (some ⟨c, off, none⟩) len cap) (by rfl) rfl rfl ?_
  simp only [Act.put, List.setIfInBounds_toArray, List.set_cons_zero, List.set_cons_succ]
  refine det_sindex _ _ _ _ c off len cap 1 (by rfl) rfl rfl rfl Tryd.underlying25 (by omega) Tryd.sizeOf5 ?_
  simp only [Act.put, List.setIfInBounds_toArray, List.set_cons_zero, List.set_cons_succ]
  refine det_cell _ _ c (off + 1) (.int .u8 (x1 : Int)) (by rfl) rfl rfl (fun w' hw => HC1.out w' hw) Tryd.isAgg5 ?_
  simp only [Act.put, List.setIfInBounds_toArray, List.set_cons_zero, List.set_cons_succ]
  refine det_conv _ _ _ .u8 .u64 (x1 : Int) (x1 : Int) (by rfl) rfl rfl rfl Tryd.underlying55 (w64 (by omega)) ?_
  simp only [Act.put, List.setIfInBounds_toArray, List.set_cons_zero, List.set_cons_succ]
  refine det_shlk _ _ _ _ .u64 .u64 (x1 : Int) ((x1 : Int) * 281474976710656) 48 (by rfl) rfl rfl rfl (by decide) (by rw [IntKind.wrap_u64]; omega) ?_
  simp only [Act.put, List.setIfInBounds_toArray, List.set_cons_zero, List.set_cons_succ]
  refine det_or _ _ _ _ _ _ _ (bits .or .u64 ((x0 : Int) * 72057594037927936) ((x1 : Int) * 281474976710656)) (by rfl) rfl rfl rfl rfl ?_
  simp only [Act.put, List.setIfInBounds_toArray, List.set_cons_zero, List.set_cons_succ]
  refine det_move _ (.slice (some ⟨c, off, none⟩) len cap) (by rfl) rfl rfl ?_
  simp only [Act.put, List.setIfInBounds_toArray, List.set_cons_zero, List.set_cons_succ]
  refine det_sindex _ _ _ _ c off len cap 2 (by rfl) rfl rfl rfl Tryd.underlying25 (by omega) Tryd.sizeOf5 ?_
  simp only [Act.put, List.setIfInBounds_toArray, List.set_cons_zero, List.set_cons_succ]
  refine det_cell _ _ c (off + 2) (.int .u8 (x2 : Int)) (by rfl) rfl rfl (fun w' hw => HC2.out w' hw) Tryd.isAgg5 ?_
  simp only [Act.put, List.setIfInBounds_toArray, List.set_cons_zero, List.set_cons_succ]
  refine det_conv _ _ _ .u8 .u64 (x2 : Int) (x2 : Int) (by rfl) rfl rfl rfl Tryd.underlying55 (w64 (by omega)) ?_
  simp only [Act.put, List.setIfInBounds_toArray, List.set_cons_zero, List.set_cons_succ]
  refine det_shlk _ _ _ _ .u64 .u64 (x2 : Int) ((x2 : Int) * 1099511627776) 40 (by rfl) rfl rfl rfl (by decide) (by rw [IntKind.wrap_u64]; omega) ?_
  simp only [Act.put, List.setIfInBounds_toArray, List.set_cons_zero, List.set_cons_succ]
  refine det_or _ _ _ _ _ _ _ (bits .or .u64 (bits .or .u64 ((x0 : Int) * 72057594037927936) ((x1 : Int) * 281474976710656)) ((x2 : Int) * 1099511627776)) (by rfl) rfl rfl rfl rfl ?_
  simp only [Act.put, List.setIfInBounds_toArray, List.set_cons_zero, List.set_cons_succ]
  refine det_move _ (.slice (some ⟨c, off, none⟩) len cap) (by rfl) rfl rfl ?_
  simp only [Act.put, List.setIfInBounds_toArray, List.set_cons_zero, List.set_cons_succ]
  refine det_sindex _ _ _ _ c off len cap 3 (by rfl) rfl rfl rfl Tryd.underlying25 (by omega) Tryd.sizeOf5 ?_
  simp only [Act.put, List.setIfInBounds_toArray, List.set_cons_zero, List.set_cons_succ]
  refine det_cell _ _ c (off + 3) (.int .u8 (x3 : Int)) (by rfl) rfl rfl (fun w' hw => HC3.out w' hw) Tryd.isAgg5 ?_
  simp only [Act.put, List.setIfInBounds_toArray, List.set_cons_zero, List.set_cons_succ]
  refine det_conv _ _ _ .u8 .u64 (x3 : Int) (x3 : Int) (by rfl) rfl rfl rfl Tryd.underlying55 (w64 (by omega)) ?_
  simp only [Act.put, List.setIfInBounds_toArray, List.set_cons_zero, List.set_cons_succ]
  refine det_shlk _ _ _ _ .u64 .u64 (x3 : Int) ((x3 : Int) * 4294967296) 32 (by rfl) rfl rfl rfl (by decide) (by rw [IntKind.wrap_u64]; omega) ?_
  simp only [Act.put, List.setIfInBounds_toArray, List.set_cons_zero, List.set_cons_succ]
  refine det_or _ _ _ _ _ _ _ (bits .or .u64 (bits .or .u64 (bits .or .u64 ((x0 : Int) * 72057594037927936) ((x1 : Int) * 281474976710656)) ((x2 : Int) * 1099511627776)) ((x3 : Int) * 4294967296)) (by rfl) rfl rfl rfl rfl ?_
  simp only [Act.put, List.setIfInBounds_toArray, List.set_cons_zero, List.set_cons_succ]
  refine det_move _ (.slice (some ⟨c, off, none⟩) len cap) (by rfl) rfl rfl ?_
  simp only [Act.put, List.setIfInBounds_toArray, List.set_cons_zero, List.set_cons_succ]
  refine det_sindex _ _ _ _ c off len cap 4 (by rfl) rfl rfl rfl Tryd.underlying25 (by omega) Tryd.sizeOf5 ?_
  simp only [Act.put, List.setIfInBounds_toArray, List.set_cons_zero, List.set_cons_succ]
  refine det_cell _ _ c (off + 4) (.int .u8 (x4 : Int)) (by rfl) rfl rfl (fun w' hw => HC4.out w' hw) Tryd.isAgg5 ?_
  simp only [Act.put, List.setIfInBounds_toArray, List.set_cons_zero, List.set_cons_succ]
  refine det_conv _ _ _ .u8 .u64 (x4 : Int) (x4 : Int) (by rfl) rfl rfl rfl Tryd.underlying55 (w64 (by omega)) ?_
  simp only [Act.put, List.setIfInBounds_toArray, List.set_cons_zero, List.set_cons_succ]
  refine det_shlk _ _ _ _ .u64 .u64 (x4 : Int) ((x4 : Int) * 16777216) 24 (by rfl) rfl rfl rfl (by decide) (by rw [IntKind.wrap_u64]; omega) ?_
  simp only [Act.put, List.setIfInBounds_toArray, List.set_cons_zero, List.set_cons_succ]
  refine det_or _ _ _ _ _ _ _ (bits .or .u64 (bits .or .u64 (bits .or .u64 (bits .or .u64 ((x0 : Int) * 72057594037927936) ((x1 : Int) * 281474976710656)) ((x2 : Int) * 1099511627776)) ((x3 : Int) * 4294967296)) ((x4 : Int) * 16777216)) (by rfl) rfl rfl rfl rfl ?_
  simp only [Act.put, List.setIfInBounds_toArray, List.set_cons_zero, List.set_cons_succ]
  refine det_move _ (.slice (some ⟨c, off, none⟩) len cap) (by rfl) rfl rfl ?_
  simp only [Act.put, List.setIfInBounds_toArray, List.set_cons_zero, List.set_cons_succ]
  refine det_sindex _ _ _ _ c off len cap 5 (by rfl) rfl rfl rfl Tryd.underlying25 (by omega) Tryd.sizeOf5 ?_
  simp only [Act.put, List.setIfInBounds_toArray, List.set_cons_zero, List.set_cons_succ]
  refine det_cell _ _ c (off + 5) (.int .u8 (x5 : Int)) (by rfl) rfl rfl (fun w' hw => HC5.out w' hw) Tryd.isAgg5 ?_
  simp only [Act.put, List.setIfInBounds_toArray, List.set_cons_zero, List.set_cons_succ]
  refine det_conv _ _ _ .u8 .u64 (x5 : Int) (x5 : Int) (by rfl) rfl rfl rfl Tryd.underlying55 (w64 (by omega)) ?_
  simp only [Act.put, List.setIfInBounds_toArray, List.set_cons_zero, List.set_cons_succ]
  refine det_shlk _ _ _ _ .u64 .u64 (x5 : Int) ((x5 : Int) * 65536) 16 (by rfl) rfl rfl rfl (by decide) (by rw [IntKind.wrap_u64]; omega) ?_
  simp only [Act.put, List.setIfInBounds_toArray, List.set_cons_zero, List.set_cons_succ]
  refine det_or _ _ _ _ _ _ _ (bits .or .u64 (bits .or .u64 (bits .or .u64 (bits .or .u64 (bits .or .u64 ((x0 : Int) * 72057594037927936) ((x1 : Int) * 281474976710656)) ((x2 : Int) * 1099511627776)) ((x3 : Int) * 4294967296)) ((x4 : Int) * 16777216)) ((x5 : Int) * 65536)) (by rfl) rfl rfl rfl rfl ?_
  simp only [Act.put, List.setIfInBounds_toArray, List.set_cons_zero, List.set_cons_succ]
  refine det_move _ (.slice (some ⟨c, off, none⟩) len cap) (by rfl) rfl rfl ?_
  simp only [Act.put, List.setIfInBounds_toArray, List.set_cons_zero, List.set_cons_succ]
  refine det_sindex _ _ _ _ c off len cap 6 (by rfl) rfl rfl rfl Tryd.underlying25 (by omega) Tryd.sizeOf5 ?_
  simp only [Act.put, List.setIfInBounds_toArray, List.set_cons_zero, List.set_cons_succ]
  refine det_cell _ _ c (off + 6) (.int .u8 (x6 : Int)) (by rfl) rfl rfl (fun w' hw => HC6.out w' hw) Tryd.isAgg5 ?_
  simp only [Act.put, List.setIfInBounds_toArray, List.set_cons_zero, List.set_cons_succ]
  refine det_conv _ _ _ .u8 .u64 (x6 : Int) (x6 : Int) (by rfl) rfl rfl rfl Tryd.underlying55 (w64 (by omega)) ?_
  simp only [Act.put, List.setIfInBounds_toArray, List.set_cons_zero, List.set_cons_succ]
  refine det_shlk _ _ _ _ .u64 .u64 (x6 : Int) ((x6 : Int) * 256) 8 (by rfl) rfl rfl rfl (by decide) (by rw [IntKind.wrap_u64]; omega) ?_
  simp only [Act.put, List.setIfInBounds_toArray, List.set_cons_zero, List.set_cons_succ]
  refine det_or _ _ _ _ _ _ _ (bits .or .u64 (bits .or .u64 (bits .or .u64 (bits .or .u64 (bits .or .u64 (bits .or .u64 ((x0 : Int) * 72057594037927936) ((x1 : Int) * 281474976710656)) ((x2 : Int) * 1099511627776)) ((x3 : Int) * 4294967296)) ((x4 : Int) * 16777216)) ((x5 : Int) * 65536)) ((x6 : Int) * 256)) (by rfl) rfl rfl rfl rfl ?_
  simp only [Act.put, List.setIfInBounds_toArray, List.set_cons_zero, List.set_cons_succ]
  refine det_move _ (.slice (some ⟨c, off, none⟩) len cap) (by rfl) rfl rfl ?_
  simp only [Act.put, List.setIfInBounds_toArray, List.set_cons_zero, List.set_cons_succ]
  refine det_sindex _ _ _ _ c off len cap 7 (by rfl) rfl rfl rfl Tryd.underlying25 (by omega) Tryd.sizeOf5 ?_
  simp only [Act.put, List.setIfInBounds_toArray, List.set_cons_zero, List.set_cons_succ]
  refine det_cell _ _ c (off + 7) (.int .u8 (x7 : Int)) (by rfl) rfl rfl (fun w' hw => HC7.out w' hw) Tryd.isAgg5 ?_
  simp only [Act.put, List.setIfInBounds_toArray, List.set_cons_zero, List.set_cons_succ]
  refine det_conv _ _ _ .u8 .u64 (x7 : Int) (x7 : Int) (by rfl) rfl rfl rfl Tryd.underlying55 (w64 (by omega)) ?_
  simp only [Act.put, List.setIfInBounds_toArray, List.set_cons_zero, List.set_cons_succ]
  refine det_or _ _ _ _ _ _ _ (bits .or .u64 (bits .or .u64 (bits .or .u64 (bits .or .u64 (bits .or .u64 (bits .or .u64 (bits .or .u64 ((x0 : Int) * 72057594037927936) ((x1 : Int) * 281474976710656)) ((x2 : Int) * 1099511627776)) ((x3 : Int) * 4294967296)) ((x4 : Int) * 16777216)) ((x5 : Int) * 65536)) ((x6 : Int) * 256)) (x7 : Int)) (by rfl) rfl rfl rfl rfl ?_
  simp only [Act.put, List.setIfInBounds_toArray, List.set_cons_zero, List.set_cons_succ]
  refine det_assign _ (.int .u64 (bits .or .u64 (bits .or .u64 (bits .or .u64 (bits .or .u64 (bits .or .u64 (bits .or .u64 (bits .or .u64 ((x0 : Int) * 72057594037927936) ((x1 : Int) * 281474976710656)) ((x2 : Int) * 1099511627776)) ((x3 : Int) * 4294967296)) ((x4 : Int) * 16777216)) ((x5 : Int) * 65536)) ((x6 : Int) * 256)) (x7 : Int))) (by rfl) rfl rfl ?_
  simp only [Act.put, List.setIfInBounds_toArray, List.set_cons_zero, List.set_cons_succ]
  refine det_nil (fun w9 hw9 => ?_)
  go_wp2_with fail
  go_ret
  exact ⟨by rw [HBE.out, ← or8 x0 x1 x2 x3 x4 x5 x6 x7 d0 d1 d2 d3 d4 d5 d6 d7]; rfl, hw9⟩

/-- A word's eight bytes, the highest first, laid over a list from off on. -/
def put8 (cs : List UInt8) (off : Nat) (x : Q64) : List UInt8 := (((((((cs.set off (UInt8.ofNat (x.toNat / 72057594037927936))).set (off + 1) (UInt8.ofNat (x.toNat / 281474976710656))).set (off + 2) (UInt8.ofNat (x.toNat / 1099511627776))).set (off + 3) (UInt8.ofNat (x.toNat / 4294967296))).set (off + 4) (UInt8.ofNat (x.toNat / 16777216))).set (off + 5) (UInt8.ofNat (x.toNat / 65536))).set (off + 6) (UInt8.ofNat (x.toNat / 256))).set (off + 7) (UInt8.ofNat x.toNat)
theorem put8_length (cs : List UInt8) (off : Nat) (x : Q64) : (put8 cs off x).length = cs.length := by simp [put8]
theorem bval_ofNatQ (n : Nat) : bval (UInt8.ofNat n) = .int .u8 ((n : Int) % 256) := by
  unfold bval
  rw [UInt8.toNat_ofNat']
  congr 1

set_option maxHeartbeats 4000000 in
/-- A word is laid over eight bytes of a block. -/
theorem put_anyQ (c off len cap : Nat) (cs : List UInt8) (x : Q64) (t : TypeId) (w : World) (hb : Blk w c (cs.map bval) t) (hl : off + 8 ≤ cs.length) (h4 : 8 ≤ len) :
    Calls Tryd.prog 38 #[.slice (some ⟨c, off, none⟩) len cap, .int .u64 (qi x)] w fun e w' => e = .returned (.tuple #[]) ∧ Blk w' c ((put8 cs off x).map bval) t ∧ w.grownBy w' (some c) := by
  have cc : ∀ j, j ≤ 7 → w.cell? ⟨c, off + j, none⟩ = some (.int .u8 ((cs.getD (off + j) 0).toNat : Int)) := fun j hj => by
    rw [hb.cell, bval_get (by omega)]
  have ff : ∀ j, w.frozen? ⟨c, off + j, none⟩ = false := fun j => hb.free _
  have c0 := cc 0 (by omega)
  have c1 := cc 1 (by omega)
  have c2 := cc 2 (by omega)
  have c3 := cc 3 (by omega)
  have c4 := cc 4 (by omega)
  have c5 := cc 5 (by omega)
  have c6 := cc 6 (by omega)
  have c7 := cc 7 (by omega)
  have f0 := ff 0
  have f1 := ff 1
  have f2 := ff 2
  have f3 := ff 3
  have f4 := ff 4
  have f5 := ff 5
  have f6 := ff 6
  have f7 := ff 7
  simp only [Nat.add_zero] at c0 f0
  generalize (cs.getD off 0).toNat = x0 at *
  generalize (cs.getD (off + 1) 0).toNat = x1 at *
  generalize (cs.getD (off + 2) 0).toNat = x2 at *
  generalize (cs.getD (off + 3) 0).toNat = x3 at *
  generalize (cs.getD (off + 4) 0).toNat = x4 at *
  generalize (cs.getD (off + 5) 0).toNat = x5 at *
  generalize (cs.getD (off + 6) 0).toNat = x6 at *
  generalize (cs.getD (off + 7) 0).toNat = x7 at *
  have HB := Lib.hid hb
  have HL := Lib.hid hl
  have hr := qi_range x
  have HX : Hid (qi x = (x.toNat : Int)) := Lib.hid rfl
  clear cc ff hb hl
  have i0 : (0 : Int) < (len : Int) ∧ (1 : Int) < (len : Int) ∧ (2 : Int) < (len : Int) ∧ (3 : Int) < (len : Int) ∧ (4 : Int) < (len : Int) ∧ (5 : Int) < (len : Int) ∧ (6 : Int) < (len : Int) ∧ (7 : Int) < (len : Int) := by omega
  obtain ⟨i0, i1, i2, i3, i4, i5, i6, i7⟩ := i0
  have b0 : bval (UInt8.ofNat (x.toNat / 72057594037927936)) = .int .u8 (qi x / 72057594037927936) := by rw [bval_ofNatQ]; congr 1; unfold qi; have := x.isLt; omega
  have b1 : bval (UInt8.ofNat (x.toNat / 281474976710656)) = .int .u8 (qi x / 281474976710656 % 256) := by rw [bval_ofNatQ]; congr 1
  have b2 : bval (UInt8.ofNat (x.toNat / 1099511627776)) = .int .u8 (qi x / 1099511627776 % 256) := by rw [bval_ofNatQ]; congr 1
  have b3 : bval (UInt8.ofNat (x.toNat / 4294967296)) = .int .u8 (qi x / 4294967296 % 256) := by rw [bval_ofNatQ]; congr 1
  have b4 : bval (UInt8.ofNat (x.toNat / 16777216)) = .int .u8 (qi x / 16777216 % 256) := by rw [bval_ofNatQ]; congr 1
  have b5 : bval (UInt8.ofNat (x.toNat / 65536)) = .int .u8 (qi x / 65536 % 256) := by rw [bval_ofNatQ]; congr 1
  have b6 : bval (UInt8.ofNat (x.toNat / 256)) = .int .u8 (qi x / 256 % 256) := by rw [bval_ofNatQ]; congr 1
  have b7 : bval (UInt8.ofNat x.toNat) = .int .u8 (qi x % 256) := by rw [bval_ofNatQ]; congr 1
  have hP : (put8 cs off x).map bval = ((((((((cs.map bval).set off (.int .u8 (qi x / 72057594037927936))).set (off + 1) (.int .u8 (qi x / 281474976710656 % 256))).set (off + 2) (.int .u8 (qi x / 1099511627776 % 256))).set (off + 3) (.int .u8 (qi x / 4294967296 % 256))).set (off + 4) (.int .u8 (qi x / 16777216 % 256))).set (off + 5) (.int .u8 (qi x / 65536 % 256))).set (off + 6) (.int .u8 (qi x / 256 % 256))).set (off + 7) (.int .u8 (qi x % 256)) := by
    unfold put8
    rw [List.map_set, List.map_set, List.map_set, List.map_set, List.map_set, List.map_set, List.map_set, List.map_set, b0, b1, b2, b3, b4, b5, b6, b7]
  have HP := Lib.hid hP
  clear hP b0 b1 b2 b3 b4 b5 b6 b7
  generalize qi x = z at *
  go_enter Tryd.func38, Tryd.ntmps38
  go_wp2_with fail
  refine bodyPost_end (results_none rfl _ _ _) rfl ?_
  refine ⟨rfl, ?_, ?_⟩
  · rw [HP.out]
    exact (((((((HB.out.set _ _).set _ _).set _ _).set _ _).set _ _).set _ _).set _ _).set _ _
  · exact grownBy_set (grownBy_set (grownBy_set (grownBy_set (grownBy_set (grownBy_set (grownBy_set (grownBy_set (grownBy_refl w _) _ _) _ _) _ _) _ _) _ _) _ _) _ _) _ _

end Go.Proofs.YtmadoehajapfhaaDoor
