/- The walk of the code's Pick. Each theorem names its own conditions. -/
import Derived.Test.YtmiapjmdolecbaaDoorFldTop1
namespace Go.Proofs.YtmiapjmdolecbaaDoor
open Go.RowKit
set_option linter.unusedVariables false
set_option linter.unusedSimpArgs false

theorem xor8 (a b : Nat) (ha : a < 256) (hb : b < 256) : bits .xor .u8 (a : Int) (b : Int) = ((a ^^^ b : Nat) : Int) := by
  have e1 : (BitVec.ofInt 8 (a : Int)).toNat = a := by rw [BitVec.toNat_ofInt]; omega
  have e2 : (BitVec.ofInt 8 (b : Int)).toNat = b := by rw [BitVec.toNat_ofInt]; omega
  show IntKind.u8.wrap ((BitVec.ofInt 8 (a : Int) ^^^ BitVec.ofInt 8 (b : Int)).toNat : Nat) = _
  have e3 := (BitVec.ofInt 8 (a : Int) ^^^ BitVec.ofInt 8 (b : Int)).isLt
  rw [BitVec.toNat_xor, e1, e2] at e3 ⊢
  rw [IntKind.wrap_u8]
  omega
theorem and255 (x : Nat) (hx : x < 256) : bits .and .u8 255 (x : Int) = (x : Int) := by
  have e1 : (BitVec.ofInt 8 (255 : Int)).toNat = 255 := by decide
  have e2 : (BitVec.ofInt 8 (x : Int)).toNat = x := by rw [BitVec.toNat_ofInt]; omega
  show IntKind.u8.wrap ((BitVec.ofInt 8 (255 : Int) &&& BitVec.ofInt 8 (x : Int)).toNat : Nat) = _
  have e : x &&& 255 = x % 256 := Nat.and_two_pow_sub_one_eq_mod x 8
  rw [BitVec.toNat_and, e1, e2, Nat.and_comm, e, IntKind.wrap_u8]
  omega
theorem and0 (x : Nat) (hx : x < 256) : bits .and .u8 0 (x : Int) = 0 := by
  have e1 : (BitVec.ofInt 8 (0 : Int)).toNat = 0 := by decide
  show IntKind.u8.wrap ((BitVec.ofInt 8 (0 : Int) &&& BitVec.ofInt 8 (x : Int)).toNat : Nat) = _
  rw [BitVec.toNat_and, e1, Nat.zero_and]
  rfl
theorem xor0 (a : Nat) (ha : a < 256) : bits .xor .u8 (a : Int) 0 = (a : Int) := by
  have := xor8 a 0 ha (by omega)
  rwa [Nat.xor_zero] at this
/-- What holds of the bytes when k of them are picked. -/
structure PickL (l s zs : List UInt8) (k : Nat) : Prop where
  len : zs.length = 32
  low : ∀ i, i < k → zs.getD i 0 = s.getD i 0
  high : ∀ i, k ≤ i → zs.getD i 0 = l.getD i 0
theorem PickL.step {l s zs : List UInt8} {k : Nat} (h : PickL l s zs k) (hk : k < 32) : PickL l s (zs.set k (s.getD k 0)) (k + 1) := by
  obtain ⟨h1, h2, h3⟩ := h
  refine ⟨by simp [h1], fun i hi => ?_, fun i hi => ?_⟩
  · by_cases e : i = k
    · subst e
      simp [List.getD, show i < zs.length from by omega]
    · have := h2 i (by omega)
      simpa [List.getD, List.getElem?_set_ne (Ne.symm e)] using this
  · have := h3 i (by omega)
    simpa [List.getD, List.getElem?_set_ne (show k ≠ i from by omega)] using this
theorem PickL.done {l s zs : List UInt8} (h : PickL l s zs 32) (hs : s.length = 32) : zs = s := by
  apply List.ext_getElem (by have := h.len; omega)
  intro i hi hi2
  have := h.low i (by omega)
  simpa [List.getD, hi, hi2] using this

set_option maxHeartbeats 4000000 in
theorem Pick_false (l m : List UInt8) (w : World) (hl : l.length = 32) (hm : m.length = 32) :
    Calls Tryd.prog 18 #[.agg (l.map bval).toArray, .agg (m.map bval).toArray, .bool false] w fun e w' => e = .returned (.agg (l.map bval).toArray) ∧ Below w.heap.size w w' := by
  have HLl := Lib.hid hl
  have HLm := Lib.hid hm
  have HIl : Hid ((Tryd.prog.info? 23).map (·.size) = some (l.map bval).length) := Lib.hid (by rw [List.length_map, hl]; exact Tryd.arr23)
  have HIm : Hid ((Tryd.prog.info? 23).map (·.size) = some (m.map bval).length) := Lib.hid (by rw [List.length_map, hm]; exact Tryd.arr23)
  have HB := Lib.hid (boxes3 w (l.map bval) (m.map bval) zero32 23 23 23)
  clear hl hm
  go_enter Tryd.func18, Tryd.ntmps18
  go_wp2_with fail
  change Code.wp _ _ _ _ (((w.alloc (.cells (l.map bval).toArray 23)).alloc (.cells (m.map bval).toArray 23)).alloc (.cells zero32.toArray 23))
  generalize ((w.alloc (.cells (l.map bval).toArray 23)).alloc (.cells (m.map bval).toArray 23)).alloc (.cells zero32.toArray 23) = w0 at *
  obtain ⟨h1, h2, h3, h4⟩ := HB.out
  obtain ⟨A, hA⟩ : ∃ A, A = w.heap.size := ⟨_, rfl⟩
  rw [← hA] at h1 h2 h3 ⊢
  have hA2 : w.heap.size ≤ A := by omega
  have H1 := Lib.hid h1
  have H2 := Lib.hid h2
  have H3 := Lib.hid h3
  have HE : Hid (Ext w w0) := Lib.hid h4
  clear h1 h2 h3 h4 HB hA
  obtain ⟨wo, rfl⟩ : ∃ wo : World, wo = w0 := ⟨_, rfl⟩
  go_loopw [10] (fun i wr => ∃ (k : Nat) (zs : List UInt8), k ≤ 32 ∧ i = .int .i64 k ∧ PickL l l zs k ∧ Blk wr A (zs.map bval) 23 ∧ Blk wr (A + 1) (m.map bval) 23 ∧ Blk wr (A + 1 + 1) zero32 23 ∧ Ext w wr) (fun i _ => 32 - (intOf i).toNat)
  case atStart => exact ⟨0, l, by omega, rfl, ⟨HLl.out, fun i hi => by omega, fun i _ => rfl⟩, H1.out, H2.out, H3.out, HE.out⟩
  case round =>
    clear H1 H2 H3 HE
    obtain ⟨k, zs, hk, rfl, hs, hb1, hb2, hb3, hbe⟩ := hrel
    have i0' : (0 : Int) ≤ (k : Int) := Int.natCast_nonneg _
    have hl5 := hs.len
    by_cases hlt : k < 32
    · have i1 : (k : Int) < 32 := by omega
      have e1 := hb1.cell k
      rw [bval_get (by omega), hs.high k (Nat.le_refl _)] at e1
      have e2 := hb2.cell k
      rw [bval_get (by have := HLm.out; omega)] at e2
      have f1 := hb1.free k
      have b1 := (l.getD k 0).toNat_lt
      have b2 := (m.getD k 0).toNat_lt
      have hst := hs.step hlt
      have hv : bval (l.getD k 0) = .int .u8 ((l.getD k 0).toNat : Int) := rfl
      have HBV := Lib.hid hv
      clear hv
      generalize hga : (l.getD k 0).toNat = a at *
      generalize hgb : (m.getD k 0).toNat = b at *
      have q1 : bits .xor .u8 (a : Int) (b : Int) = ((a ^^^ b : Nat) : Int) := xor8 a b b1 b2
      have q2 : bits .and .u8 0 ((a ^^^ b : Nat) : Int) = 0 := and0 _ (Nat.xor_lt_two_pow (n := 8) b1 b2)
      have q3 : bits .xor .u8 (a : Int) 0 = (a : Int) := xor0 a b1
      generalize a ^^^ b = x at *
      have HST := Lib.hid hst
      have HB1 := Lib.hid hb1
      have HB2 := Lib.hid hb2
      have HB3 := Lib.hid hb3
      have HBE := Lib.hid hbe
      clear hs hst hb1 hb2 hb3 hbe hl5 b1 b2 hga hgb
      go_wp2_with fail
      go_region
      go_wp2_with fail
      go_roundw
      case rel =>
        refine ⟨k + 1, _, by omega, by go_num, HST.out, ?_, HB2.out.far (by simp) _, HB3.out.far (by simp; omega) _, (Below.setCell HBE.out (by simp; omega) _).drew⟩
        rw [List.map_set, HBV.out]
        exact HB1.out.set k _
      case measure => simp [intOf]; omega
    · have hk' : k = 32 := by omega
      subst hk'
      have hd := hs.done HLl.out
      rw [hd] at hb1
      have HB1 := Lib.hid hb1
      have HB3 := Lib.hid hb3
      have HBE := Lib.hid hbe
      clear hb1 hb2 hb3 hbe hs hl5
      go_wp2_with (first | (refine wpList_load_blk rfl _ _ rfl A rfl _ _ _ _ HB1.out Tryd.underlying23 HIl.out ?_) | (refine wpList_store_blk rfl _ _ _ rfl (A + 1 + 1) (l.map bval) rfl rfl _ _ HB3.out (by rw [List.length_map, HLl.out]; rfl) HIl.out (bval_one _) ?_; intro w5 hb5 hg5))
      exact bodyPost_ret (v := .agg (l.map bval).toArray) (result_row (by rfl) _ (A + 1 + 1) _ _ _ (by rfl) hb5 Tryd.underlying23 rfl HIl.out) rfl ⟨rfl, ext_grown HBE.out hg5 (by omega)⟩

set_option maxHeartbeats 4000000 in
theorem Pick_true (l m : List UInt8) (w : World) (hl : l.length = 32) (hm : m.length = 32) :
    Calls Tryd.prog 18 #[.agg (l.map bval).toArray, .agg (m.map bval).toArray, .bool true] w fun e w' => e = .returned (.agg (m.map bval).toArray) ∧ Below w.heap.size w w' := by
  have HLl := Lib.hid hl
  have HLm := Lib.hid hm
  have HIl : Hid ((Tryd.prog.info? 23).map (·.size) = some (l.map bval).length) := Lib.hid (by rw [List.length_map, hl]; exact Tryd.arr23)
  have HIm : Hid ((Tryd.prog.info? 23).map (·.size) = some (m.map bval).length) := Lib.hid (by rw [List.length_map, hm]; exact Tryd.arr23)
  have HB := Lib.hid (boxes3 w (l.map bval) (m.map bval) zero32 23 23 23)
  clear hl hm
  go_enter Tryd.func18, Tryd.ntmps18
  go_wp2_with fail
  change Code.wp _ _ _ _ (((w.alloc (.cells (l.map bval).toArray 23)).alloc (.cells (m.map bval).toArray 23)).alloc (.cells zero32.toArray 23))
  generalize ((w.alloc (.cells (l.map bval).toArray 23)).alloc (.cells (m.map bval).toArray 23)).alloc (.cells zero32.toArray 23) = w0 at *
  obtain ⟨h1, h2, h3, h4⟩ := HB.out
  obtain ⟨A, hA⟩ : ∃ A, A = w.heap.size := ⟨_, rfl⟩
  rw [← hA] at h1 h2 h3 ⊢
  have hA2 : w.heap.size ≤ A := by omega
  have H1 := Lib.hid h1
  have H2 := Lib.hid h2
  have H3 := Lib.hid h3
  have HE : Hid (Ext w w0) := Lib.hid h4
  clear h1 h2 h3 h4 HB hA
  obtain ⟨wo, rfl⟩ : ∃ wo : World, wo = w0 := ⟨_, rfl⟩
  go_loopw [10] (fun i wr => ∃ (k : Nat) (zs : List UInt8), k ≤ 32 ∧ i = .int .i64 k ∧ PickL l m zs k ∧ Blk wr A (zs.map bval) 23 ∧ Blk wr (A + 1) (m.map bval) 23 ∧ Blk wr (A + 1 + 1) zero32 23 ∧ Ext w wr) (fun i _ => 32 - (intOf i).toNat)
  case atStart => exact ⟨0, l, by omega, rfl, ⟨HLl.out, fun i hi => by omega, fun i _ => rfl⟩, H1.out, H2.out, H3.out, HE.out⟩
  case round =>
    clear H1 H2 H3 HE
    obtain ⟨k, zs, hk, rfl, hs, hb1, hb2, hb3, hbe⟩ := hrel
    have i0' : (0 : Int) ≤ (k : Int) := Int.natCast_nonneg _
    have hl5 := hs.len
    by_cases hlt : k < 32
    · have i1 : (k : Int) < 32 := by omega
      have e1 := hb1.cell k
      rw [bval_get (by omega), hs.high k (Nat.le_refl _)] at e1
      have e2 := hb2.cell k
      rw [bval_get (by have := HLm.out; omega)] at e2
      have f1 := hb1.free k
      have b1 := (l.getD k 0).toNat_lt
      have b2 := (m.getD k 0).toNat_lt
      have hst := hs.step hlt
      have hv : bval (m.getD k 0) = .int .u8 ((m.getD k 0).toNat : Int) := rfl
      have HBV := Lib.hid hv
      clear hv
      generalize hga : (l.getD k 0).toNat = a at *
      generalize hgb : (m.getD k 0).toNat = b at *
      have q0 : IntKind.u8.wrap (-1) = 255 := by rfl
      have q1 : bits .xor .u8 (a : Int) (b : Int) = ((a ^^^ b : Nat) : Int) := xor8 a b b1 b2
      have q2 : bits .and .u8 255 ((a ^^^ b : Nat) : Int) = ((a ^^^ b : Nat) : Int) := and255 _ (Nat.xor_lt_two_pow (n := 8) b1 b2)
      have q3 : bits .xor .u8 (a : Int) ((a ^^^ b : Nat) : Int) = (b : Int) := by
        rw [xor8 a _ b1 (Nat.xor_lt_two_pow (n := 8) b1 b2), ← Nat.xor_assoc, Nat.xor_self, Nat.zero_xor]
      generalize a ^^^ b = x at *
      have HST := Lib.hid hst
      have HB1 := Lib.hid hb1
      have HB2 := Lib.hid hb2
      have HB3 := Lib.hid hb3
      have HBE := Lib.hid hbe
      clear hs hst hb1 hb2 hb3 hbe hl5 b1 b2 hga hgb
      go_wp2_with fail
      go_region
      go_wp2_with fail
      go_roundw
      case rel =>
        refine ⟨k + 1, _, by omega, by go_num, HST.out, ?_, HB2.out.far (by simp) _, HB3.out.far (by simp; omega) _, (Below.setCell HBE.out (by simp; omega) _).drew⟩
        rw [List.map_set, HBV.out]
        exact HB1.out.set k _
      case measure => simp [intOf]; omega
    · have hk' : k = 32 := by omega
      subst hk'
      have hd := hs.done HLm.out
      rw [hd] at hb1
      have HB1 := Lib.hid hb1
      have HB3 := Lib.hid hb3
      have HBE := Lib.hid hbe
      clear hb1 hb2 hb3 hbe hs hl5
      go_wp2_with (first | (refine wpList_load_blk rfl _ _ rfl A rfl _ _ _ _ HB1.out Tryd.underlying23 HIm.out ?_) | (refine wpList_store_blk rfl _ _ _ rfl (A + 1 + 1) (m.map bval) rfl rfl _ _ HB3.out (by rw [List.length_map, HLm.out]; rfl) HIm.out (bval_one _) ?_; intro w5 hb5 hg5))
      exact bodyPost_ret (v := .agg (m.map bval).toArray) (result_row (by rfl) _ (A + 1 + 1) _ _ _ (by rfl) hb5 Tryd.underlying23 rfl HIm.out) rfl ⟨rfl, ext_grown HBE.out hg5 (by omega)⟩

theorem Pick_num (l m : List UInt8) (s : Bool) (w : World) (hl : l.length = 32) (hm : m.length = 32) :
    Calls Tryd.prog 18 #[.agg (l.map bval).toArray, .agg (m.map bval).toArray, .bool s] w fun e w' => e = .returned (.agg ((if s then m else l).map bval).toArray) ∧ Below w.heap.size w w' := by
  cases s with
  | false => exact Pick_false l m w hl hm
  | true => exact Pick_true l m w hl hm

end Go.Proofs.YtmiapjmdolecbaaDoor
