/- The walk of the code's limbs of a number. Each theorem names its own conditions. -/
import Derived.Test.YtmiapjmdolecbaaDoorFldWord
import Derived.Test.YtmiapjmdolecbaaDoorRefIn
namespace Go.Proofs.YtmiapjmdolecbaaDoor
open Go.RowKit
set_option linter.unusedVariables false
set_option linter.unusedSimpArgs false

def wAt (l : List UInt8) (o : Nat) : Nat := w8 (l.getD o 0).toNat (l.getD (o + 1) 0).toNat (l.getD (o + 2) 0).toNat (l.getD (o + 3) 0).toNat (l.getD (o + 4) 0).toNat (l.getD (o + 5) 0).toNat (l.getD (o + 6) 0).toNat (l.getD (o + 7) 0).toNat
theorem wAt_lt (l : List UInt8) (o : Nat) : wAt l o < 18446744073709551616 := by
  unfold wAt w8
  have h0 := (l.getD o 0).toNat_lt
  have h1 := (l.getD (o + 1) 0).toNat_lt
  have h2 := (l.getD (o + 2) 0).toNat_lt
  have h3 := (l.getD (o + 3) 0).toNat_lt
  have h4 := (l.getD (o + 4) 0).toNat_lt
  have h5 := (l.getD (o + 5) 0).toNat_lt
  have h6 := (l.getD (o + 6) 0).toNat_lt
  have h7 := (l.getD (o + 7) 0).toNat_lt
  omega
theorem word_blk (p off cap : Nat) (l : List UInt8) (tb : TypeId) (w : World) (hb : Blk w p (l.map bval) tb) (hl : l.length = 32) (ho : off + 8 ≤ 32) :
    Calls Tryd.prog 23 #[.slice (some ⟨p, off, none⟩) 8 cap] w fun e' w' => e' = .returned (.int .u64 ((wAt l off : Nat) : Int)) ∧ Below w.heap.size w w' := by
  have c : ∀ i, i < 8 → w.cell? ⟨p, off + i, none⟩ = some (.int .u8 ((l.getD (off + i) 0).toNat : Int)) := fun i hi => (hb.cell _).trans (bval_get (by omega))
  exact word_any p off cap _ _ _ _ _ _ _ _ (UInt8.toNat_lt _) (UInt8.toNat_lt _) (UInt8.toNat_lt _) (UInt8.toNat_lt _) (UInt8.toNat_lt _) (UInt8.toNat_lt _) (UInt8.toNat_lt _) (UInt8.toNat_lt _) w (c 0 (by omega)) (c 1 (by omega)) (c 2 (by omega)) (c 3 (by omega)) (c 4 (by omega)) (c 5 (by omega)) (c 6 (by omega)) (c 7 (by omega))

/-- The limbs of four words. -/
def limbsW (a b c d : Nat) : L5 := ⟨a % 2251799813685248 + 19 * (d / 9223372036854775808), (8192 * (b % 2251799813685248) + a / 2251799813685248) % 2251799813685248, (67108864 * (c % 274877906944) + b / 274877906944) % 2251799813685248, (549755813888 * (d % 33554432) + c / 33554432) % 2251799813685248, d / 4096 % 2251799813685248⟩
theorem limbsW_lt {a b c d : Nat} (hd : d < 18446744073709551616) : (limbsW a b c d).lt 18014398509481984 := by
  refine ⟨?_, ?_, ?_, ?_, ?_⟩ <;> simp only [limbsW] <;> omega
theorem limbsW_val {a b c d : Nat} (ha : a < 18446744073709551616) (hb : b < 18446744073709551616) (hc : c < 18446744073709551616) (hd : d < 18446744073709551616) :
    (limbsW a b c d).val + 57896044618658097711785492504343953926634992332820282019728792003956564819949 * (d / 9223372036854775808) = a + 18446744073709551616 * b + 340282366920938463463374607431768211456 * c + 6277101735386680763835789423207666416102355444464034512896 * d := by
  have e1 : (8192 * (b % 2251799813685248) + a / 2251799813685248) % 2251799813685248 = 8192 * (b % 274877906944) + a / 2251799813685248 := by omega
  have e2 : (67108864 * (c % 274877906944) + b / 274877906944) % 2251799813685248 = 67108864 * (c % 33554432) + b / 274877906944 := by omega
  have e3 : (549755813888 * (d % 33554432) + c / 33554432) % 2251799813685248 = 549755813888 * (d % 4096) + c / 33554432 := by omega
  have e4 : d / 4096 % 2251799813685248 + 2251799813685248 * (d / 9223372036854775808) = d / 4096 := by omega
  simp only [limbsW, L5.val]
  rw [e1, e2, e3]
  omega
/-- The limbs of a number of 32 bytes. -/
def limbsL (l : List UInt8) : L5 := limbsW (wAt l 0) (wAt l 8) (wAt l 16) (wAt l 24)
theorem limbsL_lt (l : List UInt8) : (limbsL l).lt 18014398509481984 := limbsW_lt (wAt_lt l 24)
theorem leN8 (a b c d e f g h : UInt8) (r : List UInt8) : leN (a :: b :: c :: d :: e :: f :: g :: h :: r) = w8 a.toNat b.toNat c.toNat d.toNat e.toNat f.toNat g.toNat h.toNat + 18446744073709551616 * leN r := by
  simp only [leN, w8]
  omega
theorem leN_words (l : List UInt8) (hl : l.length = 32) : leN l = wAt l 0 + 18446744073709551616 * wAt l 8 + 340282366920938463463374607431768211456 * wAt l 16 + 6277101735386680763835789423207666416102355444464034512896 * wAt l 24 := by
  have e : leN l = leN [l.getD 0 0, l.getD 1 0, l.getD 2 0, l.getD 3 0, l.getD 4 0, l.getD 5 0, l.getD 6 0, l.getD 7 0, l.getD 8 0, l.getD 9 0, l.getD 10 0, l.getD 11 0, l.getD 12 0, l.getD 13 0, l.getD 14 0, l.getD 15 0, l.getD 16 0, l.getD 17 0, l.getD 18 0, l.getD 19 0, l.getD 20 0, l.getD 21 0, l.getD 22 0, l.getD 23 0, l.getD 24 0, l.getD 25 0, l.getD 26 0, l.getD 27 0, l.getD 28 0, l.getD 29 0, l.getD 30 0, l.getD 31 0] := by rw [← bytes32 l hl]
  rw [e, leN8, leN8, leN8, leN8]
  have e0 : leN [] = 0 := rfl
  rw [e0]
  show wAt l 0 + 18446744073709551616 * (wAt l 8 + 18446744073709551616 * (wAt l 16 + 18446744073709551616 * (wAt l 24 + 18446744073709551616 * 0))) = _
  generalize wAt l 0 = x0
  generalize wAt l 8 = x1
  generalize wAt l 16 = x2
  generalize wAt l 24 = x3
  omega
theorem limbsL_val (l : List UInt8) (hl : l.length = 32) : Cong ((limbsL l).val : Nat) (leN l : Nat) := by
  have h := limbsW_val (wAt_lt l 0) (wAt_lt l 8) (wAt_lt l 16) (wAt_lt l 24)
  rw [leN_words l hl, ← h]
  refine ⟨-((wAt l 24 / 9223372036854775808 : Nat) : Int), ?_⟩
  have hp : pP = 57896044618658097711785492504343953926634992332820282019728792003956564819949 := rfl
  rw [hp]
  unfold limbsL
  generalize (limbsW (wAt l 0) (wAt l 8) (wAt l 16) (wAt l 24)).val = v
  generalize wAt l 24 / 9223372036854775808 = q
  omega
theorem lw0 (a d : Nat) (ha : a < 18446744073709551616) (hd : d < 18446744073709551616) : IntKind.u64.wrap (bits .and .u64 (a : Int) 2251799813685247 + IntKind.u64.wrap (19 * ((d : Int) / 9223372036854775808))) = ((a % 2251799813685248 + 19 * (d / 9223372036854775808) : Nat) : Int) := by
  rw [mask51 a ha, IntKind.wrap_u64, IntKind.wrap_u64]
  omega
theorem lwm (a b k m r s : Nat) (i : Nat) (ha : a < 18446744073709551616) (hb : b < 18446744073709551616) (hr : r = 2 ^ i) (hx : a / k < r) (hs : r * s = 18446744073709551616) :
    bits .and .u64 (bits .or .u64 ((a / k : Nat) : Int) (IntKind.u64.wrap ((b : Int) * (r : Int)))) 2251799813685247 = (((r * (b % s) + a / k) % 2251799813685248 : Nat) : Int) := by
  have e1 : IntKind.u64.wrap ((b : Int) * (r : Int)) = ((r * (b % s) : Nat) : Int) := by
    rw [natMul, w64m, ← hs, Nat.mul_comm b r, Nat.mul_mod_mul_left]
  have hb2 : b % s < s := Nat.mod_lt _ (by rcases Nat.eq_zero_or_pos s with h | h; (subst h; simp at hs); exact h)
  have hb3 : r * (b % s) + r ≤ 18446744073709551616 := by
    rw [← hs, ← Nat.mul_succ]
    exact Nat.mul_le_mul_left _ hb2
  have h0 : a / k ≤ a := Nat.div_le_self _ _
  have h00 : 0 < r := Nat.lt_of_le_of_lt (Nat.zero_le _) hx
  rw [e1, or64 _ _ (by omega) (by omega), Nat.or_comm]
  rw [hr] at hx hb3 ⊢
  rw [or_sum i _ _ hx, mask51 _ (by omega)]
theorem lw4 (d : Nat) (hd : d < 18446744073709551616) : bits .and .u64 ((d : Int) / 4096) 2251799813685247 = ((d / 4096 % 2251799813685248 : Nat) : Int) := by
  have : (d : Int) / 4096 = ((d / 4096 : Nat) : Int) := by omega
  rw [this, mask51 _ (by omega)]

set_option maxRecDepth 100000 in
set_option maxHeartbeats 4000000 in
theorem limbsOf_any (l : List UInt8) (hl : l.length = 32) (w : World) :
    Calls Tryd.prog 12 #[.agg (l.map bval).toArray] w fun e w' => e = .returned (limbsL l).v ∧ Below w.heap.size w w' := by
  have HL := Lib.hid hl
  have HB := Lib.hid (boxes2 w (l.map bval) zero5 23 33)
  clear hl
  go_enter Tryd.func12, Tryd.ntmps12
  go_wp2_with fail
  change Code.wp _ _ _ _ ((w.alloc (.cells (l.map bval).toArray 23)).alloc (.cells zero5.toArray 33))
  generalize (w.alloc (.cells (l.map bval).toArray 23)).alloc (.cells zero5.toArray 33) = w0 at *
  obtain ⟨h1, h2, h4⟩ := HB.out
  obtain ⟨A, hA⟩ : ∃ A, A = w.heap.size := ⟨_, rfl⟩
  rw [← hA] at h1 h2 ⊢
  have hA2 : w.heap.size ≤ A := by omega
  have H1 := Lib.hid h1
  have H2 := Lib.hid h2
  have HE : Hid (Ext w w0) := Lib.hid h4
  clear h1 h2 h4 HB hA
  refine wp_region_from 12 0 12 rfl (by kernel_rfl) (by kernel_rfl) (fun d v c a w h => by cases d <;> exact h) (by kernel_rfl) ?_
  refine det_val (.slice (some ⟨A, 0, none⟩) 8 32) (by rfl) (fun w hw => by go_simp) ?_
  simp only [Act.put, List.setIfInBounds_toArray, List.set_cons_zero, List.set_cons_succ]
  refine det_call _ _ _ [.slice (some ⟨A, 0, none⟩) 8 32] (.int .u64 ((wAt l 0 : Nat) : Int)) (by rfl) rfl Tryd.call23 rfl (fun w hw => word_blk A 0 32 l 23 w (ext_blk H1.out hw) HL.out (by omega)) ?_
  simp only [Act.put, List.setIfInBounds_toArray, List.set_cons_zero, List.set_cons_succ]
  refine det_val (.slice (some ⟨A, 8, none⟩) 8 24) (by rfl) (fun w hw => by go_simp) ?_
  simp only [Act.put, List.setIfInBounds_toArray, List.set_cons_zero, List.set_cons_succ]
  refine det_call _ _ _ [.slice (some ⟨A, 8, none⟩) 8 24] (.int .u64 ((wAt l 8 : Nat) : Int)) (by rfl) rfl Tryd.call23 rfl (fun w hw => word_blk A 8 24 l 23 w (ext_blk H1.out hw) HL.out (by omega)) ?_
  simp only [Act.put, List.setIfInBounds_toArray, List.set_cons_zero, List.set_cons_succ]
  refine det_val (.slice (some ⟨A, 16, none⟩) 8 16) (by rfl) (fun w hw => by go_simp) ?_
  simp only [Act.put, List.setIfInBounds_toArray, List.set_cons_zero, List.set_cons_succ]
  refine det_call _ _ _ [.slice (some ⟨A, 16, none⟩) 8 16] (.int .u64 ((wAt l 16 : Nat) : Int)) (by rfl) rfl Tryd.call23 rfl (fun w hw => word_blk A 16 16 l 23 w (ext_blk H1.out hw) HL.out (by omega)) ?_
  simp only [Act.put, List.setIfInBounds_toArray, List.set_cons_zero, List.set_cons_succ]
  refine det_val (.slice (some ⟨A, 24, none⟩) 8 8) (by rfl) (fun w hw => by go_simp) ?_
  simp only [Act.put, List.setIfInBounds_toArray, List.set_cons_zero, List.set_cons_succ]
  refine det_call _ _ _ [.slice (some ⟨A, 24, none⟩) 8 8] (.int .u64 ((wAt l 24 : Nat) : Int)) (by rfl) rfl Tryd.call23 rfl (fun w hw => word_blk A 24 8 l 23 w (ext_blk H1.out hw) HL.out (by omega)) ?_
  simp only [Act.put, List.setIfInBounds_toArray, List.set_cons_zero, List.set_cons_succ]
  refine det_assign _ (.int .u64 ((wAt l 0 : Nat) : Int)) (by rfl) rfl rfl ?_
  simp only [Act.put, List.setIfInBounds_toArray, List.set_cons_zero, List.set_cons_succ]
  refine det_assign _ (.int .u64 ((wAt l 8 : Nat) : Int)) (by rfl) rfl rfl ?_
  simp only [Act.put, List.setIfInBounds_toArray, List.set_cons_zero, List.set_cons_succ]
  refine det_assign _ (.int .u64 ((wAt l 16 : Nat) : Int)) (by rfl) rfl rfl ?_
  simp only [Act.put, List.setIfInBounds_toArray, List.set_cons_zero, List.set_cons_succ]
  refine det_assign _ (.int .u64 ((wAt l 24 : Nat) : Int)) (by rfl) rfl rfl ?_
  simp only [Act.put, List.setIfInBounds_toArray, List.set_cons_zero, List.set_cons_succ]
  refine det_nil (end_none (by kernel_rfl) (fun w1 hw1 => ?_))
  have H2 := Lib.hid (ext_blk H2.out hw1)
  have HE := Lib.hid (HE.out.trans hw1)
  have g0 := wAt_lt l 0
  have g1 := wAt_lt l 8
  have g2 := wAt_lt l 16
  have g3 := wAt_lt l 24
  have HL5 : Hid (limbsL l = limbsW (wAt l 0) (wAt l 8) (wAt l 16) (wAt l 24)) := Lib.hid rfl
  clear hw1 H1
  generalize wAt l 0 = x0 at *
  generalize wAt l 8 = x1 at *
  generalize wAt l 16 = x2 at *
  generalize wAt l 24 = x3 at *
  have R0 := Lib.hid (lw0 x0 x3 g0 g3)
  have R1 : Hid (bits .and .u64 (bits .or .u64 ((x0 : Int) / 2251799813685248) (IntKind.u64.wrap ((x1 : Int) * 8192))) 2251799813685247 = (((8192 * (x1 % 2251799813685248) + x0 / 2251799813685248) % 2251799813685248 : Nat) : Int)) := Lib.hid (lwm x0 x1 2251799813685248 0 8192 2251799813685248 13 g0 g1 rfl (by omega) rfl)
  have R2 : Hid (bits .and .u64 (bits .or .u64 ((x1 : Int) / 274877906944) (IntKind.u64.wrap ((x2 : Int) * 67108864))) 2251799813685247 = (((67108864 * (x2 % 274877906944) + x1 / 274877906944) % 2251799813685248 : Nat) : Int)) := Lib.hid (lwm x1 x2 274877906944 0 67108864 274877906944 26 g1 g2 rfl (by omega) rfl)
  have R3 : Hid (bits .and .u64 (bits .or .u64 ((x2 : Int) / 33554432) (IntKind.u64.wrap ((x3 : Int) * 549755813888))) 2251799813685247 = (((549755813888 * (x3 % 33554432) + x2 / 33554432) % 2251799813685248 : Nat) : Int)) := Lib.hid (lwm x2 x3 33554432 0 549755813888 33554432 39 g2 g3 rfl (by omega) rfl)
  have R4 := Lib.hid (lw4 x3 g3)
  clear g0 g1 g2 g3
  go_wp2_with (refine wpList_store_blk rfl _ _ _ rfl (A + 1) [.int .u64 _, .int .u64 _, .int .u64 _, .int .u64 _, .int .u64 _] rfl rfl _ _ H2.out rfl Tryd.arr33 (one5 _ _ _ _ _) ?_; intro w5 hb5 hg5)
  rw [R0.out, R1.out, R2.out, R3.out, R4.out] at hb5
  exact bodyPost_ret (v := (limbsW x0 x1 x2 x3).v) (result_row (by rfl) _ (A + 1) _ _ _ (by rfl) hb5 Tryd.underlying33 rfl Tryd.arr33) rfl ⟨by rw [HL5.out], ext_grown HE.out hg5 (by omega)⟩

end Go.Proofs.YtmiapjmdolecbaaDoor
