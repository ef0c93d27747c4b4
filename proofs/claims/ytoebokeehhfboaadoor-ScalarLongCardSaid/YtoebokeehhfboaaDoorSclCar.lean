/- The walk of the code's carry. Each theorem names its own conditions. -/
import Derived.Test.YtoebokeehhfboaaDoorSclMath
import Derived.Test.YtoebokeehhfboaaDoorNumKit
namespace Go.Proofs.YtoebokeehhfboaaDoor
open Go.RowKit
set_option linter.unusedVariables false
set_option linter.unusedSimpArgs false

theorem Tryd.arr36 : (Tryd.prog.info? 36).map (·.size) = some 19 := by kernel_rfl

theorem mask28 (a : Int) (h1 : -9223372036854775808 ≤ a) (h2 : a ≤ 9223372036854775807) : bits .and .i64 a 268435455 = a % 268435456 := by
  have h : (BitVec.ofInt 64 268435455).toNat = 2 ^ 28 - 1 := by decide
  have key : (BitVec.ofInt 64 a &&& BitVec.ofInt 64 268435455).toNat = (a % ((2 ^ 64 : Nat) : Int)).toNat % 2 ^ 28 := by
    rw [BitVec.toNat_and, BitVec.toNat_ofInt, h, Nat.and_two_pow_sub_one_eq_mod]
  show IntKind.i64.wrap ((BitVec.ofInt 64 a &&& BitVec.ofInt 64 268435455).toNat : Nat) = _
  rw [key, IntKind.wrap_i64]
  omega

theorem cRun_length (x : List Int) (f : Nat) : ∀ n, (cRun x f n).length = x.length
  | 0 => rfl
  | n + 1 => by simp [cRun, cStep, cRun_length x f n]

set_option maxHeartbeats 2000000 in
theorem carried_any (x : List Int) (f n : Nat) (fi ti : Int) (B : Int) (hl : x.length = 19) (hn : f + n ≤ 18) (hf : fi = (f : Int)) (ht : ti = ((f + n : Nat) : Int)) (h0 : 0 ≤ B) (h1 : B ≤ 2305843009213693952) (hB : ∀ j, f ≤ j → j ≤ f + n → -B ≤ x.getD j 0 ∧ x.getD j 0 ≤ B) (w : World) :
    Calls Tryd.prog 21 #[.agg (ints .i64 x).toArray, .int .i64 fi, .int .i64 ti] w fun e w' => e = .returned (.agg (ints .i64 (cRun x f n)).toArray) ∧ Below w.heap.size w w' := by
  subst hf; subst ht
  have HR : ∀ k, k ≤ n → CR x (cRun x f k) f k B := fun k hk => cRun_spec x f B h0 k (by omega) (fun j g1 g2 => hB j g1 (by omega))
  have HCR := Lib.hid HR
  have HXB := Lib.hid hB
  have HL := Lib.hid hl
  have HB := Lib.hid (boxes2 w (ints .i64 x) (ints .i64 (List.replicate 19 0)) 36 36)
  clear HR hB hl
  go_enter Tryd.func21, Tryd.ntmps21
  go_wp2_with fail
  change Code.wp _ _ _ _ ((w.alloc (.cells (ints .i64 x).toArray 36)).alloc (.cells (ints .i64 (List.replicate 19 0)).toArray 36))
  generalize (w.alloc (.cells (ints .i64 x).toArray 36)).alloc (.cells (ints .i64 (List.replicate 19 0)).toArray 36) = w0 at *
  obtain ⟨b1, b2, b3⟩ := HB.out
  obtain ⟨A, hA⟩ : ∃ A, A = w.heap.size := ⟨_, rfl⟩
  rw [← hA] at b1 b2 ⊢
  have hA2 : w.heap.size ≤ A := by omega
  have H1 := Lib.hid b1
  have H2 := Lib.hid b2
  have H3 := Lib.hid b3
  clear b1 b2 b3 hA HB
  go_loopw [7] (fun i wr => ∃ (k : Nat), k ≤ n ∧ i = .int .i64 ((f + k : Nat) : Int) ∧ Blk wr A (ints .i64 (cRun x f k)) 36 ∧ Blk wr (A + 1) (ints .i64 (List.replicate 19 0)) 36 ∧ Below w.heap.size w wr) (fun i _ => f + n - (intOf i).toNat)
  case atStart => exact ⟨0, by omega, rfl, H1.out, H2.out, H3.out⟩
  case round =>
    clear H1 H2 H3
    obtain ⟨k, hk, rfl, hb1, hb2, hbel⟩ := hrel
    have i0' : (0 : Int) ≤ ((f + k : Nat) : Int) := Int.natCast_nonneg _
    have hlen := cRun_length x f k
    rw [HL.out] at hlen
    by_cases hlt : k < n
    · obtain ⟨c1, c2, c3, c4, c5, c6⟩ := HCR.out k hk
      have i1 : ((f + k : Nat) : Int) < ((f + n : Nat) : Int) := by omega
      have i2 : ((f + k : Nat) : Int) + 1 < 19 := by omega
      have i3 : ((f + k : Nat) : Int) < 19 := by omega
      have e1 := hb1.cell (f + k)
      rw [ints_get (by omega)] at e1
      have e2 := hb1.cell (f + k + 1)
      rw [ints_get (by omega)] at e2
      have f1 := hb1.free (f + k)
      have f2 := hb1.free (f + k + 1)
      have g2 := c6 (f + k + 1) (by omega)
      have g3 := HXB.out (f + k + 1) (by omega) (by omega)
      rw [← g2] at g3
      have hst : cRun x f (k + 1) = ((cRun x f k).set (f + k + 1) ((cRun x f k).getD (f + k + 1) 0 + (cRun x f k).getD (f + k) 0 / 268435456)).set (f + k) ((cRun x f k).getD (f + k) 0 % 268435456) := rfl
      have HST := Lib.hid hst
      clear c1 c2 c3 c4 c6 g2 hst
      generalize (cRun x f k).getD (f + k) 0 = a at *
      generalize (cRun x f k).getD (f + k + 1) 0 = b at *
      have hm := mask28 a (by omega) (by omega)
      have H1 := Lib.hid hb1
      have H2 := Lib.hid hb2
      have H3 := Lib.hid hbel
      clear hb1 hb2 hbel hlen
      generalize hfk : f + k = i at *
      have W1 : Hid (wrap64 (b + a / 268435456) = b + a / 268435456) := Lib.hid (by rw [← IntWalk.i64_left]; exact IntWalk.i64_in _ (by omega))
      have s1 : (0 : Int) ≤ (i : Int) + 1 := by omega
      go_wp2_with fail
      go_region
      go_wp2_with fail
      go_roundw
      case rel =>
        refine ⟨k + 1, by omega, ?_, ?_, (H2.out.far (by simp) _).far (by simp) _, ((H3.out.setCell hA2 _).setCell hA2 _).drew⟩
        · rw [← Nat.add_assoc, hfk]
          go_num
        · rw [HST.out, ← ints_set, ← ints_set]
          exact (H1.out.set (i + 1) _).set i _
      case measure => simp [intOf]; omega
    · have hk' : k = n := by omega
      subst hk'
      have HB1 := Lib.hid hb1
      have HB2 := Lib.hid hb2
      have HBE := Lib.hid hbel
      have hi1 : Hid ((Tryd.prog.info? 36).map (·.size) = some (ints .i64 (cRun x f k)).length) := Lib.hid (by rw [ints_length, hlen]; exact Tryd.arr36)
      have hl1 : Hid ((ints .i64 (cRun x f k)).length = (ints .i64 (List.replicate 19 0)).length) := Lib.hid (by rw [ints_length, ints_length, hlen]; rfl)
      clear hb1 hb2 hbel hlen
      go_wp2_with (first | (refine wpList_load_blk rfl _ _ rfl A rfl _ _ _ _ HB1.out Tryd.underlying36 hi1.out ?_) | (refine wpList_store_blk rfl _ _ _ rfl (A + 1) _ rfl rfl _ _ HB2.out hl1.out hi1.out (ints_one _ _) ?_; intro w5 hb5 hg5))
      exact bodyPost_ret (v := .agg (ints .i64 (cRun x f k)).toArray) (result_row (by rfl) _ (A + 1) _ _ _ (by rfl) hb5 Tryd.underlying36 rfl hi1.out) rfl ⟨rfl, ext_grown HBE.out hg5 (by omega)⟩

end Go.Proofs.YtoebokeehhfboaaDoor
