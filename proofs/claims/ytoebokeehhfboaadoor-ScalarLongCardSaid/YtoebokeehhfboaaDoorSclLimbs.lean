/- The walk of the code's limbs of bytes. Each theorem names its own conditions. -/
import Derived.Test.YtoebokeehhfboaaDoorSclCar
import Derived.Deep.CutRange
namespace Go.Proofs.YtoebokeehhfboaaDoor
open Go.RowKit
set_option linter.unusedVariables false
set_option linter.unusedSimpArgs false

/-- The limbs of bytes, carried. -/
def limF (l : List UInt8) : List Int := cRun (lRun l l.length) 0 18
theorem limF_can (l : List UInt8) (h : l.length ≤ 64) : Can (limF l) (leN l : Nat) := by
  have hv := lRun_val l l.length (Nat.le_refl _) h
  rw [List.take_length] at hv
  exact carry_can (B := 2199023255552) (lRun_length l _) (by omega) (fun j _ => by have := lRun_range l l.length h j; omega) hv (by omega) (leN_hQ l h)
theorem limF_length (l : List UInt8) : (limF l).length = 19 := by rw [limF, cRun_length, lRun_length]

set_option maxRecDepth 100000 in
set_option maxHeartbeats 4000000 in
theorem limbsOf_any (v : Value) (l : List UInt8) (w : World) (hl : l.length ≤ 64) (hv : Row1 w v (l.map bval)) :
    Calls Tryd.prog 18 #[v] w fun e w' => e = .returned (.agg (ints .i64 (limF l)).toArray) ∧ Below w.heap.size w w' := by
  obtain ⟨a, cap, rfl, r1, r2, r3, r4⟩ := hv
  have HR := Lib.hid r4
  have HL := Lib.hid hl
  have HB := Lib.hid (boxes2 w (ints .i64 (List.replicate 19 0)) (ints .i64 (List.replicate 19 0)) 36 36)
  rw [List.length_map] at r1 ⊢
  unfold maxLen at r2
  clear r4 hl r3
  go_enter Tryd.func18, Tryd.ntmps18
  go_wp2_with fail
  change Code.wp _ _ _ _ ((w.alloc (.cells (ints .i64 (List.replicate 19 0)).toArray 36)).alloc (.cells (ints .i64 (List.replicate 19 0)).toArray 36))
  generalize (w.alloc (.cells (ints .i64 (List.replicate 19 0)).toArray 36)).alloc (.cells (ints .i64 (List.replicate 19 0)).toArray 36) = w0 at *
  obtain ⟨b1, b2, b3⟩ := HB.out
  obtain ⟨A, hA⟩ : ∃ A, A = w.heap.size := ⟨_, rfl⟩
  rw [← hA] at b1 b2 ⊢
  have hA2 : w.heap.size ≤ A := by omega
  have H1 := Lib.hid b1
  have H2 := Lib.hid b2
  have H3 : Hid (Ext w w0) := Lib.hid b3
  clear b1 b2 b3 hA HB
  go_loopw [9] (fun i wr => ∃ (k : Nat), k ≤ l.length ∧ i = .int .i64 (k : Int) ∧ Blk wr (A + 1) (ints .i64 (lRun l k)) 36 ∧ Blk wr A (ints .i64 (List.replicate 19 0)) 36 ∧ Ext w wr) (fun i _ => l.length - (intOf i).toNat)
  case atStart => exact ⟨0, by omega, rfl, H2.out, H1.out, H3.out⟩
  case round =>
    clear H1 H2 H3
    obtain ⟨k, hk, rfl, hb1, hb2, hbel⟩ := hrel
    have i0' : (0 : Int) ≤ (k : Int) := Int.natCast_nonneg _
    have hlen := lRun_length l k
    by_cases hlt : k < l.length
    · have h64 := HL.out
      obtain ⟨b, off, rfl, hbs, hcell⟩ := HR.out (by intro e; rw [List.map_eq_nil_iff] at e; subst e; exact absurd hlt (by simp))
      have k1 : (k : Int) < (l.length : Int) := by omega
      have k64 : (k : Int) < 64 := by omega
      have hc := hcell k (by simpa using hlt)
      rw [bval_get hlt] at hc
      have hc2 : wr.cell? ⟨b, off + k, none⟩ = some (.int .u8 ((l.getD k 0).toNat : Int)) := by rw [← hc]; exact hbel.cell (p := ⟨b, off + k, none⟩) hbs
      obtain ⟨p, hp⟩ : ∃ p : Nat, p = 8 * k / 28 := ⟨_, rfl⟩
      obtain ⟨s, hs⟩ : ∃ s : Nat, s = 8 * k % 28 := ⟨_, rfl⟩
      have hp2 : 8 * (k : Int) / 28 = (p : Int) := by omega
      have hs2 : 8 * (k : Int) % 28 = (s : Int) := by omega
      have p19 : (p : Int) < 19 := by omega
      have s28 : s < 28 := by omega
      have s28' : (s : Int) < 28 := by omega
      have e1 := hb1.cell p
      rw [ints_get (by omega)] at e1
      have f1 := hb1.free p
      have hst : lRun l (k + 1) = (lRun l k).set p ((lRun l k).getD p 0 + ((l.getD k 0).toNat : Int) * 2 ^ s) := by rw [hp, hs]; rfl
      have q1 := lRun_range l k (by omega) p
      have q2 := byte_pow (l.getD k 0).toNat s (UInt8.toNat_lt _) s28
      have q3 := UInt8.toNat_lt (l.getD k 0)
      generalize (l.getD k 0).toNat = c at *
      generalize (lRun l k).getD p 0 = x at *
      have HST := Lib.hid hst
      have H1 := Lib.hid hb1
      have H2 := Lib.hid hb2
      have H3 := Lib.hid hbel
      clear hst hb1 hb2 hbel hlen hp hs hc hcell
      go_wp2_with fail
      go_region
      go_wp2_with fail
      go_roundw
      case rel =>
        refine ⟨k + 1, by omega, by go_num, ?_, (H2.out.far (by simp) _).drewN 1, (Below.setCell H3.out (by simp; omega) _).drew⟩
        rw [HST.out, ← ints_set]
        exact (H1.out.set p _).drewN 1
      case measure => simp [intOf]; omega
    · have hk' : k = l.length := by omega
      subst hk'
      have HCA := Lib.hid (fun w => carried_any (lRun l l.length) 0 18 0 18 2199023255552 hlen (by omega) rfl rfl (by omega) (by omega) (fun j _ hj => by have := lRun_range l l.length HL.out j; have := HL.out; omega) w)
      have hi1 : Hid ((Tryd.prog.info? 36).map (·.size) = some (ints .i64 (lRun l l.length)).length) := Lib.hid (by rw [ints_length, hlen]; exact Tryd.arr36)
      have H1 := Lib.hid hb1
      have H2 := Lib.hid hb2
      have H3 := Lib.hid hbel
      clear hb1 hb2 hbel hlen
      go_wp2_with (refine wpList_load_blk rfl _ _ rfl (A + 1) rfl _ _ _ _ H1.out Tryd.underlying36 hi1.out ?_)
      refine (HCA.out _).mono ?_
      rintro e w5 ⟨rfl, hb5⟩
      have H2 := Lib.hid (ext_blk H2.out hb5)
      have H3 := Lib.hid (H3.out.trans hb5)
      have hi2 : Hid ((Tryd.prog.info? 36).map (·.size) = some (ints .i64 (cRun (lRun l l.length) 0 18)).length) := Lib.hid (by rw [ints_length, cRun_length, lRun_length]; exact Tryd.arr36)
      have hl2 : Hid ((ints .i64 (cRun (lRun l l.length) 0 18)).length = (ints .i64 (List.replicate 19 0)).length) := Lib.hid (by rw [ints_length, ints_length, cRun_length, lRun_length]; rfl)
      clear hb5 HCA
      go_wp2_with (refine wpList_store_blk rfl _ _ _ rfl A _ rfl rfl _ _ H2.out hl2.out hi2.out (ints_one _ _) ?_; intro w6 hb6 hg6)
      exact bodyPost_ret (v := .agg (ints .i64 (limF l)).toArray) (result_row (by rfl) _ A _ _ _ (by rfl) hb6 Tryd.underlying36 rfl hi2.out) rfl ⟨rfl, ext_grown H3.out hg6 (by omega)⟩

end Go.Proofs.YtoebokeehhfboaaDoor
