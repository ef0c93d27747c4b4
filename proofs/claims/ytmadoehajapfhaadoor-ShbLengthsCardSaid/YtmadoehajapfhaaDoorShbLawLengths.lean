/- The walk of ShbLengths. Each theorem names its own conditions. -/
import Derived.Test.YtmadoehajapfhaaDoorShbLaw0
import Derived.Laws.MakeOwn
namespace Go.Proofs.YtmadoehajapfhaaDoor
open Go.RowKit
set_option linter.unusedVariables false
set_option linter.unusedSimpArgs false

/-- The bytes that count on from v. -/
def cntLQ (v : UInt8) (n : Nat) : List UInt8 := (List.range n).map fun i => v + UInt8.ofNat i
theorem cntL_lengthQ (v : UInt8) (n : Nat) : (cntLQ v n).length = n := by simp [cntLQ]
theorem cntL_getDQ (v : UInt8) (n k : Nat) (hk : k < n) : (((cntLQ v n).getD k 0).toNat : Int) = ((v.toNat : Int) + (k : Int)) % 256 := by
  have e : (cntLQ v n).getD k 0 = v + UInt8.ofNat k := by simp [cntLQ, List.getD, hk]
  rw [e, UInt8.toNat_add, UInt8.toNat_ofNat']
  omega
theorem madeCells_zeroQ (n : Nat) : madeCells #[.int .u8 0] n = Array.replicate n (bval 0) := by
  apply Array.ext'
  unfold madeCells
  rw [Array.toList_map]
  apply List.ext_getElem
  · simp
  · intro i h1 h2
    simp [Nat.mod_one, bval]

set_option maxRecDepth 100000 in
set_option maxHeartbeats 8000000 in
theorem shbLengths_any (n : Int) (v : UInt8) (w : World) (hn1 : -9223372036854775808 ≤ n) (hn2 : n ≤ 9223372036854775807) (hG : GlobRQ w) (hK : GlobK5 w) :
    Calls Tryd.prog 8 #[.int .i64 n, .int .u8 (v.toNat : Int)] w fun e w' => e = .returned (.bool true) ∧ Below w.heap.size w w' := by
  have HG := Lib.hid hG
  have HK := Lib.hid hK
  clear hG hK
  go_enter Tryd.func8, Tryd.ntmps8
  go_wp2_with fail
  refine (alive_anyQ w HG.out).mono ?_
  rintro e w1 ⟨rfl, hb⟩
  have HE : Hid (Ext w w1) := Lib.hid hb
  clear hb
  by_cases h0 : n < 0
  · go_wp2_with fail
    go_ret
    exact ⟨rfl, HE.out⟩
  · by_cases h1 : 1000 < n
    · have hd : decide (n < 0) = false := decide_eq_false h0
      go_wp2_with fail
      go_ret
      exact ⟨rfl, HE.out⟩
    · obtain ⟨m, rfl⟩ : ∃ m : Nat, n = (m : Int) := ⟨n.toNat, by omega⟩
      have hm : m ≤ 1000 := by omega
      have hm1 : (m : Int) ≤ 1000 := by omega
      have hd : decide ((m : Int) < 0) = false := decide_eq_false h0
      have hd2 : decide (1000 < (m : Int)) = false := decide_eq_false h1
      clear h0 h1 hn1 hn2
      obtain ⟨i0, hi, hz0, hz1, hz2⟩ := info_parts Tryd.info5
      have hmk := run_make w1 25 5 i0 (.int .u8 0) Tryd.underlying25 hi hz0 .i64 .i64 (m : Int) (m : Int) (by omega) (by omega) (by rw [hz2]; omega) (by omega)
      have hmc : madeCells (Value.cells (.int .u8 0)) (m * 1) = Array.replicate m (bval 0) := by rw [Nat.mul_one]; exact madeCells_zeroQ m
      rw [Int.toNat_natCast, hz1, hmc] at hmk
      have m0 : (0 : Int) ≤ (m : Int) := Int.natCast_nonneg _
      have HZ := Lib.hid (Blk.made w1 ((List.replicate m (0 : UInt8)).map bval) 5)
      have HE2 := Lib.hid (HE.out.trans (Ext.alloc w1 (.cells ((List.replicate m (0 : UInt8)).map bval).toArray 5)))
      have HS := Lib.hid HE.out.size
      clear hi hz0 hz1 hz2 hmc
      have HEZ : Hid (w1.alloc (.cells (Array.replicate m (bval 0)) 5) = w1.alloc (.cells ((List.replicate m (0 : UInt8)).map bval).toArray 5)) := Lib.hid (by simp)
      go_upto_region 5 with (fail)
      rw [HEZ.out]
      clear HEZ
      generalize w1.alloc (.cells ((List.replicate m (0 : UInt8)).map bval).toArray 5) = w2 at *
      generalize w1.heap.size = B at *
      clear hmk
      go_wp2_with fail
      go_loopw [7] (fun iv wr => ∃ (k : Nat), k ≤ m ∧ iv = .int .i64 (k : Int) ∧ Blk wr B ((fill m (cntLQ v m) k).map bval) 5 ∧ Ext w wr) (fun iv _ => m - (intOf iv).toNat)
      case atStart => exact ⟨0, by omega, rfl, by rw [fill_zero]; exact HZ.out, HE2.out⟩
      case round =>
        clear HZ HE2
        obtain ⟨k, hk, rfl, hb, hbel⟩ := hrel
        have k0 : (0 : Int) ≤ (k : Int) := Int.natCast_nonneg _
        have hfl := fill_length (cntL_lengthQ v m) hk
        have HB := Lib.hid hb
        have HE := Lib.hid hbel
        by_cases hlk : k < m
        · have k1 : (k : Int) < (m : Int) := by omega
          have c0 := hb.cell k
          rw [bval_get (by omega)] at c0
          have f0 := hb.free k
          have HFS : Hid (∀ z : Int, z = (((cntLQ v m).getD k 0).toNat : Int) → _) := Lib.hid (fun z hz => fill_set_val (cntL_lengthQ v m) hlk hz)
          have HCG := Lib.hid (cntL_getDQ v m k hlk)
          have hv := v.toNat_lt
          have hv2 : (v.toNat : Int) < 256 := by omega
          have hv3 : (0 : Int) ≤ (v.toNat : Int) := Int.natCast_nonneg _
          generalize ((fill m (cntLQ v m) k).getD k 0) = z0 at *
          generalize v.toNat = vn at *
          clear hb hbel hfl
          go_wp2_with fail
          go_roundw
          case rel =>
            refine ⟨k + 1, by omega, by go_num, ?_, Below.setCell HE.out (by have := HS.out; simp; omega) _⟩
            rw [← HFS.out _ HCG.out.symm]
            exact HB.out.set k _
          case measure => simp [intOf]; omega
        · have hkm : k = m := by omega
          have hk2 : (m : Int) ≤ (k : Int) := by omega
          rw [hkm, fill_full (cntL_lengthQ v m)] at hb
          have HB := Lib.hid hb
          clear hb hbel hfl hkm
          have HL := Lib.hid (cntL_lengthQ v m)
          generalize cntLQ v m = l at *
          have HR := Lib.hid (blk_row (n := m) HB.out (by rw [List.length_map, HL.out]) (by unfold maxLen; omega))
          go_wp2_with fail
          refine (Sum_oneQ _ l wr HR.out (by rw [HL.out]; omega) (HG.out.ext HE.out)).mono ?_
          rintro e w4 ⟨rfl, hb⟩
          have HR := Lib.hid (HR.out.below hb)
          have HE := Lib.hid (HE.out.trans hb)
          clear hb
          go_wp2_with fail
          refine (rShb_any _ l w4 HR.out (by rw [HL.out]; omega) (HK.out.ext HE.out)).mono ?_
          rintro e w5 ⟨rfl, hb⟩
          have HE := Lib.hid (HE.out.trans hb)
          clear hb
          go_wp2_with (refine wpList_eql (by rfl) _ _ _ _ _ _ 64 _ (sha512 l) (sha512 l) true rfl (Or.inl ⟨rfl, decide_eq_true rfl⟩) Tryd.underlying35 Tryd.underlying5 byte_info byte_cells sig_guard rfl rfl (sha512_length _) (sha512_length _) ?_)
          go_ret
          exact ⟨rfl, HE.out⟩

end Go.Proofs.YtmadoehajapfhaaDoor
