/- The walk of the document's own AddQ. Each theorem names its own conditions. -/
import Derived.Test.YtoebokeehhfboaaDoorRefRedQ
import Derived.Test.YtoebokeehhfboaaDoorSclOps
namespace Go.Proofs.YtoebokeehhfboaaDoor
open Go.RowKit
set_option linter.unusedVariables false
set_option linter.unusedSimpArgs false

theorem bytesN_zero : ∀ n, bytesN n 0 = List.replicate n 0
  | 0 => rfl
  | n + 1 => by
    simp only [bytesN, Nat.zero_div, bytesN_zero n, List.replicate_succ]
    rfl
theorem fill_tail (x k n : Nat) (h : x < 256 ^ k) : fill (k + n) (bytesN (k + n) x) k = bytesN (k + n) x := by
  have e1 := bytesN_append k n x
  rw [Nat.div_eq_of_lt h, bytesN_zero] at e1
  unfold fill
  rw [e1, List.take_append_of_le_length (by rw [bytesN_length]; exact Nat.le_refl _), List.take_of_length_le (by rw [bytesN_length]; exact Nat.le_refl _), Nat.add_sub_cancel_left]
theorem cA_le (a b i : Nat) : cA a b i ≤ 1 := by
  have hP : 0 < 256 ^ i := Nat.pow_pos (by omega)
  have h1 := Nat.mod_lt a hP
  have h2 := Nat.mod_lt b hP
  unfold cA
  generalize 256 ^ i = P at *
  have : (a % P + b % P) / P < 2 := by rw [Nat.div_lt_iff_lt_mul hP]; omega
  omega
theorem Tryd.arr41 : (Tryd.prog.info? 41).map (·.size) = some 64 := by kernel_rfl
/-- The document's Reduce of 64 bytes that lie in an array. -/
theorem rred_blk (x : Nat) (hx : x < 256 ^ 64) {w : World} {c : Nat} {t : TypeId} (h : Blk w c ((bytesN 64 x).map bval) t) (hG : GlobO w) :
    Calls Tryd.prog 10 #[.slice (some ⟨c, 0, none⟩) 64 64] w fun e w' => e = .returned (.agg ((nq (x : Nat)).map bval).toArray) ∧ Below w.heap.size w w' := by
  have := rReduce_num _ (bytesN 64 x) w (h.row (by rw [List.length_map, bytesN_length]) (by unfold maxLen; omega)) hG
  rwa [List.take_of_length_le (by rw [bytesN_length]; exact Nat.le_refl _), leN_bytesN, Nat.mod_eq_of_lt hx] at this

set_option maxRecDepth 100000 in
set_option maxHeartbeats 4000000 in
theorem rAddQ_num (l m : List UInt8) (w : World) (hl : l.length = 32) (hm : m.length = 32) (hG : GlobO w) :
    Calls Tryd.prog 13 #[.agg (l.map bval).toArray, .agg (m.map bval).toArray] w fun e w' => e = .returned (.agg ((nq ((leN l : Nat) + (leN m : Nat))).map bval).toArray) ∧ Below w.heap.size w w' := by
  have HL := Lib.hid hl
  have HM := Lib.hid hm
  have HG := Lib.hid hG
  have ha := leN_lt l
  have hb := leN_lt m
  rw [hl] at ha
  rw [hm] at hb
  have h33 : leN l + leN m < 256 ^ 33 := by
    have : (256 : Nat) ^ 32 + 256 ^ 32 ≤ 256 ^ 33 := by decide +kernel
    omega
  have h64 : leN l + leN m < 256 ^ 64 := Nat.lt_of_lt_of_le h33 (by decide +kernel)
  have HC0 := Lib.hid (cA_zero (leN l) (leN m))
  have HCS := Lib.hid (cA_step (leN l) (leN m))
  have HTA : Hid (leN l / 256 ^ 32 % 256 = 0) := Lib.hid (by rw [Nat.div_eq_of_lt ha])
  have HTB : Hid (leN m / 256 ^ 32 % 256 = 0) := Lib.hid (by rw [Nat.div_eq_of_lt hb])
  have HFT := Lib.hid (fill_tail (leN l + leN m) 33 31 h33)
  have HFL := Lib.hid (bytesN_length 64 (leN l + leN m))
  have HFB := Lib.hid (fun k hk => bytesN_getD 64 (leN l + leN m) k hk)
  have HRD := Lib.hid (fun (w : World) (c : Nat) (t : TypeId) (h : Blk w c ((bytesN 64 (leN l + leN m)).map bval) t) hG => rred_blk (leN l + leN m) h64 h hG)
  have HBL := Lib.hid (fun k hk => leN_byte l k hk)
  have HBM := Lib.hid (fun k hk => leN_byte m k hk)
  have HRS : Hid (nq ((leN l + leN m : Nat) : Int) = nq ((leN l : Nat) + (leN m : Nat))) := Lib.hid (by rw [Int.natCast_add])
  have HB := Lib.hid (boxes4 w (l.map bval) (m.map bval) (ints .u8 (List.replicate 32 0)) (ints .u8 (List.replicate 64 0)) 25 25 25 41)
  clear hl hm hG ha hb h33 h64
  go_enter Tryd.func13, Tryd.ntmps13
  go_wp2_with fail
  change Code.wp _ _ _ _ ((((w.alloc (.cells (l.map bval).toArray 25)).alloc (.cells (m.map bval).toArray 25)).alloc (.cells (ints .u8 (List.replicate 32 0)).toArray 25)).alloc (.cells (ints .u8 (List.replicate 64 0)).toArray 41))
  generalize (((w.alloc (.cells (l.map bval).toArray 25)).alloc (.cells (m.map bval).toArray 25)).alloc (.cells (ints .u8 (List.replicate 32 0)).toArray 25)).alloc (.cells (ints .u8 (List.replicate 64 0)).toArray 41) = w0 at *
  obtain ⟨h1, h2, h3, h4, hE⟩ := HB.out
  obtain ⟨A, hA⟩ : ∃ A, A = w.heap.size := ⟨_, rfl⟩
  rw [← hA] at h1 h2 h3 h4 ⊢
  have hA2 : w.heap.size ≤ A := by omega
  have H1 := Lib.hid h1
  have H2 := Lib.hid h2
  have H3 := Lib.hid h3
  have H4 := Lib.hid h4
  have HE : Hid (Ext w w0) := Lib.hid hE
  clear h1 h2 h3 h4 hE HB hA
  obtain ⟨S, hS⟩ : ∃ S, S = bytesN 64 (leN l + leN m) := ⟨_, rfl⟩
  rw [← hS] at HFT HFL HFB HRD
  clear hS
  go_loopw [6, 7] (fun cv iv wr => ∃ (k : Nat), k ≤ 33 ∧ iv = .int .i64 (k : Int) ∧ cv = .int .i64 ((cA (leN l) (leN m) k : Nat) : Int) ∧ Blk wr A (l.map bval) 25 ∧ Blk wr (A + 1) (m.map bval) 25 ∧ Blk wr (A + 1 + 1) (ints .u8 (List.replicate 32 0)) 25 ∧ Blk wr (A + 1 + 1 + 1) ((fill 64 S k).map bval) 41 ∧ Ext w wr) (fun _ iv _ => 33 - (intOf iv).toNat)
  case atStart => exact ⟨0, by omega, rfl, by rw [HC0.out]; rfl, H1.out, H2.out, H3.out, by rw [fill_start]; exact H4.out, HE.out⟩
  case round =>
    clear H1 H2 H3 H4 HE
    obtain ⟨k, hk, rfl, rfl, hb1, hb2, hb3, hb4, hbel⟩ := hrel
    have k0 : (0 : Int) ≤ (k : Int) := Int.natCast_nonneg _
    have hcs := HCS.out k
    have hcb := cA_le (leN l) (leN m) k
    by_cases hlt : k < 33
    · have k1 : (k : Int) < 33 := by omega
      have k64 : (k : Int) < 64 := by omega
      have hln : ((fill 64 S k).map bval).length = 64 := by rw [List.length_map, fill_length HFL.out (by omega)]
      have e4 := hb4.cell k
      rw [List.getElem?_eq_getElem (by omega)] at e4
      have f4 := hb4.free k
      generalize ((fill 64 S k).map bval)[k]'(by omega) = c4 at e4
      have hfb := HFB.out k (by omega)
      by_cases h32 : k < 32
      · have k2 : (k : Int) < 32 := by omega
        have e1 := hb1.cell k
        rw [bval_get (by rw [HL.out]; exact h32), HBL.out k (by rw [HL.out]; exact h32)] at e1
        have e2 := hb2.cell k
        rw [bval_get (by rw [HM.out]; exact h32), HBM.out k (by rw [HM.out]; exact h32)] at e2
        have p1 : leN l / 256 ^ k % 256 < 256 := Nat.mod_lt _ (by omega)
        have p2 : leN m / 256 ^ k % 256 < 256 := Nat.mod_lt _ (by omega)
        have HNX := Lib.hid hcs.2
        have hz := hcs.1
        rw [← hfb] at hz
        generalize leN l / 256 ^ k % 256 = x at *
        generalize leN m / 256 ^ k % 256 = y at *
        generalize cA (leN l) (leN m) k = c at *
        have HST := Lib.hid (fill_set_val (k := k) (z := ((c : Int) + (x : Int) + (y : Int)) % 256) HFL.out (by omega) (by omega))
        have hm := and_i64_255 ((c : Int) + (x : Int) + (y : Int)) (by omega) (by omega)
        have HND : Hid (((c : Int) + (x : Int) + (y : Int)) / 256 = ((cA (leN l) (leN m) (k + 1) : Nat) : Int)) := Lib.hid (by have := HNX.out; omega)
        have H1 := Lib.hid hb1
        have H2 := Lib.hid hb2
        have H3 := Lib.hid hb3
        have H4 := Lib.hid hb4
        have HE := Lib.hid hbel
        clear hb1 hb2 hb3 hb4 hbel hln hfb hz hcs
        go_wp2_with fail
        go_region
        go_wp2_with fail
        go_roundw
        case rel =>
          refine ⟨k + 1, by omega, by go_num, by rw [HND.out], (H1.out.drewN 1).far (by simp <;> omega) _, (H2.out.drewN 1).far (by simp <;> omega) _, (H3.out.drewN 1).far (by simp <;> omega) _, ?_, Below.setCell (HE.out.trans (Ext.drew _)) (by simp <;> omega) _⟩
          rw [← HST.out]
          exact (H4.out.drewN 1).set k _
        case measure => simp [intOf]; omega
      · have k32 : k = 32 := by omega
        subst k32
        rw [HTA.out, HTB.out] at hcs
        have HNX := Lib.hid hcs.2
        have hz := hcs.1
        rw [← hfb] at hz
        generalize cA (leN l) (leN m) 32 = c at *
        have HST := Lib.hid (fill_set_val (k := 32) (z := (c : Int) % 256) HFL.out (by omega) (by omega))
        have hm := and_i64_255 (c : Int) (by omega) (by omega)
        have HND : Hid ((c : Int) / 256 = ((cA (leN l) (leN m) (32 + 1) : Nat) : Int)) := Lib.hid (by have := HNX.out; omega)
        have H1 := Lib.hid hb1
        have H2 := Lib.hid hb2
        have H3 := Lib.hid hb3
        have H4 := Lib.hid hb4
        have HE := Lib.hid hbel
        clear hb1 hb2 hb3 hb4 hbel hln hfb hz hcs
        go_wp2_with fail
        go_roundw
        case rel =>
          refine ⟨32 + 1, by omega, by go_num, by rw [HND.out], H1.out.far (by simp <;> omega) _, H2.out.far (by simp <;> omega) _, H3.out.far (by simp <;> omega) _, ?_, Below.setCell HE.out (by simp <;> omega) _⟩
          rw [← HST.out]
          exact H4.out.set 32 _
        case measure => simp [intOf]
    · have hk33 : k = 33 := by omega
      subst hk33
      have hft : fill 64 S 33 = S := HFT.out
      rw [hft] at hb4
      have H3 := Lib.hid hb3
      have H4 := Lib.hid hb4
      have HE := Lib.hid hbel
      clear hb1 hb2 hb3 hb4 hbel hft hcs hcb
      go_wp2_with fail
      refine (HRD.out _ _ _ H4.out (HG.out.ext HE.out)).mono ?_
      rintro e w5 ⟨rfl, hb5⟩
      have H3 := Lib.hid (ext_blk H3.out hb5)
      have HE := Lib.hid (HE.out.trans hb5)
      have hi2 : Hid ((Tryd.prog.info? 25).map (·.size) = some ((nq ((leN l + leN m : Nat) : Int)).map bval).length) := Lib.hid (num_size (nq_length _))
      have hl2 : Hid (((nq ((leN l + leN m : Nat) : Int)).map bval).length = (ints .u8 (List.replicate 32 0)).length) := Lib.hid (by rw [List.length_map, nq_length]; rfl)
      clear hb5 HRD
      go_wp2_with (refine wpList_store_blk rfl _ _ _ rfl (A + 1 + 1) _ rfl rfl _ _ H3.out hl2.out hi2.out (bval_one _) ?_; intro w7 hb7 hg7)
      exact bodyPost_ret (v := .agg ((nq ((leN l + leN m : Nat) : Int)).map bval).toArray) (result_row (by rfl) _ (A + 1 + 1) _ _ _ (by rfl) hb7 Tryd.underlying25 rfl hi2.out) rfl ⟨by rw [HRS.out], ext_grown HE.out hg7 (by omega)⟩

end Go.Proofs.YtoebokeehhfboaaDoor
