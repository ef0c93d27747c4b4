/- The walk of the document's own MulQ. Each theorem names its own conditions. -/
import Derived.Test.YtoebokeehhfboaaDoorRefAddQ
import Derived.Test.YtoebokeehhfboaaDoorRefMulQM
namespace Go.Proofs.YtoebokeehhfboaaDoor
open Go.RowKit
set_option linter.unusedVariables false
set_option linter.unusedSimpArgs false

set_option maxRecDepth 100000 in
set_option maxHeartbeats 8000000 in
theorem rMulQ_num (l m : List UInt8) (w : World) (hl : l.length = 32) (hm : m.length = 32) (hG : GlobO w) :
    Calls Tryd.prog 15 #[.agg (l.map bval).toArray, .agg (m.map bval).toArray] w fun e w' => e = .returned (.agg ((nq ((leN l : Nat) * (leN m : Nat))).map bval).toArray) ∧ Below w.heap.size w w' := by
  have HL := Lib.hid hl
  have HM := Lib.hid hm
  have HG := Lib.hid hG
  have ha := leN_lt l
  have hb := leN_lt m
  rw [hl] at ha
  rw [hm] at hb
  have h64 : leN l * leN m < 256 ^ 64 := by
    have e : (256 : Nat) ^ 64 = 256 ^ 32 * 256 ^ 32 := by decide +kernel
    rw [e]
    exact Nat.mul_lt_mul'' ha hb
  have HPV := Lib.hid (prod_val l m hl hm)
  have HFL := Lib.hid (bytesN_length 64 (leN l * leN m))
  have HFB := Lib.hid (fun k hk => bytesN_getD 64 (leN l * leN m) k hk)
  have HPB := Lib.hid (fun k => prod_byte (leN l * leN m) k)
  have HRD := Lib.hid (fun (w : World) (c : Nat) (t : TypeId) (h : Blk w c ((bytesN 64 (leN l * leN m)).map bval) t) hG => rred_blk (leN l * leN m) h64 h hG)
  have HRS : Hid (nq ((leN l * leN m : Nat) : Int) = nq ((leN l : Nat) * (leN m : Nat))) := Lib.hid (by rw [Int.natCast_mul])
  have HBX := Lib.hid (byl_range l)
  have HBY := Lib.hid (byl_range m)
  have HGX : Hid (∀ i, ((l.getD i 0).toNat : Int) = (byl l).getD i 0) := Lib.hid (fun i => (byl_getD l i).symm)
  have HGY : Hid (∀ i, ((m.getD i 0).toNat : Int) = (byl m).getD i 0) := Lib.hid (fun i => (byl_getD m i).symm)
  have HB := Lib.hid (boxes4 w (l.map bval) (m.map bval) (ints .u8 (List.replicate 32 0)) (ints .i64 (List.replicate 64 0)) 25 25 25 42)
  clear hl hm hG ha hb h64
  go_enter Tryd.func15, Tryd.ntmps15
  go_wp2_with fail
  change Code.wp _ _ _ _ ((((w.alloc (.cells (l.map bval).toArray 25)).alloc (.cells (m.map bval).toArray 25)).alloc (.cells (ints .u8 (List.replicate 32 0)).toArray 25)).alloc (.cells (ints .i64 (List.replicate 64 0)).toArray 42))
  generalize (((w.alloc (.cells (l.map bval).toArray 25)).alloc (.cells (m.map bval).toArray 25)).alloc (.cells (ints .u8 (List.replicate 32 0)).toArray 25)).alloc (.cells (ints .i64 (List.replicate 64 0)).toArray 42) = w0 at *
  obtain ⟨h1, h2, h3, h4, hE⟩ := HB.out
  obtain ⟨A, hA⟩ : ∃ A, A = w.heap.size := ⟨_, rfl⟩
  rw [← hA] at h1 h2 h3 h4 ⊢
  have hA2 : w.heap.size ≤ A := by omega
  have H1 := Lib.hid h1
  have H2 := Lib.hid h2
  have H3 := Lib.hid h3
  have H4 := Lib.hid h4
  have HE : Hid (Ext w w0) := Lib.hid hE
  clear h1 h2 h3 h4 hE HB hA
  obtain ⟨S, hS⟩ : ∃ S, S = bytesN 64 (leN l * leN m) := ⟨_, rfl⟩
  rw [← hS] at HFL HFB HRD
  clear hS
  generalize hxx : byl l = x at *
  generalize hyy : byl m = y at *
  clear hxx hyy
  go_loopw [6] (fun iv wr => ∃ (i : Nat), i ≤ 32 ∧ iv = .int .i64 (i : Int) ∧ Blk wr A (l.map bval) 25 ∧ Blk wr (A + 1) (m.map bval) 25 ∧ Blk wr (A + 1 + 1) (ints .u8 (List.replicate 32 0)) 25 ∧ Blk wr (A + 1 + 1 + 1) (ints .i64 (tAll x y i)) 42 ∧ Ext w wr) (fun iv _ => 32 - (intOf iv).toNat)
  case atStart => exact ⟨0, by omega, rfl, H1.out, H2.out, H3.out, H4.out, HE.out⟩
  case round =>
    clear H1 H2 H3 H4 HE
    obtain ⟨i, hi, rfl, hb1, hb2, hb3, hb4, hbel⟩ := hrel
    have k0 : (0 : Int) ≤ (i : Int) := Int.natCast_nonneg _
    by_cases hlt : i < 32
    · have i1 : (i : Int) < 32 := by omega
      have HPR := Lib.hid (tAll_range HBX.out HBY.out i (by omega))
      have HPL := Lib.hid (tAll_length x y i)
      have HNX : Hid (tAll x y (i + 1) = mRow (tAll x y i) x y i 32) := Lib.hid rfl
      generalize tAll x y i = z at *
      have H1 := Lib.hid hb1
      have H2 := Lib.hid hb2
      have H3 := Lib.hid hb3
      have H4 := Lib.hid hb4
      have HE := Lib.hid hbel
      clear hb1 hb2 hb3 hb4 hbel
      go_wp2_with fail
      obtain ⟨wo, rfl⟩ : ∃ wo : World, wo = wr := ⟨_, rfl⟩
      go_loopw [7] (fun jv wr => ∃ (j : Nat), j ≤ 32 ∧ jv = .int .i64 (j : Int) ∧ Blk wr A (l.map bval) 25 ∧ Blk wr (A + 1) (m.map bval) 25 ∧ Blk wr (A + 1 + 1) (ints .u8 (List.replicate 32 0)) 25 ∧ Blk wr (A + 1 + 1 + 1) (ints .i64 (mRow z x y i j)) 42 ∧ Ext w wr) (fun jv _ => 32 - (intOf jv).toNat)
      case atStart => exact ⟨0, by omega, rfl, H1.out, H2.out, H3.out, H4.out, HE.out⟩
      case round =>
        clear H1 H2 H3 H4 HE
        obtain ⟨j, hj, rfl, hb1, hb2, hb3, hb4, hbel⟩ := hrel
        have j0 : (0 : Int) ≤ (j : Int) := Int.natCast_nonneg _
        by_cases hlj : j < 32
        · have j1 : (j : Int) < 32 := by omega
          have hzl := mRow_length z x y i j
          rw [HPL.out] at hzl
          have e1 := hb1.cell i
          rw [bval_get (by rw [HL.out]; exact hlt), HGX.out] at e1
          have e2 := hb2.cell j
          rw [bval_get (by rw [HM.out]; exact hlj), HGY.out] at e2
          have e4 := hb4.cell (i + j)
          rw [ints_get (by omega)] at e4
          have f4 := hb4.free (i + j)
          have q1 := HBX.out i
          have q2 := HBY.out j
          have q3 := tRow_range hlt HPL.out HPR.out HBX.out HBY.out j (by omega) (i + j)
          have hst : mRow z x y i (j + 1) = (mRow z x y i j).set (i + j) ((mRow z x y i j).getD (i + j) 0 + x.getD i 0 * y.getD j 0) := rfl
          have HST := Lib.hid hst
          have q4 := mul_range q1.1 q1.2 q2.1 q2.2
          generalize (mRow z x y i j).getD (i + j) 0 = a at *
          generalize x.getD i 0 = u at *
          generalize y.getD j 0 = t at *
          obtain ⟨ij, hij⟩ : ∃ ij : Nat, ij = i + j := ⟨_, rfl⟩
          rw [← hij] at e4 f4
          have hij2 : (i : Int) + (j : Int) = (ij : Int) := by omega
          have ij1 : (ij : Int) < 64 := by omega
          have HIJ := Lib.hid hij
          have H1 := Lib.hid hb1
          have H2 := Lib.hid hb2
          have H3 := Lib.hid hb3
          have H4 := Lib.hid hb4
          have HE := Lib.hid hbel
          clear hst hb1 hb2 hb3 hb4 hbel hzl hij
          go_wp2_with fail
          go_region
          go_wp2_with fail
          go_roundw
          case rel =>
            refine ⟨j + 1, by omega, by go_num, (H1.out.far (by simp <;> omega) _).drewN 1, (H2.out.far (by simp <;> omega) _).drewN 1, (H3.out.far (by simp <;> omega) _).drewN 1, ?_, (Below.setCell HE.out (by simp <;> omega) _).drew⟩
            rw [HST.out, ← HIJ.out]
            exact (H4.out.seti ij _).drewN 1
          case measure => simp [intOf]; omega
        · have hj' : j = 32 := by omega
          subst hj'
          rw [← HNX.out] at hb4
          have H1 := Lib.hid hb1
          have H2 := Lib.hid hb2
          have H3 := Lib.hid hb3
          have H4 := Lib.hid hb4
          have HE := Lib.hid hbel
          clear hb1 hb2 hb3 hb4 hbel
          go_wp2_with fail
          go_roundw
          case rel => exact ⟨i + 1, by omega, by go_num, H1.out, H2.out, H3.out, H4.out, HE.out⟩
          case measure => simp [intOf]; omega
    · have hi' : i = 32 := by omega
      subst hi'
      have HTR := Lib.hid (tAll_range HBX.out HBY.out 32 (by omega))
      have HTL := Lib.hid (tAll_length x y 32)
      generalize tAll x y 32 = t at *
      have HCR : Hid (∀ k, k ≤ 64 → 0 ≤ cM t k ∧ cM t k ≤ 2080800) := Lib.hid (fun k hk => cM_range (M := 2080800) (fun j => by have := HTR.out j; omega) k (by rw [HTL.out]; exact hk))
      have HCZ := Lib.hid (cM_zero t)
      have HCS : Hid (∀ k, k < 64 → (cM t k + t.getD k 0) % 256 = ((S.getD k 0).toNat : Int) ∧ (cM t k + t.getD k 0) / 256 = cM t (k + 1)) := Lib.hid (fun k hk => by
        have h := cM_step t k (by rw [HTL.out]; exact hk)
        rw [HPV.out, HPB.out, ← HFB.out k hk] at h
        exact h)
      have H3 := Lib.hid (hb3.alloc (.cells (ints .u8 (List.replicate 64 0)).toArray 41))
      have H4 := Lib.hid (hb4.alloc (.cells (ints .u8 (List.replicate 64 0)).toArray 41))
      have HS := Lib.hid (Blk.made wr (ints .u8 (List.replicate 64 0)) 41)
      have HE := Lib.hid (Ext.trans hbel (Ext.alloc wr (.cells (ints .u8 (List.replicate 64 0)).toArray 41)))
      have hDA : A + 1 + 1 + 1 < wr.heap.size := hb4.lt
      clear hb1 hb2 hb3 hb4 hbel
      go_wp2_with fail
      change Code.wp _ _ _ _ (wr.alloc (.cells (ints .u8 (List.replicate 64 0)).toArray 41))
      generalize wr.alloc (.cells (ints .u8 (List.replicate 64 0)).toArray 41) = w3 at *
      generalize wr.heap.size = D at *
      go_loopw [9, 10] (fun cv iv wr => ∃ (k : Nat), k ≤ 64 ∧ iv = .int .i64 (k : Int) ∧ cv = .int .i64 (cM t k) ∧ Blk wr (A + 1 + 1) (ints .u8 (List.replicate 32 0)) 25 ∧ Blk wr (A + 1 + 1 + 1) (ints .i64 t) 42 ∧ Blk wr D ((fill 64 S k).map bval) 41 ∧ Ext w wr) (fun _ iv _ => 64 - (intOf iv).toNat)
      case atStart => exact ⟨0, by omega, rfl, by rw [HCZ.out], H3.out, H4.out, by rw [fill_start]; exact HS.out, HE.out⟩
      case round =>
        clear H3 H4 HS HE
        obtain ⟨k, hk, rfl, rfl, hb3, hb4, hb5, hbel⟩ := hrel
        have k0 : (0 : Int) ≤ (k : Int) := Int.natCast_nonneg _
        have hcb := HCR.out k hk
        by_cases hlk : k < 64
        · have k1 : (k : Int) < 64 := by omega
          have hln : ((fill 64 S k).map bval).length = 64 := by rw [List.length_map, fill_length HFL.out (by omega)]
          have e5 := hb5.cell k
          rw [List.getElem?_eq_getElem (by omega)] at e5
          have f5 := hb5.free k
          generalize ((fill 64 S k).map bval)[k]'(by omega) = c5 at e5
          have htl := HTL.out
          have e4 := hb4.cell k
          rw [ints_get (by omega)] at e4
          have q1 := HTR.out k
          have hcs := HCS.out k hlk
          generalize t.getD k 0 = u at *
          have HND := Lib.hid hcs.2
          have HST := Lib.hid (fill_set_val (k := k) HFL.out hlk hcs.1)
          generalize cM t k = c at *
          have hm := and_i64_255 (c + u) (by omega) (by omega)
          have H3 := Lib.hid hb3
          have H4 := Lib.hid hb4
          have HS := Lib.hid hb5
          have HE := Lib.hid hbel
          clear hb3 hb4 hb5 hbel hln hcs htl
          go_wp2_with fail
          go_roundw
          case rel =>
            refine ⟨k + 1, by omega, by go_num, by rw [HND.out], H3.out.far (by simp <;> omega) _, H4.out.far (by simp <;> omega) _, ?_, Below.setCell HE.out (by simp <;> omega) _⟩
            rw [← HST.out]
            exact HS.out.set k _
          case measure => simp [intOf]; omega
        · have hk64 : k = 64 := by omega
          subst hk64
          rw [fill_full HFL.out] at hb5
          have H3 := Lib.hid hb3
          have HS := Lib.hid hb5
          have HE := Lib.hid hbel
          clear hb3 hb4 hb5 hbel hcb
          go_wp2_with fail
          refine (HRD.out _ _ _ HS.out (HG.out.ext HE.out)).mono ?_
          rintro e w5 ⟨rfl, hb5⟩
          have H3 := Lib.hid (ext_blk H3.out hb5)
          have HE := Lib.hid (HE.out.trans hb5)
          have hi2 : Hid ((Tryd.prog.info? 25).map (·.size) = some ((nq ((leN l * leN m : Nat) : Int)).map bval).length) := Lib.hid (num_size (nq_length _))
          have hl2 : Hid (((nq ((leN l * leN m : Nat) : Int)).map bval).length = (ints .u8 (List.replicate 32 0)).length) := Lib.hid (by rw [List.length_map, nq_length]; rfl)
          clear hb5 HRD
          go_wp2_with (refine wpList_store_blk rfl _ _ _ rfl (A + 1 + 1) _ rfl rfl _ _ H3.out hl2.out hi2.out (bval_one _) ?_; intro w7 hb7 hg7)
          exact bodyPost_ret (v := .agg ((nq ((leN l * leN m : Nat) : Int)).map bval).toArray) (result_row (by rfl) _ (A + 1 + 1) _ _ _ (by rfl) hb7 Tryd.underlying25 rfl hi2.out) rfl ⟨by rw [HRS.out], ext_grown HE.out hg7 (by omega)⟩

end Go.Proofs.YtoebokeehhfboaaDoor
