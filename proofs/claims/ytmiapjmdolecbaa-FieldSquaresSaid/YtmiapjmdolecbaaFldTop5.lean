/- The walk of the code's Pow. Each theorem names its own conditions. -/
import Derived.Test.YtmiapjmdolecbaaFldTop1
import Derived.Test.YtmiapjmdolecbaaRefPow
namespace Go.Proofs.Ytmiapjmdolecbaa
open Go.RowKit
set_option linter.unusedVariables false
set_option linter.unusedSimpArgs false

def oneL : L5 := ⟨1, 0, 0, 0, 0⟩
theorem oneL_lt : oneL.lt 18014398509481984 := by unfold L5.lt; decide
theorem oneL_val (z : Int) : Cong (oneL.val : Nat) (z ^ 0) := by
  rw [Int.pow_zero]
  exact Cong.refl _

set_option maxRecDepth 100000 in
set_option maxHeartbeats 8000000 in
theorem Pow_num (l m : List UInt8) (w : World) (hl : l.length = 32) (hm : m.length = 32) :
    Calls Try.prog 20 #[.agg (l.map bval).toArray, .agg (m.map bval).toArray] w fun e w' => e = .returned (numP ((leN l : Int) ^ leN m)) ∧ Below w.heap.size w w' := by
  have HLl := Lib.hid hl
  have HLm := Lib.hid hm
  have HIl : Hid ((Try.prog.info? 23).map (·.size) = some (l.map bval).length) := Lib.hid (by rw [List.length_map, hl]; exact Try.arr23)
  have HIm : Hid ((Try.prog.info? 23).map (·.size) = some (m.map bval).length) := Lib.hid (by rw [List.length_map, hm]; exact Try.arr23)
  have HB := Lib.hid (boxes3 w (l.map bval) (m.map bval) zero32 23 23 23)
  clear hl hm
  go_enter Try.func20, Try.ntmps20
  go_wp2_with (refine wpList_load_blk rfl _ _ rfl w.heap.size rfl _ _ _ _ HB.out.1 Try.underlying23 HIl.out ?_)
  change Calls _ _ _ (((w.alloc (.cells (l.map bval).toArray 23)).alloc (.cells (m.map bval).toArray 23)).alloc (.cells zero32.toArray 23)) _
  generalize ((w.alloc (.cells (l.map bval).toArray 23)).alloc (.cells (m.map bval).toArray 23)).alloc (.cells zero32.toArray 23) = w0 at *
  obtain ⟨h1, h2, h3, h4⟩ := HB.out
  obtain ⟨A, hA⟩ : ∃ A, A = w.heap.size := ⟨_, rfl⟩
  rw [← hA] at h1 h2 h3 ⊢
  have hA2 : w.heap.size ≤ A := by omega
  have H1 := Lib.hid h1
  have H2 := Lib.hid h2
  have H3 := Lib.hid h3
  have HE : Hid (Ext w w0) := Lib.hid h4
  clear h1 h2 h3 h4 HB hA
  refine (limbsOf_any l HLl.out _).mono ?_
  rintro e w1 ⟨rfl, hb⟩
  have H2 := Lib.hid (ext_blk H2.out hb)
  have H3 := Lib.hid (ext_blk H3.out hb)
  have HE := Lib.hid (HE.out.trans hb)
  clear hb H1
  obtain ⟨v1, hv⟩ : ∃ v, v = limbsL l := ⟨_, rfl⟩
  rw [← hv]
  have LT1 : Hid (v1.lt 18014398509481984) := Lib.hid (by rw [hv]; exact limbsL_lt l)
  have CV1 : Hid (Cong (v1.val : Nat) (leN l : Nat)) := Lib.hid (by rw [hv]; exact limbsL_val l HLl.out)
  clear hv
  obtain ⟨p, hp⟩ : ∃ p, p = w1.heap.size := ⟨_, rfl⟩
  have HBX := Lib.hid (boxes2 w1 v1.vs oneL.vs 41 41)
  rw [← hp] at HBX
  unfold L5.v L5.vs
  go_wp2_with fail
  rw [← hp]
  change Code.wp _ _ _ _ ((w1.alloc (.cells v1.vs.toArray 41)).alloc (.cells oneL.vs.toArray 41))
  generalize (w1.alloc (.cells v1.vs.toArray 41)).alloc (.cells oneL.vs.toArray 41) = w2 at *
  obtain ⟨b1, b2, b3⟩ := HBX.out
  have b3' : Ext w1 w2 := by rw [hp] at b3; exact b3
  have hpA : A + 1 + 1 < p := by have := H3.out.lt; omega
  have HV := Lib.hid b1
  have HO := Lib.hid b2
  have H2 := Lib.hid (ext_blk H2.out b3')
  have H3 := Lib.hid (ext_blk H3.out b3')
  have HE := Lib.hid (HE.out.trans b3')
  have HN : Hid (leN m < 2 ^ 256) := Lib.hid (by
    have := leN_lt m
    rw [HLm.out] at this
    have e : (256 : Nat) ^ 32 = 2 ^ 256 := by decide +kernel
    rwa [e] at this)
  clear b1 b2 b3 b3' HBX hp
  go_loopw [7] (fun i wr => ∃ (k : Nat) (o : L5), k ≤ 32 ∧ i = .int .i64 ((k : Int) - 1) ∧ o.lt 18014398509481984 ∧ Cong (o.val : Nat) ((leN l : Int) ^ (leN m / 2 ^ (8 * k))) ∧ Blk wr p v1.vs 41 ∧ Blk wr (p + 1) o.vs 41 ∧ Blk wr (A + 1) (m.map bval) 23 ∧ Blk wr (A + 1 + 1) zero32 23 ∧ Ext w wr) (fun i _ => (intOf i + 1).toNat)
  case atStart => exact ⟨32, oneL, by omega, rfl, oneL_lt, by rw [Nat.div_eq_of_lt HN.out]; exact oneL_val _, HV.out, HO.out, H2.out, H3.out, HE.out⟩
  case round =>
    clear HV HO H2 H3 HE
    obtain ⟨k, o, hk, rfl, hol, hoc, hb1, hb2, hb3, hb4, hbe⟩ := hrel
    have HV := Lib.hid hb1
    have HO := Lib.hid hb2
    have H2 := Lib.hid hb3
    have H3 := Lib.hid hb4
    have HE := Lib.hid hbe
    have HOL := Lib.hid hol
    have HOC := Lib.hid hoc
    clear hb1 hb2 hb3 hb4 hbe hol hoc
    by_cases hlt : 0 < k
    · obtain ⟨q, rfl⟩ : ∃ q, k = q + 1 := ⟨k - 1, by omega⟩
      have hi : (((q + 1 : Nat) : Int) - 1) = (q : Int) := by omega
      rw [hi]
      clear hi
      have i0 : (0 : Int) ≤ (q : Int) := Int.natCast_nonneg _
      have i1 : (q : Int) < 32 := by omega
      go_wp2_with fail
      obtain ⟨wo, rfl⟩ : ∃ wo : World, wo = wr := ⟨_, rfl⟩
      go_loopw [8] (fun i wr => ∃ (j : Nat) (o : L5), j ≤ 8 ∧ i = .int .i64 ((j : Int) - 1) ∧ o.lt 18014398509481984 ∧ Cong (o.val : Nat) ((leN l : Int) ^ (leN m / 2 ^ (8 * q + j))) ∧ Blk wr p v1.vs 41 ∧ Blk wr (p + 1) o.vs 41 ∧ Blk wr (A + 1) (m.map bval) 23 ∧ Blk wr (A + 1 + 1) zero32 23 ∧ Ext w wr) (fun i _ => (intOf i + 1).toNat)
      case atStart => exact ⟨8, o, by omega, rfl, HOL.out, HOC.out, HV.out, HO.out, H2.out, H3.out, HE.out⟩
      case round =>
        clear HV HO H2 H3 HE HOL HOC
        obtain ⟨j, o, hj, rfl, hol, hoc, hb1, hb2, hb3, hb4, hbe⟩ := hrel
        have HV := Lib.hid hb1
        have HO := Lib.hid hb2
        have H2 := Lib.hid hb3
        have H3 := Lib.hid hb4
        have HE := Lib.hid hbe
        have HOL := Lib.hid hol
        have HOC := Lib.hid hoc
        clear hb1 hb2 hb3 hb4 hbe hol hoc
        by_cases hlt2 : 0 < j
        · obtain ⟨r, rfl⟩ : ∃ q, j = q + 1 := ⟨j - 1, by omega⟩
          have hi : (((r + 1 : Nat) : Int) - 1) = (r : Int) := by omega
          rw [hi]
          clear hi
          have j0 : (0 : Int) ≤ (r : Int) := Int.natCast_nonneg _
          have HS := Lib.hid (times_any o o HOL.out HOL.out)
          have HSL : Hid ((timesL o o).lt 18014398509481984) := Lib.hid (timesL_lt HOL.out HOL.out)
          have HSC : Hid (Cong ((timesL o o).val : Nat) ((leN l : Int) ^ (leN m / 2 ^ (8 * q + (r + 1))) * (leN l : Int) ^ (leN m / 2 ^ (8 * q + (r + 1))))) := Lib.hid ((timesL_val o o).trans (HOC.out.mul HOC.out))
          go_wp2_with (refine wpList_load_blk rfl _ _ rfl (p + 1) rfl _ _ _ _ HO.out Try.underlying41 Try.arr41 ?_)
          refine (HS.out _).mono ?_
          rintro e w3 ⟨rfl, hb⟩
          have HV := Lib.hid (ext_blk HV.out hb)
          have HO := Lib.hid (ext_blk HO.out hb)
          have H2 := Lib.hid (ext_blk H2.out hb)
          have H3 := Lib.hid (ext_blk H3.out hb)
          have HE := Lib.hid (HE.out.trans hb)
          clear hb HS
          generalize timesL o o = s at *
          have e1 := H2.out.cell q
          rw [bval_get (by have := HLm.out; omega)] at e1
          have HE1 := Lib.hid e1
          have hbit := leN_bit m (8 * q + r) (by have := HLm.out; omega)
          rw [show (8 * q + r) / 8 = q from by omega, show (8 * q + r) % 8 = r from by omega] at hbit
          have hhalf : leN m / 2 ^ (8 * q + r) = 2 * (leN m / 2 ^ (8 * q + (r + 1))) + leN m / 2 ^ (8 * q + r) % 2 := by
            have e : leN m / 2 ^ (8 * q + (r + 1)) = leN m / 2 ^ (8 * q + r) / 2 := by
              rw [Nat.div_div_eq_div_mul, ← Nat.pow_succ]
              congr 2
            rw [e]
            omega
          generalize (m.getD q 0).toNat = bt at *
          have hcast : (bt : Int) / 2 ^ r = ((bt / 2 ^ r : Nat) : Int) := by
            rw [Int.natCast_ediv, Int.natCast_pow]
            rfl
          by_cases hb1 : leN m / 2 ^ (8 * q + r) % 2 = 1
          · have hq : (bits .and .u8 ((bt : Int) / 2 ^ r) 1 == 1) = true := by
              rw [hcast, andU1, ← hbit, hb1]
              rfl
            have HM := Lib.hid (times_any s v1 HSL.out LT1.out)
            have HML : Hid ((timesL s v1).lt 18014398509481984) := Lib.hid (timesL_lt HSL.out LT1.out)
            have HMC : Hid (Cong ((timesL s v1).val : Nat) ((leN l : Int) ^ (leN m / 2 ^ (8 * q + r)))) := Lib.hid (by
              rw [hhalf, hb1, Int.pow_succ, Nat.two_mul, Int.pow_add]
              exact (timesL_val s v1).trans (HSC.out.mul CV1.out))
            clear hbit hcast hhalf hb1
            go_wp2_with (first | (refine wpList_store_blk rfl _ _ _ rfl (p + 1) s.vs rfl rfl _ _ HO.out rfl Try.arr41 (L5.vs_one _) ?_; intro w4 hb4 hg4; have e7 := (hg4.cell_far ⟨A + 1, q, none⟩ (H2.out.lt) (by simp; omega)).trans HE1.out; have k7 := HV.out.grown hg4 (by simp)) | (refine wpList_load_blk rfl _ _ rfl (p + 1) rfl _ _ _ _ hb4 Try.underlying41 Try.arr41 ?_) | (refine wpList_load_blk rfl _ _ rfl p rfl _ _ _ _ k7 Try.underlying41 Try.arr41 ?_))
            have HV := Lib.hid k7
            have HO := Lib.hid hb4
            have H2 := Lib.hid (H2.out.grown hg4 (by simp; omega))
            have H3 := Lib.hid (H3.out.grown hg4 (by simp; omega))
            have HE := Lib.hid (ext_grown HE.out hg4 (by omega))
            clear hb4 hg4 e7 k7 e1
            refine (HM.out _).mono ?_
            rintro e w5 ⟨rfl, hb⟩
            have HV := Lib.hid (ext_blk HV.out hb)
            have HO := Lib.hid (ext_blk HO.out hb)
            have H2 := Lib.hid (ext_blk H2.out hb)
            have H3 := Lib.hid (ext_blk H3.out hb)
            have HE := Lib.hid (HE.out.trans hb)
            clear hb HM
            generalize timesL s v1 = s2 at *
            go_wp2_with (refine wpList_store_blk rfl _ _ _ rfl (p + 1) s2.vs rfl rfl _ _ HO.out rfl Try.arr41 (L5.vs_one _) ?_; intro w6 hb6 hg6)
            go_roundw
            case rel => exact ⟨r, s2, by omega, by go_num, HML.out, HMC.out, HV.out.grown hg6 (by simp), hb6, H2.out.grown hg6 (by simp; omega), H3.out.grown hg6 (by simp; omega), ext_grown HE.out hg6 (by omega)⟩
            case measure => simp [intOf]
          · have hq : (bits .and .u8 ((bt : Int) / 2 ^ r) 1 == 1) = false := by
              rw [hcast, andU1, ← hbit, show leN m / 2 ^ (8 * q + r) % 2 = 0 from by omega]
              rfl
            have HMC : Hid (Cong (s.val : Nat) ((leN l : Int) ^ (leN m / 2 ^ (8 * q + r)))) := Lib.hid (by
              rw [hhalf, show leN m / 2 ^ (8 * q + r) % 2 = 0 from by omega, Nat.add_zero, Nat.two_mul, Int.pow_add]
              exact HSC.out)
            clear hbit hcast hhalf hb1
            go_wp2_with (refine wpList_store_blk rfl _ _ _ rfl (p + 1) s.vs rfl rfl _ _ HO.out rfl Try.arr41 (L5.vs_one _) ?_; intro w4 hb4 hg4; have e7 := (hg4.cell_far ⟨A + 1, q, none⟩ (H2.out.lt) (by simp; omega)).trans HE1.out)
            go_roundw
            case rel => exact ⟨r, s, by omega, by go_num, HSL.out, HMC.out, HV.out.grown hg4 (by simp), hb4, H2.out.grown hg4 (by simp; omega), H3.out.grown hg4 (by simp; omega), ext_grown HE.out hg4 (by omega)⟩
            case measure => simp [intOf]
        · have hj0 : j = 0 := by omega
          subst hj0
          go_wp2_with fail
          go_roundw
          case rel => exact ⟨q, o, by omega, by go_num, HOL.out, HOC.out, HV.out, HO.out, H2.out, H3.out, HE.out⟩
          case measure => simp [intOf]
    · have hk0 : k = 0 := by omega
      subst hk0
      have HN := Lib.hid (numOf_any o (HOL.out.mono (by omega)))
      have HVV : Hid (numP (o.val : Nat) = numP ((leN l : Int) ^ leN m)) := Lib.hid (numP_cong (by have := HOC.out; rwa [Nat.mul_zero, Nat.pow_zero, Nat.div_one] at this))
      go_wp2_with (refine wpList_load_blk rfl _ _ rfl (p + 1) rfl _ _ _ _ HO.out Try.underlying41 Try.arr41 ?_)
      refine (HN.out _).mono ?_
      rintro e w3 ⟨rfl, hb⟩
      have H3 := Lib.hid (ext_blk H3.out hb)
      have HE := Lib.hid (HE.out.trans hb)
      clear hb
      rw [HVV.out]
      go_wp2_with (refine wpList_store_blk rfl _ _ _ rfl (A + 1 + 1) ((nb ((leN l : Int) ^ leN m)).map bval) rfl rfl _ _ H3.out (nb_len _) (nb_size _) (bval_one _) ?_; intro w5 hb5 hg5)
      exact bodyPost_ret (v := numP ((leN l : Int) ^ leN m)) (result_row (by rfl) _ (A + 1 + 1) _ _ _ (by rfl) hb5 Try.underlying23 rfl (nb_size _)) rfl ⟨rfl, ext_grown HE.out hg5 (by omega)⟩

end Go.Proofs.Ytmiapjmdolecbaa
