/- The walk of FieldEdges. Each theorem names its own conditions. -/
import Derived.Test.YtmiapjmdolecbaaFldLawM
import Derived.Test.YtmiapjmdolecbaaFldTop2
import Derived.Test.YtmiapjmdolecbaaRefNum
import Derived.Test.YtmiapjmdolecbaaDetAll
import Derived.Test.YtmiapjmdolecbaaDetLoad
import Derived.Test.YtmiapjmdolecbaaLawKit
namespace Go.Proofs.Ytmiapjmdolecbaa
open Go.RowKit
set_option linter.unusedVariables false
set_option linter.unusedSimpArgs false

set_option maxRecDepth 100000 in
set_option maxHeartbeats 16000000 in
theorem fieldEdges_any (x : UInt8) (above : Bool) (w : World) :
    Calls Try.prog 7 #[.int .u8 (x.toNat : Int), .bool above] w fun e w' => e = .returned (.bool true) ∧ Below w.heap.size w w' := by
  go_enter Try.func7, Try.ntmps7
  go_wp2_with fail
  have HE : Hid (Ext w w) := Lib.hid (Ext.refl w)
  refine (alive_any _).mono ?_
  rintro e wa ⟨rfl, hb⟩
  have HE := Lib.hid (HE.out.trans hb)
  clear hb
  go_wp2_with fail
  refine (small_any x _).mono ?_
  rintro e wa1 ⟨rfl, hb⟩
  have HE := Lib.hid (HE.out.trans hb)
  clear hb
  go_wp2_with fail
  refine (Sub_num zer (smL x) _ zer_length (smL_length _)).mono ?_
  rintro e wa2 ⟨rfl, hb⟩
  have HE := Lib.hid (HE.out.trans hb)
  clear hb
  have HD := Lib.hid (Blk.made wa2 zero32 23)
  have HX := Lib.hid (Ext.alloc wa2 (.cells zero32.toArray 23))
  go_wp2_with (first | (refine wpList_store_blk rfl _ _ _ rfl wa2.heap.size ((nb (((leN zer : Nat) : Int) - ((leN (smL x) : Nat) : Int))).map bval) rfl rfl _ _ HD.out (nb_len _) (nb_size _) (bval_one _) ?_; intro w5 hb5 hg5))
  obtain ⟨GP, hG⟩ : ∃ q, q = wa2.heap.size := ⟨_, rfl⟩
  rw [← hG] at hb5 hg5 ⊢
  have hwGP : w.heap.size ≤ GP := by have := HE.out.size; omega
  have HE := Lib.hid (ext_grown (HE.out.trans HX.out) hg5 hwGP)
  have HP := Lib.hid hb5
  clear hb5 hg5 hG HD HX  
  have HD := Lib.hid (Blk.made w5 zero32 23)
  have HX := Lib.hid (Ext.alloc w5 (.cells zero32.toArray 23))
  have bHP := HP.out.lt
  obtain ⟨G, hG⟩ : ∃ q, q = w5.heap.size := ⟨_, rfl⟩
  have lHPG : GP < G := by omega
  have hwG : w.heap.size ≤ G := by have := HE.out.size; omega
  rw [← hG] at HD
  have HP := Lib.hid (ext_blk HP.out HX.out)
  have HE := Lib.hid (HE.out.trans HX.out)
  rw [← hG]
  change Code.wp _ _ _ _ (w5.alloc (.cells zero32.toArray 23))
  generalize w5.alloc (.cells zero32.toArray 23) = w6 at *
  clear hG HX bHP
  obtain ⟨wo, rfl⟩ : ∃ wo : World, wo = w6 := ⟨_, rfl⟩
  go_loopw [8] (fun i wr => ∃ (k : Nat) (bs : List Int), k ≤ 32 ∧ i = .int .i64 k ∧ FullB bs k ∧ Blk wr GP ((nb (((leN zer : Nat) : Int) - ((leN (smL x) : Nat) : Int))).map bval) 23 ∧ Blk wr G (ints .u8 bs) 23 ∧ Ext w wr) (fun i _ => 32 - (intOf i).toNat)
  case atStart => exact ⟨0, _, by omega, rfl, ⟨rfl, fun j hj => by omega⟩, HP.out, HD.out, HE.out⟩
  case round =>
    clear HP HD HE
    obtain ⟨k, bs, hk, rfl, hfb, hHP, hb3, hbe⟩ := hrel
    have i0' : (0 : Int) ≤ (k : Int) := Int.natCast_nonneg _
    have hlen := hfb.len
    by_cases hlt : k < 32
    · have i1 : (k : Int) < 32 := by omega
      have e1 := hb3.cell k
      rw [ints_get (by omega)] at e1
      have f1 := hb3.free k
      have HST := Lib.hid (hfb.step hlt)
      have HP := Lib.hid hHP
      have HD := Lib.hid hb3
      have HE := Lib.hid hbe
      clear hHP hb3 hbe hfb hlen
      go_wp2_with fail
      go_roundw
      case rel =>
        refine ⟨k + 1, _, by omega, by go_num, HST.out, HP.out.far (by simp; omega) _, ?_, Below.setCell HE.out (by simp; omega) _⟩
        rw [← ints_set]
        exact HD.out.set k _
      case measure => simp [intOf]; omega
    · have hk' : k = 32 := by omega
      subst hk'
      have hd := hfb.done
      subst hd
      have HP := Lib.hid hHP
      have HD := Lib.hid hb3
      have HE := Lib.hid hbe
      clear hHP hb3 hbe hfb hlen
      obtain ⟨t1, ht1⟩ : ∃ q, q = (List.replicate 32 (255 : UInt8)) := ⟨_, rfl⟩
      have HLt1 : Hid (t1.length = 32) := Lib.hid (by rw [ht1]; rfl)
      have HIt1 : Hid ((Try.prog.info? 23).map (·.size) = some (t1.map bval).length) := Lib.hid (by rw [List.length_map, HLt1.out]; exact Try.arr23)
      have HSt1 : Hid (nb ((leN t1 : Nat) : Int) = smL 37) := Lib.hid (by rw [ht1]; exact edge1)
      have HVt1 := Lib.hid ht1
      clear ht1
      obtain ⟨t2, ht2⟩ : ∃ q, q = ((List.replicate 32 (255 : UInt8)).set 31 127) := ⟨_, rfl⟩
      have HLt2 : Hid (t2.length = 32) := Lib.hid (by rw [ht2]; rfl)
      have HIt2 : Hid ((Try.prog.info? 23).map (·.size) = some (t2.map bval).length) := Lib.hid (by rw [List.length_map, HLt2.out]; exact Try.arr23)
      have HSt2 : Hid (nb ((leN t2 : Nat) : Int) = smL 18) := Lib.hid (by rw [ht2]; exact edge2)
      have HVt2 := Lib.hid ht2
      clear ht2
      obtain ⟨q1, hq1⟩ : ∃ q, q = (((List.replicate 32 (255 : UInt8)).set 0 237).set 31 127) := ⟨_, rfl⟩
      have HLq1 : Hid (q1.length = 32) := Lib.hid (by rw [hq1]; rfl)
      have HIq1 : Hid ((Try.prog.info? 23).map (·.size) = some (q1.map bval).length) := Lib.hid (by rw [List.length_map, HLq1.out]; exact Try.arr23)
      have HSq1 : Hid (nb ((leN q1 : Nat) : Int) = zer) := Lib.hid (by rw [hq1]; exact edge3)
      have HVq1 := Lib.hid hq1
      clear hq1
      have h3 := HD.out
      have e3 : ints .u8 (List.replicate 32 255) = t1.map bval := by rw [HVt1.out]; kernel_rfl
      rw [e3] at h3
      have HD := Lib.hid h3
      clear e3 h3
      go_wp2_with (refine wpList_load_w (by rfl) _ _ rfl G rfl _ _ _ _ HD.out Try.underlying23 HIt1.out ?_)
      refine (Canon_num t1 _ HLt1.out).mono ?_
      rintro e w7 ⟨rfl, hb⟩
      have HP := Lib.hid (ext_blk HP.out hb)
      have HD := Lib.hid (ext_blk HD.out hb)
      have HE := Lib.hid (HE.out.trans hb)
      clear hb
      go_wp2_with fail
      refine (small_any 37 _).mono ?_
      rintro e w8 ⟨rfl, hb⟩
      have HP := Lib.hid (ext_blk HP.out hb)
      have HD := Lib.hid (ext_blk HD.out hb)
      have HE := Lib.hid (HE.out.trans hb)
      clear hb
      have e1 : w8.cell? ⟨G, 31, none⟩ = some (.int .u8 255) := by rw [HD.out.cell 31, HVt1.out]; rfl
      have f1 := HD.out.free 31
      have h3 := HD.out.set 31 (.int .u8 127)
      have e3 : (t1.map bval).set 31 (.int .u8 127) = t2.map bval := by rw [HVt1.out, HVt2.out]; kernel_rfl
      rw [e3] at h3
      have HT := Lib.hid h3
      clear h3 e3
      have HPf := Lib.hid (HP.out.far (a := ⟨G, 31, none⟩) (by simp; omega) (.int .u8 127))
      have HEf : Hid (Ext w (w8.setCell ⟨G, 31, none⟩ (.int .u8 127))) := Lib.hid (Below.setCell HE.out (by simp; omega) _)
      go_wp2_with (first | (refine wpList_eql (by rfl) _ _ _ _ _ _ 32 _ (nb ((leN t1 : Nat) : Int)) (smL 37) false rfl (Or.inr ⟨rfl, decide_eq_true HSt1.out⟩) Try.underlying23 Try.underlying5 num_info num_cells num_guard rfl rfl (nb_length _) (smL_length _) ?_) | (refine wpList_load_w (by rfl) _ _ rfl G rfl _ _ _ _ HT.out Try.underlying23 HIt2.out ?_))
      generalize w8.setCell ⟨G, 31, none⟩ (.int .u8 127) = w9 at *
      have HP := HPf
      have HE := HEf
      clear HPf HEf HD e1 f1
      refine (Canon_num t2 _ HLt2.out).mono ?_
      rintro e w10 ⟨rfl, hb⟩
      have HP := Lib.hid (ext_blk HP.out hb)
      have HT := Lib.hid (ext_blk HT.out hb)
      have HE := Lib.hid (HE.out.trans hb)
      clear hb
      go_wp2_with fail
      refine (small_any 18 _).mono ?_
      rintro e w11 ⟨rfl, hb⟩
      have HP := Lib.hid (ext_blk HP.out hb)
      have HT := Lib.hid (ext_blk HT.out hb)
      have HE := Lib.hid (HE.out.trans hb)
      clear hb
      clear HT
      have HD := Lib.hid (Blk.made w11 zero32 23)
      have HX := Lib.hid (Ext.alloc w11 (.cells zero32.toArray 23))
      have bHP := HP.out.lt
      obtain ⟨F, hG⟩ : ∃ q, q = w11.heap.size := ⟨_, rfl⟩
      have lHPF : GP < F := by omega
      have hwF : w.heap.size ≤ F := by have := HE.out.size; omega
      rw [← hG] at HD
      have HP := Lib.hid (ext_blk HP.out HX.out)
      have HE := Lib.hid (HE.out.trans HX.out)
      go_wp2_with (refine wpList_eql (by rfl) _ _ _ _ _ _ 32 _ (nb ((leN t2 : Nat) : Int)) (smL 18) true rfl (Or.inl ⟨rfl, decide_eq_true HSt2.out⟩) Try.underlying23 Try.underlying5 num_info num_cells num_guard rfl rfl (nb_length _) (smL_length _) ?_)
      rw [← hG]
      change Code.wp _ _ _ _ (w11.alloc (.cells zero32.toArray 23))
      generalize w11.alloc (.cells zero32.toArray 23) = w12 at *
      clear hG HX bHP
      obtain ⟨wo, rfl⟩ : ∃ wo : World, wo = w12 := ⟨_, rfl⟩
      go_loopw [11] (fun i wr => ∃ (k : Nat) (bs : List Int), k ≤ 32 ∧ i = .int .i64 k ∧ FullB bs k ∧ Blk wr GP ((nb (((leN zer : Nat) : Int) - ((leN (smL x) : Nat) : Int))).map bval) 23 ∧ Blk wr F (ints .u8 bs) 23 ∧ Ext w wr) (fun i _ => 32 - (intOf i).toNat)
      case atStart => exact ⟨0, _, by omega, rfl, ⟨rfl, fun j hj => by omega⟩, HP.out, HD.out, HE.out⟩
      case round =>
        clear HP HD HE
        obtain ⟨k, bs, hk, rfl, hfb, hHP, hb3, hbe⟩ := hrel
        have i0' : (0 : Int) ≤ (k : Int) := Int.natCast_nonneg _
        have hlen := hfb.len
        by_cases hlt : k < 32
        · have i1 : (k : Int) < 32 := by omega
          have e1 := hb3.cell k
          rw [ints_get (by omega)] at e1
          have f1 := hb3.free k
          have HST := Lib.hid (hfb.step hlt)
          have HP := Lib.hid hHP
          have HD := Lib.hid hb3
          have HE := Lib.hid hbe
          clear hHP hb3 hbe hfb hlen
          go_wp2_with fail
          go_roundw
          case rel =>
            refine ⟨k + 1, _, by omega, by go_num, HST.out, HP.out.far (by simp; omega) _, ?_, Below.setCell HE.out (by simp; omega) _⟩
            rw [← ints_set]
            exact HD.out.set k _
          case measure => simp [intOf]; omega
        · have hk' : k = 32 := by omega
          subst hk'
          have hd := hfb.done
          subst hd
          have HP := Lib.hid hHP
          have HD := Lib.hid hb3
          have HE := Lib.hid hbe
          clear hHP hb3 hbe hfb hlen
          have e1 : wr.cell? ⟨F, 31, none⟩ = some (.int .u8 255) := by rw [HD.out.cell 31]; rfl
          have e2 : wr.cell? ⟨F, 0, none⟩ = some (.int .u8 255) := by rw [HD.out.cell 0]; rfl
          have f1 := HD.out.free 31
          have f2 := HD.out.free 0
          have e3 : ints .u8 (((List.replicate 32 255).set 0 237).set 31 127) = q1.map bval := by rw [HVq1.out]; kernel_rfl
          have h3 := (HD.out.set 0 (.int .u8 237)).set 31 (.int .u8 127)
          rw [ints_set, ints_set, e3] at h3
          have HQ := Lib.hid h3
          have HP := Lib.hid ((HP.out.far (a := ⟨F, 0, none⟩) (by simp; omega) (.int .u8 237)).far (a := ⟨F, 31, none⟩) (by simp; omega) (.int .u8 127))
          have HE : Hid (Ext w ((wr.setCell ⟨F, 0, none⟩ (.int .u8 237)).setCell ⟨F, 31, none⟩ (.int .u8 127))) := Lib.hid (Below.setCell (Below.setCell HE.out (by simp; omega) _) (by simp; omega) _)
          clear HD e3 h3
          cases above
          · skip
            go_wp2_with fail
            generalize (wr.setCell ⟨F, 0, none⟩ (.int .u8 237)).setCell ⟨F, 31, none⟩ (.int .u8 127) = w13 at *
            refine wp_region_all (by kernel_rfl) (by kernel_rfl) ?_
            refine det_move _ (.bool true) (by rfl) rfl rfl ?_
            simp only [Act.put, List.setIfInBounds_toArray, List.set_cons_zero, List.set_cons_succ]
            refine det_move _ (.bool true) (by rfl) rfl rfl ?_
            simp only [Act.put, List.setIfInBounds_toArray, List.set_cons_zero, List.set_cons_succ]
            refine det_load _ _ F (q1.map bval) _ (by rfl) rfl rfl (fun w hw => ext_range HQ.out hw) Try.underlying23 rfl HIq1.out ?_
            simp only [Act.put, List.setIfInBounds_toArray, List.set_cons_zero, List.set_cons_succ]
            refine det_call _ _ _ [.agg (q1.map bval).toArray] (.agg ((nb (((leN q1 : Nat) : Int))).map bval).toArray) (by rfl) rfl Try.call12 rfl (fun w hw => Canon_num q1 w HLq1.out) ?_
            simp only [Act.put, List.setIfInBounds_toArray, List.set_cons_zero, List.set_cons_succ]
            refine det_val (.agg (zer.map bval).toArray) (by rfl) (fun w hw => by unfold execOp; simp [build_zer]) ?_
            simp only [Act.put, List.setIfInBounds_toArray, List.set_cons_zero, List.set_cons_succ]
            refine det_eql _ _ _ _ _ _ 32 _ (nb (((leN q1 : Nat) : Int))) zer true (by rfl) rfl (Or.inl ⟨rfl, decide_eq_true HSq1.out⟩) Try.underlying23 Try.underlying5 num_info num_cells num_guard rfl rfl (nb_length _) zer_length ?_
            simp only [Act.put, List.setIfInBounds_toArray, List.set_cons_zero, List.set_cons_succ]
            refine det_pick _ _ _ true (.bool true) (by rfl) rfl rfl rfl ?_
            simp only [Act.put, List.setIfInBounds_toArray, List.set_cons_zero, List.set_cons_succ]
            refine det_move _ (.bool true) (by rfl) rfl rfl ?_
            simp only [Act.put, List.setIfInBounds_toArray, List.set_cons_zero, List.set_cons_succ]
            refine det_load _ _ GP ((nb (((leN zer : Nat) : Int) - ((leN (smL x) : Nat) : Int))).map bval) _ (by rfl) rfl rfl (fun w hw => ext_range HP.out hw) Try.underlying23 rfl (nb_size _) ?_
            simp only [Act.put, List.setIfInBounds_toArray, List.set_cons_zero, List.set_cons_succ]
            refine det_move _ (.int .u8 ((x : UInt8).toNat : Int)) (by rfl) rfl rfl ?_
            simp only [Act.put, List.setIfInBounds_toArray, List.set_cons_zero, List.set_cons_succ]
            refine det_call _ _ _ [.int .u8 ((x : UInt8).toNat : Int)] (.agg ((smL x).map bval).toArray) (by rfl) rfl Try.call25 rfl (fun w hw => small_any x w) ?_
            simp only [Act.put, List.setIfInBounds_toArray, List.set_cons_zero, List.set_cons_succ]
            refine det_call _ _ _ [.agg ((nb (((leN zer : Nat) : Int) - ((leN (smL x) : Nat) : Int))).map bval).toArray, .agg ((smL x).map bval).toArray] (.agg ((nb (((leN (nb (((leN zer : Nat) : Int) - ((leN (smL x) : Nat) : Int))) : Nat) : Int) + ((leN (smL x) : Nat) : Int))).map bval).toArray) (by rfl) rfl Try.call14 rfl (fun w hw => Add_num (nb (((leN zer : Nat) : Int) - ((leN (smL x) : Nat) : Int))) (smL x) w (nb_length _) (smL_length _)) ?_
            simp only [Act.put, List.setIfInBounds_toArray, List.set_cons_zero, List.set_cons_succ]
            refine det_val (.agg (zer.map bval).toArray) (by rfl) (fun w hw => by unfold execOp; simp [build_zer]) ?_
            simp only [Act.put, List.setIfInBounds_toArray, List.set_cons_zero, List.set_cons_succ]
            refine det_eql _ _ _ _ _ _ 32 _ (nb (((leN (nb (((leN zer : Nat) : Int) - ((leN (smL x) : Nat) : Int))) : Nat) : Int) + ((leN (smL x) : Nat) : Int))) zer true (by rfl) rfl (Or.inl ⟨rfl, decide_eq_true (edge5 x)⟩) Try.underlying23 Try.underlying5 num_info num_cells num_guard rfl rfl (nb_length _) zer_length ?_
            simp only [Act.put, List.setIfInBounds_toArray, List.set_cons_zero, List.set_cons_succ]
            refine det_pick _ _ _ true (.bool true) (by rfl) rfl rfl rfl ?_
            simp only [Act.put, List.setIfInBounds_toArray, List.set_cons_zero, List.set_cons_succ]
            refine det_assign _ (.bool true) (by rfl) rfl rfl ?_
            simp only [Act.put, List.setIfInBounds_toArray, List.set_cons_zero, List.set_cons_succ]
            refine det_nil (fun w9 hw9 => ?_)
            go_wp2_with fail
            go_ret
            exact ⟨rfl, HE.out.trans hw9⟩
          · by_cases hx : x.toNat < 18
            · have hx1 : ((x.toNat : Nat) : Int) < 18 := by omega
              have e4 : ((wr.setCell ⟨F, 0, none⟩ (.int .u8 237)).setCell ⟨F, 31, none⟩ (.int .u8 127)).cell? ⟨F, 0, none⟩ = some (.int .u8 237) := by rw [HQ.out.cell 0, HVq1.out]; rfl
              have f4 := HQ.out.free 0
              have hv : (237 + ((x.toNat : Nat) : Int)) = ((237 + x : UInt8).toNat : Int) := by
                have e : (237 + x : UInt8).toNat = 237 + x.toNat := by rw [UInt8.toNat_add]; show (237 + x.toNat) % 256 = _; omega
                rw [e]; omega
              obtain ⟨q2, hq2⟩ : ∃ q, q = (((List.replicate 32 (255 : UInt8)).set 0 (237 + x)).set 31 127) := ⟨_, rfl⟩
              have HLq2 : Hid (q2.length = 32) := Lib.hid (by rw [hq2]; rfl)
              have HIq2 : Hid ((Try.prog.info? 23).map (·.size) = some (q2.map bval).length) := Lib.hid (by rw [List.length_map, HLq2.out]; exact Try.arr23)
              have HSq2 : Hid (nb ((leN q2 : Nat) : Int) = smL x) := Lib.hid (by rw [hq2]; exact edge4 x hx)
              have e5 : (q1.map bval).set 0 (.int .u8 (237 + ((x.toNat : Nat) : Int))) = q2.map bval := by rw [hv, HVq1.out, hq2]; rfl
              have h3 := HQ.out.set 0 (.int .u8 (237 + ((x.toNat : Nat) : Int)))
              rw [e5] at h3
              have HR := Lib.hid h3
              have HEf : Hid (Ext w (((wr.setCell ⟨F, 0, none⟩ (.int .u8 237)).setCell ⟨F, 31, none⟩ (.int .u8 127)).setCell ⟨F, 0, none⟩ (.int .u8 (237 + ((x.toNat : Nat) : Int))))) := Lib.hid (Below.setCell HE.out (by simp; omega) _)
              clear e5 h3 hq2 hv
              go_wp2_with (refine wpList_load_w (by rfl) _ _ rfl F rfl _ _ _ _ HR.out Try.underlying23 HIq2.out ?_)
              generalize ((wr.setCell ⟨F, 0, none⟩ (.int .u8 237)).setCell ⟨F, 31, none⟩ (.int .u8 127)).setCell ⟨F, 0, none⟩ (.int .u8 (237 + ((x.toNat : Nat) : Int))) = w13 at *
              have HE := HEf
              refine (Canon_num q2 _ HLq2.out).mono ?_
              rintro e w14 ⟨rfl, hb⟩
              have HE := Lib.hid (HE.out.trans hb)
              clear hb
              go_wp2_with fail
              refine (small_any x _).mono ?_
              rintro e w15 ⟨rfl, hb⟩
              have HE := Lib.hid (HE.out.trans hb)
              clear hb
              go_wp2_with (refine wpList_eql (by rfl) _ _ _ _ _ _ 32 _ (nb ((leN q2 : Nat) : Int)) (smL x) true rfl (Or.inl ⟨rfl, decide_eq_true HSq2.out⟩) Try.underlying23 Try.underlying5 num_info num_cells num_guard rfl rfl (nb_length _) (smL_length _) ?_)
              go_ret
              exact ⟨rfl, HE.out⟩
            · have hx1 : ¬ ((x.toNat : Nat) : Int) < 18 := by omega
              go_wp2_with fail
              generalize (wr.setCell ⟨F, 0, none⟩ (.int .u8 237)).setCell ⟨F, 31, none⟩ (.int .u8 127) = w13 at *
              refine wp_region_all (by kernel_rfl) (by kernel_rfl) ?_
              refine det_move _ (.bool true) (by rfl) rfl rfl ?_
              simp only [Act.put, List.setIfInBounds_toArray, List.set_cons_zero, List.set_cons_succ]
              refine det_move _ (.bool true) (by rfl) rfl rfl ?_
              simp only [Act.put, List.setIfInBounds_toArray, List.set_cons_zero, List.set_cons_succ]
              refine det_load _ _ F (q1.map bval) _ (by rfl) rfl rfl (fun w hw => ext_range HQ.out hw) Try.underlying23 rfl HIq1.out ?_
              simp only [Act.put, List.setIfInBounds_toArray, List.set_cons_zero, List.set_cons_succ]
              refine det_call _ _ _ [.agg (q1.map bval).toArray] (.agg ((nb (((leN q1 : Nat) : Int))).map bval).toArray) (by rfl) rfl Try.call12 rfl (fun w hw => Canon_num q1 w HLq1.out) ?_
              simp only [Act.put, List.setIfInBounds_toArray, List.set_cons_zero, List.set_cons_succ]
              refine det_val (.agg (zer.map bval).toArray) (by rfl) (fun w hw => by unfold execOp; simp [build_zer]) ?_
              simp only [Act.put, List.setIfInBounds_toArray, List.set_cons_zero, List.set_cons_succ]
              refine det_eql _ _ _ _ _ _ 32 _ (nb (((leN q1 : Nat) : Int))) zer true (by rfl) rfl (Or.inl ⟨rfl, decide_eq_true HSq1.out⟩) Try.underlying23 Try.underlying5 num_info num_cells num_guard rfl rfl (nb_length _) zer_length ?_
              simp only [Act.put, List.setIfInBounds_toArray, List.set_cons_zero, List.set_cons_succ]
              refine det_pick _ _ _ true (.bool true) (by rfl) rfl rfl rfl ?_
              simp only [Act.put, List.setIfInBounds_toArray, List.set_cons_zero, List.set_cons_succ]
              refine det_move _ (.bool true) (by rfl) rfl rfl ?_
              simp only [Act.put, List.setIfInBounds_toArray, List.set_cons_zero, List.set_cons_succ]
              refine det_load _ _ GP ((nb (((leN zer : Nat) : Int) - ((leN (smL x) : Nat) : Int))).map bval) _ (by rfl) rfl rfl (fun w hw => ext_range HP.out hw) Try.underlying23 rfl (nb_size _) ?_
              simp only [Act.put, List.setIfInBounds_toArray, List.set_cons_zero, List.set_cons_succ]
              refine det_move _ (.int .u8 ((x : UInt8).toNat : Int)) (by rfl) rfl rfl ?_
              simp only [Act.put, List.setIfInBounds_toArray, List.set_cons_zero, List.set_cons_succ]
              refine det_call _ _ _ [.int .u8 ((x : UInt8).toNat : Int)] (.agg ((smL x).map bval).toArray) (by rfl) rfl Try.call25 rfl (fun w hw => small_any x w) ?_
              simp only [Act.put, List.setIfInBounds_toArray, List.set_cons_zero, List.set_cons_succ]
              refine det_call _ _ _ [.agg ((nb (((leN zer : Nat) : Int) - ((leN (smL x) : Nat) : Int))).map bval).toArray, .agg ((smL x).map bval).toArray] (.agg ((nb (((leN (nb (((leN zer : Nat) : Int) - ((leN (smL x) : Nat) : Int))) : Nat) : Int) + ((leN (smL x) : Nat) : Int))).map bval).toArray) (by rfl) rfl Try.call14 rfl (fun w hw => Add_num (nb (((leN zer : Nat) : Int) - ((leN (smL x) : Nat) : Int))) (smL x) w (nb_length _) (smL_length _)) ?_
              simp only [Act.put, List.setIfInBounds_toArray, List.set_cons_zero, List.set_cons_succ]
              refine det_val (.agg (zer.map bval).toArray) (by rfl) (fun w hw => by unfold execOp; simp [build_zer]) ?_
              simp only [Act.put, List.setIfInBounds_toArray, List.set_cons_zero, List.set_cons_succ]
              refine det_eql _ _ _ _ _ _ 32 _ (nb (((leN (nb (((leN zer : Nat) : Int) - ((leN (smL x) : Nat) : Int))) : Nat) : Int) + ((leN (smL x) : Nat) : Int))) zer true (by rfl) rfl (Or.inl ⟨rfl, decide_eq_true (edge5 x)⟩) Try.underlying23 Try.underlying5 num_info num_cells num_guard rfl rfl (nb_length _) zer_length ?_
              simp only [Act.put, List.setIfInBounds_toArray, List.set_cons_zero, List.set_cons_succ]
              refine det_pick _ _ _ true (.bool true) (by rfl) rfl rfl rfl ?_
              simp only [Act.put, List.setIfInBounds_toArray, List.set_cons_zero, List.set_cons_succ]
              refine det_assign _ (.bool true) (by rfl) rfl rfl ?_
              simp only [Act.put, List.setIfInBounds_toArray, List.set_cons_zero, List.set_cons_succ]
              refine det_nil (fun w9 hw9 => ?_)
              go_wp2_with fail
              go_ret
              exact ⟨rfl, HE.out.trans hw9⟩

end Go.Proofs.Ytmiapjmdolecbaa
