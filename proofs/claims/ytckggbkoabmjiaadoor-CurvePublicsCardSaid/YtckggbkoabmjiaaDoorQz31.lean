/- Texts that belong together, one behind the other. -/
import Derived.Deep.Quiet
import Derived.OrdersHeld
import Derived.Deep.RegionHeld
import Derived.ChangeKeysEq
import Derived.Deep.MidRow
import Derived.WalkKit
import Derived.WalkSpells
import Derived.WalkLawsBesides
import Derived.Lib.Hide
import Derived.Deep.QuietTactic
import Derived.BigQuiet
import Derived.Deep.RegionHeld3
import Derived.Deep.AppendLies
import Derived.OneCell
import Derived.Lib.SlBytesConst
import Derived.KernelRfl
import Derived.Laws.ResultCell
import Derived.Deep.CutRange
import Derived.Lib.AppendZeros
import Derived.ProofKit
import Derived.WalkMore
import Derived.Deep.RegionWith
import Derived.StillTailTactics
import Derived.Laws.Entries
import Derived.Great.BuildSlice
import Derived.ScopeJumps
import Derived.Control
import Derived.Laws.CopyOwn
import Derived.Laws.Slices
import Derived.Laws.Tables
import Derived.Lib.Mul64
import Derived.Laws.Bits64b
import Derived.Laws.Externs
import Derived.Laws.MakeOwn
import Derived.Test.YtckggbkoabmjiaaDoorQz01
import Derived.Test.YtckggbkoabmjiaaDoorQz02
import Derived.Test.YtckggbkoabmjiaaDoorQz09
import Derived.Test.YtckggbkoabmjiaaDoorQz12
import Derived.Test.YtckggbkoabmjiaaDoorQz16
import Derived.Test.YtckggbkoabmjiaaDoorQz17
import Derived.Test.YtckggbkoabmjiaaDoorQz21
namespace Go.Proofs.YtckggbkoabmjiaaDoor
set_option linter.unusedVariables false
set_option linter.unusedSimpArgs false
open Go.RowKit
section
section
variable {P : Program} {ops : Array Oper} {Q : Exit → Act → World → Prop} {md : Region.Mode} {t : Nat} {C : World → Prop} {D : Act → Prop}
theorem det_pick {o : Oper} {rest : List Oper} {a : Act} (c x y : Operand) (b : Bool) (v : Value) (hw : Region.wanted o (yielded ops a.tmps) = true) (ho : o.op = .pick c x y) (hc : a.eval c = .bool b) (hx : (if b then a.eval x else a.eval y) = v)
  (next : wpDet P ops C D rest (a.put o.dst v)) : wpDet P ops C D (o :: rest) a :=
 det_val v hw (fun w _ => by
  unfold execOp
  cases b <;> simp only [ho, hc, Bool.false_eq_true, if_false, if_true] at hx ⊢ <;> simp [asBool, hx]) next
end
end
set_option maxRecDepth 100000 in
set_option maxHeartbeats 8000000 in
theorem curvePublics_any (sd : List UInt8) (w : World) (hs : sd.length = 32) (hR : GlobRQ w) (hT : GlobT w) (hG : GlobC w) (hK : GlobK5 w) (hD : GlobD w) (hX : GlobX w) (hY : GlobY w) : Calls Tryd.prog 3 #[.agg (sd.map bval).toArray] w fun e w' => e = .returned (.bool true) ∧ Below w.heap.size w w' := by
 have HSL := Lib.hid hs
 clear hs
 have HGR := Lib.hid hR
 have HGT := Lib.hid hT
 have HGC := Lib.hid hG
 have HGK := Lib.hid hK
 have HGD := Lib.hid hD
 have HGX := Lib.hid hX
 have HGY := Lib.hid hY
 clear hR hT hG hK hD hX hY
 have HB := Lib.hid (boxes_one w (sd.map bval) 23)
 go_enter Tryd.func3, Tryd.ntmps3
 go_upto_region 1 with (fail)
 obtain ⟨H1, HE⟩ := HB.out
 change Code.wp _ _ _ _ (World.alloc w (.cells (sd.map bval).toArray 23))
 generalize (World.alloc w (.cells (sd.map bval).toArray 23)) = wa at *
 obtain ⟨A, hA⟩ : ∃ A, A = w.heap.size := ⟨_, rfl⟩
 have HAW : Hid (w.heap.size ≤ A) := Lib.hid (by omega)
 rw [← hA] at H1 ⊢
 have H1 := Lib.hid H1
 have HE : Hid (Ext w wa) := Lib.hid HE
 clear hA HB
 go_wp2_with fail
 refine (alive_any13 _ (HGR.out.ext HE.out) (HGT.out.ext HE.out) (HGC.out.ext HE.out)).mono ?_
 rintro e w5 ⟨rfl, hb⟩
 have H1 := Lib.hid (ext_blk H1.out hb)
 have HE := Lib.hid (HE.out.trans hb)
 clear hb
 generalize w5 = w6 at *
 go_wp2_with (first | (refine wpList_load_mid rfl _ _ rfl A 0 rfl _ _ (H1.out.range) Tryd.underlying23 rfl (num_size HSL.out) ?_))
 refine (CPub_num sd _ HSL.out (HGR.out.ext HE.out) (HGC.out.ext HE.out)).mono ?_
 rintro e wp ⟨rfl, hb⟩
 have H1 := Lib.hid (ext_blk H1.out hb)
 have HE := Lib.hid (HE.out.trans hb)
 clear hb
 have HLpb := Lib.hid (edPub_length sd)
 obtain ⟨pb, hnm⟩ : ∃ k, k = edPub sd := ⟨_, rfl⟩
 rw [← hnm] at HLpb ⊢
 have HNpb := Lib.hid hnm
 clear hnm
 have HZ := Lib.hid (Blk.made wp (ints .u8 (List.replicate 32 0)) 23)
 have HEA := Lib.hid (Ext.alloc wp (.cells (ints .u8 (List.replicate 32 0)).toArray 23))
 have HL : Hid ((pb.map bval).length = (ints .u8 (List.replicate 32 0)).length) := Lib.hid (by rw [List.length_map, HLpb.out]; rfl)
 go_upto_region 3 with (refine wpList_store_blk rfl _ _ _ rfl wp.heap.size (pb.map bval) rfl rfl _ _ HZ.out HL.out (num_size HLpb.out) (bval_one _) ?_; intro w7 hb hg)
 have HX := Lib.hid (ext_grown HEA.out hg (Nat.le_refl _))
 obtain ⟨pp, hT⟩ : ∃ T, T = wp.heap.size := ⟨_, rfl⟩
 rw [← hT] at hb ⊢
 clear hT
 have H1 := Lib.hid (ext_blk H1.out HX.out)
 have HE := Lib.hid (HE.out.trans HX.out)
 have HVp := Lib.hid hb
 clear hb hg HX HZ HEA HL
 generalize w7 = wp at *
 go_wp2_with fail
 refine wp_region_all (by kernel_rfl) (by kernel_rfl) ?_
 refine det_move _ (.bool true) (by rfl) rfl rfl ?_
 simp only [Act.put, nrm]
 refine det_move _ (.bool true) (by rfl) rfl rfl ?_
 simp only [Act.put, nrm]
 refine det_loadk _ _ pp 0 (pb.map bval) _ (by rfl) rfl rfl (fun w hw => (ext_blk HVp.out hw).range) Tryd.underlying23 rfl (num_size HLpb.out) ?_
 simp only [Act.put, nrm]
 refine det_loadk _ _ A 0 (sd.map bval) _ (by rfl) rfl rfl (fun w hw => (ext_blk H1.out hw).range) Tryd.underlying23 rfl (num_size HSL.out) ?_
 simp only [Act.put, nrm]
 refine det_call _ _ _ [.agg (sd.map bval).toArray] (.agg (pb.map bval).toArray) (by rfl) rfl Tryd.call11 rfl (fun w hw => (by have h := rpublic_f sd w HSL.out (HGK.out.ext (HE.out.trans hw)) (HGD.out.ext (HE.out.trans hw)) (HGX.out.ext (HE.out.trans hw)) (HGY.out.ext (HE.out.trans hw)); rwa [← HNpb.out] at h)) ?_
 simp only [Act.put, nrm]
 refine det_eql .eql _ _ _ _ _ 32 _ pb pb true (by rfl) rfl (Or.inl ⟨rfl, decide_eq_true rfl⟩) Tryd.underlying23 Tryd.underlying5 num_info num_cells num_guard rfl rfl HLpb.out HLpb.out ?_
 simp only [Act.put, nrm]
 refine det_pick _ _ _ true (.bool true) (by rfl) rfl rfl rfl ?_
 simp only [Act.put, nrm]
 refine det_move _ (.bool true) (by rfl) rfl rfl ?_
 simp only [Act.put, nrm]
 refine det_loadk _ _ pp 0 (pb.map bval) _ (by rfl) rfl rfl (fun w hw => (ext_blk HVp.out hw).range) Tryd.underlying23 rfl (num_size HLpb.out) ?_
 simp only [Act.put, nrm]
 refine det_call _ _ _ [.agg (pb.map bval).toArray] (.bool true) (by rfl) rfl Tryd.call12 rfl (fun w hw => (by have h := CMay_num pb w HLpb.out (HGC.out.ext (HE.out.trans hw)); rwa [mayB_true (by rw [HNpb.out]; exact may_pub _)] at h)) ?_
 simp only [Act.put, nrm]
 refine det_pick _ _ _ true (.bool true) (by rfl) rfl rfl rfl ?_
 simp only [Act.put, nrm]
 refine det_assign _ (.bool true) (by rfl) rfl rfl ?_
 simp only [Act.put, nrm]
 refine det_nil (fun wz hwz => ?_)
 have HE := Lib.hid (HE.out.trans hwz)
 go_wp2_with fail
 go_ret
 exact ⟨rfl, HE.out⟩
end Go.Proofs.YtckggbkoabmjiaaDoor
