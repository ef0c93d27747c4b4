/- Texts that belong together, one behind the other. -/
import Derived.WalkKit
import Derived.ProofKit
import Derived.Deep.Slices
import Derived.Laws.Cover2
import Derived.OpenShut
import Derived.WalkSpells
import Derived.WalkLawsBesides
import Derived.Lib.Hide
import Derived.Deep.QuietTactic
import Derived.BigQuiet
import Derived.Deep.RegionHeld3
import Derived.Deep.AppendLies
import Derived.OneCell
import Derived.Laws.ResultCell
import Derived.Deep.MidRow
import Derived.Deep.Quiet
import Derived.OrdersHeld
import Derived.Deep.RegionHeld
import Derived.ChangeKeysEq
import Derived.KernelRfl
import Derived.Deep.CutRange
import Derived.Laws.Tables
import Derived.Great.BuildSlice
import Derived.Deep.RegionWith
import Derived.StillTailTactics
import Derived.ScopeJumps
import Derived.Control
import Derived.Laws.CopyOwn
import Derived.Laws.MakeOwn
import Derived.Laws.Slices
import Derived.Lib.SlBytesConst
import Derived.Lib.AppendZeros
import Derived.WalkMore
import Derived.Laws.Entries
import Derived.Lib.Mul64
import Derived.Laws.Bits64b
import Derived.Laws.Externs
import Derived.Test.YtckggbkoabmjiaaDoorQz01
import Derived.Test.YtckggbkoabmjiaaDoorQz02
import Derived.Test.YtckggbkoabmjiaaDoorQz03
import Derived.Test.YtckggbkoabmjiaaDoorQz09
import Derived.Test.YtckggbkoabmjiaaDoorQz12
import Derived.Test.YtckggbkoabmjiaaDoorQz22
import Derived.Test.YtckggbkoabmjiaaDoorQz23
namespace Go.Proofs.YtckggbkoabmjiaaDoor
set_option linter.unusedVariables false
set_option linter.unusedSimpArgs false
open Go.RowKit
section
open Go.ChangeShapes Go.WideShapes Go.ChangeAt Go.RowKit
section
variable {H : Type} {enc : TypeId × Value → H} {P : Program} {W : World}
theorem open_byte {base0 : Nat} {r : Reach} {t : TypeId} {v : Value} {d : DataW H} {ps : List MemPlace} (ht : P.underlying t = some (.int .u8))
  (hval : Value.okWide P W r base0 t v) (hd : DataW.Trod enc P W 0 (fun _ => true) true t v d ps) : ∃ n : UInt8, v = .int .u8 (n.toNat : Int) := by
 obtain ⟨z, rfl, _, _, hw⟩ := open_int ht hval hd
 obtain ⟨n, rfl⟩ := byte_of hw
 exact ⟨n, rfl⟩
end
end
section
theorem smL_length (n : UInt8) : (smL n).length = 32 := by simp [smL]
end
def orB (u : List UInt8) (t : UInt8) : List UInt8 := u.set 31 (u.getD 31 0 ||| t &&& 128)
theorem orB_length {u : List UInt8} (t : UInt8) (h : u.length = 32) : (orB u t).length = 32 := by simp [orB, h]
def canB (n : UInt8) (k : Nat) : List UInt8 := (237 + n) :: (List.replicate k 255 ++ List.replicate (31 - k) 0)
def canP (n : UInt8) : List UInt8 := (237 + n) :: (List.replicate 30 255 ++ [127])
theorem canB_length (n : UInt8) (k : Nat) (h : k ≤ 31) : (canB n k).length = 32 := by simp [canB]; omega
theorem canP_length (n : UInt8) : (canP n).length = 32 := by simp [canP]
theorem canB_set (n : UInt8) (k : Nat) (h : k < 31) : (canB n k).set (k + 1) 255 = canB n (k + 1) := by
 unfold canB
 rw [List.set_cons_succ, List.set_append_right _ _ (by simp), List.length_replicate, Nat.sub_self]
 obtain ⟨m, hm⟩ : ∃ m, 31 - k = m + 1 := ⟨31 - k - 1, by omega⟩
 rw [hm, show 31 - (k + 1) = m by omega, List.replicate_succ (n := m), List.set_cons_zero, List.replicate_succ', List.append_assoc]
 rfl
theorem canB_last (n : UInt8) : (canB n 31).set 31 127 = canP n := by
 unfold canB canP
 rfl
theorem may_one : edMay (smL 1) := ⟨pzero, by decide +kernel⟩
theorem one_high : leN (orB (smL 1) 128) = 1 + 2 ^ 255 := by decide +kernel
theorem y_one_x {P : Pt} (hy : P.y = 1) : P.x = 0 := by
 have h := P.on
 unfold On at h
 rw [hy, Fin.mul_one, Fin.mul_one] at h
 have h2 : P.x * P.x * (1 + dF) = 0 := by
  have e : P.x * P.x * (1 + dF) = (1 + dF * (P.x * P.x)) - (1 - P.x * P.x) := by clear h hy; grind
  rw [e, h]
  clear h hy e
  grind
 rcases f_dom h2 with h3 | h3
 ·rcases f_dom h3 with h4 | h4 <;> exact h4
 ·exact absurd h3 (by decide +kernel)
theorem may_one_high : ¬ edMay (orB (smL 1) 128) := by
 rintro ⟨P, h⟩
 have e : enc P = 1 + 2 ^ 255 := by rw [← leN_encB, h, one_high]
 have hy : P.y = 1 := by
  apply Fin.ext
  rw [← enc_y P, e]
  decide +kernel
 have hx := enc_x P
 rw [y_one_x hy, e] at hx
 exact absurd hx (by decide +kernel)
theorem can_above {n : UInt8} (h : n.toNat ≤ 18) : ¬ edMay (canP n) ∧ ¬ edMay (orB (canP n) 128) := by
 have hh : ∀ m : Fin 19, pN ≤ leN (canP (UInt8.ofNat m.val)) % 2 ^ 255 ∧ pN ≤ leN (orB (canP (UInt8.ofNat m.val)) 128) % 2 ^ 255 := by decide +kernel
 have := hh ⟨n.toNat, by omega⟩
 simp only [UInt8.ofNat_toNat] at this
 exact ⟨may_above this.1, may_above this.2⟩
set_option maxRecDepth 100000 in
set_option maxHeartbeats 4000000 in
theorem rmay_f (n : List UInt8) (w : World) (hn : n.length = 32) (hD : GlobD w) (hG : Glob w) : Calls Tryd.prog 18 #[.agg (n.map bval).toArray] w fun e w' => e = .returned (.bool (mayB n)) ∧ Below w.heap.size w w' := by
 have HNL := Lib.hid hn
 have HGD := Lib.hid hD
 have HGR := Lib.hid hG
 have HB := Lib.hid (boxes_one w (n.map bval) 23)
 clear hn hD hG
 go_enter Tryd.func18, Tryd.ntmps18
 go_upto_region 1 with (fail)
 obtain ⟨H1, HE⟩ := HB.out
 change Code.wp _ _ _ _ (w.alloc (.cells (n.map bval).toArray 23))
 generalize w.alloc (.cells (n.map bval).toArray 23) = wa at *
 obtain ⟨A, hA⟩ : ∃ A, A = w.heap.size := ⟨_, rfl⟩
 rw [← hA] at H1 ⊢
 have HN := Lib.hid H1
 have HE : Hid (Ext w wa) := Lib.hid HE
 clear hA HB H1
 go_wp2_with (refine wpList_load_blk rfl _ _ rfl A rfl _ _ _ _ HN.out Tryd.underlying23 (num_size HNL.out) ?_)
 refine (rread_f n wa HNL.out (HGD.out.ext HE.out) (HGR.out.ext HE.out)).mono ?_
 rintro e wb ⟨cs, rfl, hl, ho, hP, hb⟩
 have HE := Lib.hid (HE.out.trans hb)
 have HCL := Lib.hid hl
 have HCO := Lib.hid ho
 obtain ⟨mb, hmb⟩ : ∃ z, z = mayB n := ⟨_, rfl⟩
 rw [← hmb]
 have HMB := Lib.hid hmb
 clear hl ho hP hb HN hmb
 have HZ := Lib.hid (Blk.made wb (ints .i64 (List.replicate 64 0)) 56)
 have HEA := Lib.hid (Ext.alloc wb (.cells (ints .i64 (List.replicate 64 0)).toArray 56))
 have HL : Hid (cs.length = (ints .i64 (List.replicate 64 0)).length) := Lib.hid (by rw [HCL.out, ints_length]; rfl)
 have HI : Hid ((Tryd.prog.info? 56).map (·.size) = some cs.length) := Lib.hid (by rw [HCL.out]; kernel_rfl)
 go_upto_region 2 with (refine wpList_store_blk rfl _ _ _ rfl wb.heap.size cs rfl rfl _ _ HZ.out HL.out HI.out HCO.out ?_; intro wc hb2 hg2)
 have HX := Lib.hid (ext_grown HEA.out hg2 (Nat.le_refl _))
 have HE := Lib.hid (HE.out.trans HX.out)
 clear hb2 hg2 HZ HEA HX
 go_wp2_with fail
 go_ret
 exact ⟨by rw [HMB.out]; rfl, HE.out⟩
theorem crv_cells (q : UInt8) : (Value.int .u8 (q.toNat : Int) :: List.replicate 31 (.int .u8 0)) = (smL q).map bval := by
 simp [smL, bval]
theorem crv_canz (n : UInt8) : (Value.int .u8 ((237 + n).toNat : Int) :: List.replicate 31 (.int .u8 0)) = (canB n 0).map bval := by
 rw [crv_cells]
 rfl
theorem crv_canadd {n : UInt8} (h : n.toNat ≤ 18) : (237 : Int) + (n.toNat : Int) = ((237 + n).toNat : Int) := by
 rw [UInt8.toNat_add]
 have : (237 : UInt8).toNat = 237 := rfl
 omega
theorem crv_canset (n : UInt8) (j : Nat) (h : j < 31) : ((canB n j).map bval).set (1 + j) (.int .u8 255) = (canB n (j + 1)).map bval := by
 rw [Nat.add_comm 1 j, ← canB_set n j h, List.map_set]
 rfl
theorem crv_canlast (n : UInt8) : ((canB n 31).map bval).set 31 (.int .u8 127) = (canP n).map bval := by
 rw [← canB_last n, List.map_set]
 rfl
theorem or_high (u : List UInt8) : (u.map bval).set 31 (.int .u8 (bits .or .u8 ((u.getD 31 0).toNat : Int) 128)) = (orB u 128).map bval := by
 have e := u8_or (u.getD 31 0) 128
 rw [show (128 : Int) = ((128 : UInt8).toNat : Int) from rfl, e, u8_set]
 rfl
set_option maxRecDepth 100000 in
set_option maxHeartbeats 8000000 in
theorem curvePoints_any (n : UInt8) (high above : Bool) (w : World) (hR : GlobRQ w) (hT : GlobT w) (hG : GlobC w) (hD : GlobD w) (hL : Glob w) : Calls Tryd.prog 7 #[.int .u8 (n.toNat : Int), .bool high, .bool above] w fun e w' => e = .returned (.bool true) ∧ Below w.heap.size w w' := by
 have HRF : Hid (∃ n0 : Int, n0 = (n.toNat : Int)) := Lib.hid ⟨_, rfl⟩
 obtain ⟨n0, hn0⟩ := HRF.out
 have hn1 : (0 : Int) ≤ n0 := by omega
 have hn2 : n0 < 256 := by have := n.toNat_lt; omega
 rw [← hn0]
 have HN := Lib.hid hn0
 clear hn0 HRF
 have HGR := Lib.hid hR
 have HGT := Lib.hid hT
 have HGC := Lib.hid hG
 have HGD := Lib.hid hD
 have HGL := Lib.hid hL
 clear hR hT hG hD hL
 go_enter Tryd.func7, Tryd.ntmps7
 go_wp2_with fail
 refine (alive_any13 w HGR.out HGT.out HGC.out).mono ?_
 rintro e wb ⟨rfl, hb⟩
 have HE : Hid (Ext w wb) := Lib.hid hb
 clear hb
 have HC0 : Hid ((Value.int .u8 n0 :: List.replicate 31 (.int .u8 0)) = (smL n).map bval) := Lib.hid (by rw [HN.out, crv_cells])
 have HCL := Lib.hid (smL_length n)
 have HZ := Lib.hid (Blk.made wb (ints .u8 (List.replicate 32 0)) 23)
 have HEA := Lib.hid (Ext.alloc wb (.cells (ints .u8 (List.replicate 32 0)).toArray 23))
 have HLZ : Hid ((Value.int .u8 n0 :: List.replicate 31 (.int .u8 0)).length = (ints .u8 (List.replicate 32 0)).length) := Lib.hid (by rw [HC0.out, List.length_map, ints_length, HCL.out]; rfl)
 have HIZ : Hid ((Tryd.prog.info? 23).map (·.size) = some (Value.int .u8 n0 :: List.replicate 31 (.int .u8 0)).length) := Lib.hid (by rw [HC0.out]; exact num_size HCL.out)
 have HOZ : Hid (∀ v ∈ (Value.int .u8 n0 :: List.replicate 31 (.int .u8 0)), v.oneCell' = true) := Lib.hid (by rw [HC0.out]; exact bval_one _)
 go_upto_region 3 with (refine wpList_store_blk rfl _ _ _ rfl wb.heap.size (Value.int .u8 n0 :: List.replicate 31 (.int .u8 0)) rfl rfl _ _ HZ.out HLZ.out HIZ.out HOZ.out ?_; intro wc hb2 hg2)
 have HX := Lib.hid (ext_grown HEA.out hg2 (Nat.le_refl _))
 rw [HC0.out] at hb2
 have HD := Lib.hid hb2
 obtain ⟨D, hD⟩ : ∃ D, D = wb.heap.size := ⟨_, rfl⟩
 rw [← hD] at HD ⊢
 have HDW : Hid (w.heap.size ≤ D) := Lib.hid (by rw [hD]; exact HE.out.size)
 have HE := Lib.hid (HE.out.trans HX.out)
 clear hb2 hg2 HZ HEA hD HLZ HIZ HOZ HC0 HX
 cases above
 ·skip
  cases high
  ·skip
   go_wp2_with (refine wpList_load_mid rfl _ _ rfl D 0 rfl _ _ HD.out.range Tryd.underlying23 rfl (num_size HCL.out) ?_)
   refine (CMay_num (smL n) _ HCL.out (HGC.out.ext HE.out)).mono ?_
   rintro e wm ⟨rfl, hb⟩
   have HE := Lib.hid (HE.out.trans hb)
   have HD := Lib.hid (ext_blk HD.out hb)
   clear hb
   by_cases h1 : n0 = 1
   ·have HM1 : Hid (n = 1) := Lib.hid (by have h := HN.out; rw [h1] at h; exact UInt8.toNat_inj.1 (by have h2 : (1 : UInt8).toNat = 1 := rfl; omega))
    have hm : mayB (smL n) = true := by
     rw [HM1.out]
     exact mayB_true may_one
    rw [hm]
    clear hm
    go_wp2_with fail
    go_ret
    exact ⟨rfl, HE.out⟩
   ·have h1d : decide (n0 = 1) = false := decide_eq_false h1
    obtain ⟨yl, hyl⟩ : ∃ k, k = (smL n) := ⟨_, rfl⟩
    have HYL : Hid (yl.length = 32) := Lib.hid (by rw [hyl]; exact HCL.out)
    rw [← hyl] at HD ⊢
    clear hyl
    obtain ⟨mb, hmb⟩ : ∃ k, mayB yl = k := ⟨_, rfl⟩
    rw [hmb]
    have HMB := Lib.hid hmb
    clear hmb
    go_wp2_with (refine wpList_load_w (by rfl) _ _ rfl D rfl _ _ _ _ HD.out Tryd.underlying23 (num_size HYL.out) ?_)
    refine (rmay_f yl _ HYL.out (HGD.out.ext HE.out) (HGL.out.ext HE.out)).mono ?_
    rintro e wn ⟨rfl, hb⟩
    have HE := Lib.hid (HE.out.trans hb)
    clear hb
    rw [HMB.out]
    cases mb
    ·skip
     go_wp2_with fail
     go_ret
     exact ⟨rfl, HE.out⟩
    ·skip
     go_wp2_with fail
     go_ret
     exact ⟨rfl, HE.out⟩
  ·skip
   have c1 := HD.out.cell 31
   rw [bval_get (by rw [HCL.out]; omega)] at c1
   have f1 := HD.out.free 31
   have HOR := Lib.hid (or_high (smL n))
   have HOL := Lib.hid (orB_length (u := (smL n)) 128 HCL.out)
   generalize ((List.getD (smL n) 31 0).toNat : Int) = q1 at *
   go_upto_region 14 with (fail)
   have HM := Lib.hid (HD.out.set 31 (.int .u8 (bits .or .u8 q1 128)))
   rw [HOR.out] at HM
   have HE := Lib.hid (Below.setCell HE.out (p := ⟨D, 31, none⟩) (by have := HDW.out; simp; omega) (.int .u8 (bits .or .u8 q1 128)))
   generalize bits .or .u8 q1 128 = v1 at *
   generalize World.setCell _ ⟨D, 31, none⟩ (.int .u8 v1) = wo at *
   have HE : Hid (Ext w wo) := Lib.hid HE.out
   clear c1 f1 HOR HD
   have HD := HM
   clear HM
   go_wp2_with (refine wpList_load_mid rfl _ _ rfl D 0 rfl _ _ HD.out.range Tryd.underlying23 rfl (num_size HOL.out) ?_)
   refine (CMay_num (orB (smL n) 128) _ HOL.out (HGC.out.ext HE.out)).mono ?_
   rintro e wm ⟨rfl, hb⟩
   have HE := Lib.hid (HE.out.trans hb)
   have HD := Lib.hid (ext_blk HD.out hb)
   clear hb
   by_cases h1 : n0 = 1
   ·have HM1 : Hid (n = 1) := Lib.hid (by have h := HN.out; rw [h1] at h; exact UInt8.toNat_inj.1 (by have h2 : (1 : UInt8).toNat = 1 := rfl; omega))
    have hm : mayB (orB (smL n) 128) = false := by
     rw [HM1.out]
     exact mayB_false may_one_high
    rw [hm]
    clear hm
    go_wp2_with fail
    go_ret
    exact ⟨rfl, HE.out⟩
   ·have h1d : decide (n0 = 1) = false := decide_eq_false h1
    obtain ⟨yl, hyl⟩ : ∃ k, k = (orB (smL n) 128) := ⟨_, rfl⟩
    have HYL : Hid (yl.length = 32) := Lib.hid (by rw [hyl]; exact HOL.out)
    rw [← hyl] at HD ⊢
    clear hyl
    obtain ⟨mb, hmb⟩ : ∃ k, mayB yl = k := ⟨_, rfl⟩
    rw [hmb]
    have HMB := Lib.hid hmb
    clear hmb
    go_wp2_with (refine wpList_load_w (by rfl) _ _ rfl D rfl _ _ _ _ HD.out Tryd.underlying23 (num_size HYL.out) ?_)
    refine (rmay_f yl _ HYL.out (HGD.out.ext HE.out) (HGL.out.ext HE.out)).mono ?_
    rintro e wn ⟨rfl, hb⟩
    have HE := Lib.hid (HE.out.trans hb)
    clear hb
    rw [HMB.out]
    cases mb
    ·skip
     go_wp2_with fail
     go_ret
     exact ⟨rfl, HE.out⟩
    ·skip
     go_wp2_with fail
     go_ret
     exact ⟨rfl, HE.out⟩
 ·by_cases hb18 : 18 < n0
  ·skip
   go_wp2_with fail
   go_ret
   exact ⟨rfl, HE.out⟩
  ·have h18 : decide ((18 : Int) < n0) = false := decide_eq_false hb18
   have h18' : n0 ≤ 18 := by omega
   have HN18 : Hid (n.toNat ≤ 18) := Lib.hid (by have := HN.out; omega)
   have HCA := Lib.hid (can_above HN18.out)
   obtain ⟨m0, hm0⟩ : ∃ m0 : Int, m0 = ((237 + n).toNat : Int) := ⟨_, rfl⟩
   have hadd : (237 : Int) + n0 = m0 := by rw [hm0, ← crv_canadd HN18.out, HN.out]
   have hm1 : (0 : Int) ≤ m0 := by omega
   have hm2 : m0 < 256 := by omega
   have HCZ : Hid ((Value.int .u8 m0 :: List.replicate 31 (.int .u8 0)) = (canB n 0).map bval) := Lib.hid (by rw [hm0, crv_canz])
   have HCB := Lib.hid (canB_length n 0 (by omega))
   clear hb18
   have HM0 := Lib.hid hm0
   clear hm0
   have HLZ : Hid ((Value.int .u8 m0 :: List.replicate 31 (.int .u8 0)).length = ((smL n).map bval).length) := Lib.hid (by rw [HCZ.out, List.length_map, List.length_map, HCL.out, HCB.out])
   have HIZ : Hid ((Tryd.prog.info? 23).map (·.size) = some (Value.int .u8 m0 :: List.replicate 31 (.int .u8 0)).length) := Lib.hid (by rw [HCZ.out]; exact num_size HCB.out)
   have HOZ : Hid (∀ v ∈ (Value.int .u8 m0 :: List.replicate 31 (.int .u8 0)), v.oneCell' = true) := Lib.hid (by rw [HCZ.out]; exact bval_one _)
   go_upto_region 7 with (refine wpList_store_blk rfl _ _ _ rfl D (Value.int .u8 m0 :: List.replicate 31 (.int .u8 0)) rfl rfl _ _ HD.out HLZ.out HIZ.out HOZ.out ?_; intro wd hb2 hg2)
   rw [HCZ.out] at hb2
   have HD0 := Lib.hid hb2
   have HE := Lib.hid (ext_grown HE.out hg2 HDW.out)
   clear hb2 hg2 HLZ HIZ HOZ HCZ HCB HD
   go_wp2_with fail
   go_loopw [9] (fun iv wr => ∃ (j : Nat), j ≤ 31 ∧ iv = .int .i64 (1 + (j : Int)) ∧ Blk wr D ((canB n j).map bval) 23 ∧ Ext w wr) (fun iv _ => 32 - (intOf iv).toNat)
   case atStart => exact ⟨0, by omega, rfl, HD0.out, HE.out⟩
   case round =>
    clear HD0 HE
    obtain ⟨j, hj, rfl, hbm, hbel⟩ := hrel
    have j0 : (0 : Int) ≤ (j : Int) := Int.natCast_nonneg _
    have HD := Lib.hid hbm
    have HE := Lib.hid hbel
    by_cases hlj : j < 31
    ·have j1 : (1 : Int) + (j : Int) < 32 := by omega
     have j2 : (0 : Int) ≤ 1 + (j : Int) := by omega
     have jn : (1 + (j : Int)).toNat = 1 + j := by omega
     have HS1 := Lib.hid (crv_canset n j hlj)
     obtain ⟨u6, c6⟩ : ∃ u, wr.cell? ⟨D, 1 + j, none⟩ = some u := ⟨_, by rw [hbm.cell, bval_get (by rw [canB_length n j hj]; omega)]⟩
     have f6 := hbm.free (1 + j)
     clear hbm hbel
     go_wp2_with fail
     go_roundw
     case rel => exact ⟨j + 1, by omega, by go_num, by rw [← HS1.out]; exact HD.out.set _ _, Below.setCell HE.out (by have := HDW.out; simp; omega) _⟩
     case measure => simp [intOf]; omega
    ·have hj31 : j = 31 := by omega
     subst hj31
     rw [show (1 : Int) + ((31 : Nat) : Int) = 32 from rfl]
     obtain ⟨u6, c6⟩ : ∃ u, wr.cell? ⟨D, 31, none⟩ = some u := ⟨_, by rw [hbm.cell, bval_get (by rw [canB_length n 31 hj]; omega)]⟩
     have f6 := hbm.free 31
     have HS1 := Lib.hid (crv_canlast n)
     clear hbm hbel hj j0 hlj
     go_upto_region 12 with (fail)
     have HM := Lib.hid (HD.out.set 31 (.int .u8 127))
     rw [HS1.out] at HM
     have HE := Lib.hid (Below.setCell HE.out (p := ⟨D, 31, none⟩) (by have := HDW.out; simp; omega) (.int .u8 127))
     generalize wr.setCell ⟨D, 31, none⟩ (.int .u8 127) = wf at *
     have HE : Hid (Ext w wf) := Lib.hid HE.out
     clear c6 f6 HD HS1
     have HPL := Lib.hid (canP_length n)
     have HD := HM
     clear HM
     cases high
     ·skip
      go_wp2_with (refine wpList_load_mid rfl _ _ rfl D 0 rfl _ _ HD.out.range Tryd.underlying23 rfl (num_size HPL.out) ?_)
      refine (CMay_num (canP n) _ HPL.out (HGC.out.ext HE.out)).mono ?_
      rintro e wm ⟨rfl, hb⟩
      have HE := Lib.hid (HE.out.trans hb)
      have HD := Lib.hid (ext_blk HD.out hb)
      clear hb
      rw [mayB_false HCA.out.1]
      go_wp2_with fail
      go_ret
      exact ⟨rfl, HE.out⟩
     ·skip
      have c1 := HD.out.cell 31
      rw [bval_get (by rw [HPL.out]; omega)] at c1
      have f1 := HD.out.free 31
      have HOR := Lib.hid (or_high (canP n))
      have HOL := Lib.hid (orB_length (u := (canP n)) 128 HPL.out)
      generalize ((List.getD (canP n) 31 0).toNat : Int) = q1 at *
      go_upto_region 14 with (fail)
      have HM := Lib.hid (HD.out.set 31 (.int .u8 (bits .or .u8 q1 128)))
      rw [HOR.out] at HM
      have HE := Lib.hid (Below.setCell HE.out (p := ⟨D, 31, none⟩) (by have := HDW.out; simp; omega) (.int .u8 (bits .or .u8 q1 128)))
      generalize bits .or .u8 q1 128 = v1 at *
      generalize World.setCell _ ⟨D, 31, none⟩ (.int .u8 v1) = wo at *
      have HE : Hid (Ext w wo) := Lib.hid HE.out
      clear c1 f1 HOR HD
      have HD := HM
      clear HM
      go_wp2_with (refine wpList_load_mid rfl _ _ rfl D 0 rfl _ _ HD.out.range Tryd.underlying23 rfl (num_size HOL.out) ?_)
      refine (CMay_num (orB (canP n) 128) _ HOL.out (HGC.out.ext HE.out)).mono ?_
      rintro e wm ⟨rfl, hb⟩
      have HE := Lib.hid (HE.out.trans hb)
      have HD := Lib.hid (ext_blk HD.out hb)
      clear hb
      rw [mayB_false HCA.out.2]
      go_wp2_with fail
      go_ret
      exact ⟨rfl, HE.out⟩
end Go.Proofs.YtckggbkoabmjiaaDoor
