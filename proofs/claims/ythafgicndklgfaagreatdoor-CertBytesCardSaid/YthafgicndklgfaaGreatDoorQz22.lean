/- Texts that belong together, one behind the other. -/
import Derived.Test.YthafgicndklgfaaGreatDoorQz12
import Derived.Test.YthafgicndklgfaaGreatDoorQz14
import Derived.Test.YthafgicndklgfaaGreatDoorQz16
import Derived.Test.YthafgicndklgfaaGreatDoorQz17
import Derived.Test.YthafgicndklgfaaGreatDoorQz18
namespace Go.Proofs.YthafgicndklgfaaGreatDoor
set_option linter.unusedVariables false
set_option maxRecDepth 100000
set_option maxHeartbeats 32000000
set_option linter.unusedSimpArgs false
open Go.RowKit
section
section
variable {P : Program} {w w' : World} {v : Value} {vs : List Value}
theorem own_below {base : Nat} {e : TypeId} {size n : Nat} {xs : List Value} {x : Value} (h : w.ownsRow base e size x n xs) (hb : Below w.heap.size w w') : w'.ownsRow base e size x n xs := by
 obtain ⟨h1, h2⟩ := h
 refine ⟨h1, ?_⟩
 rcases h2 with h2 | ⟨g, cap, cur, r1, r2, r3, r4⟩
 ·exact Or.inl h2
 ·refine Or.inr ⟨g, cap, cur, r1, r2, ?_, r4⟩
  have hg : g < w.heap.size := by
   rcases Nat.lt_or_ge g w.heap.size with h | h
   ·exact h
   ·rw [Array.getElem?_eq_none h] at r3; cases r3
  rw [hb.block g hg, r3]
theorem Row1.cut {b off len cap : Nat} (h : Row1 w (.slice (some ⟨b, off, none⟩) len cap) vs) (i j : Nat) (hij : i ≤ j) (hj : j ≤ vs.length) : Row1 w (.slice (some ⟨b, off + i, none⟩) (j - i) (cap - i)) ((vs.drop i).take (j - i)) := by
 obtain ⟨a, cap', e, h1, h2, h3, h4⟩ := h
 cases e
 have hl : ((vs.drop i).take (j - i)).length = j - i := by simp; omega
 refine ⟨some ⟨b, off + i, none⟩, cap - i, by rw [hl], by rw [hl]; omega, by omega, (fun e => by cases e), fun hne => ?_⟩
 have hv : vs ≠ [] := by intro e; subst e; simp at hne
 obtain ⟨b', off', e, hb, hc⟩ := h4 hv
 cases e
 refine ⟨b, off + i, rfl, hb, fun k hk => ?_⟩
 rw [hl] at hk
 rw [Nat.add_assoc, hc (i + k) (by omega), List.getElem?_take, if_pos hk, List.getElem?_drop]
end
end
theorem own_put {w : World} {base : Nat} {e : TypeId} {n : Nat} {x : Value} {xs : List Value} (h : w.ownsRow base e 1 x n xs) (k : Nat) (hk : k < n) :
  ∃ g cap, x = .slice (some ⟨g, 0, none⟩) n cap ∧ base ≤ g ∧ g < w.heap.size ∧ w.cell? ⟨g, k, none⟩ = xs[k]? ∧ w.frozen? ⟨g, k, none⟩ = false ∧ ∀ u, (w.setCell ⟨g, k, none⟩ u).ownsRow base e 1 x n (xs.set k u) := by
 obtain ⟨hl, h1 | ⟨g, cap, cur, rfl, h2, h3, h4, h5, h6, h7⟩⟩ := h
 ·omega
 ·rw [Nat.mul_one] at hl h6 h7
  have hB : Blk w g cur.toList e := by
   show w.heap[g]? = some (.cells cur.toList.toArray e (0, 0))
   rw [Array.toArray_toList]
   exact h3
  refine ⟨g, cap, rfl, h2, hB.lt, ?_, hB.free k, fun u => ⟨by rw [List.length_set, Nat.mul_one]; exact hl, Or.inr ⟨g, cap, cur.setIfInBounds k u, rfl, h2, heap_setCell_same w g k cur e u h3, h4, h5, by simp; omega, ?_⟩⟩⟩
  ·rw [hB.cell, ← h7, List.getElem?_take, if_pos hk]
  ·rw [Nat.mul_one, Array.toList_setIfInBounds, List.take_set, h7]
theorem readS_head {b : List UInt8} (h : b.take 4 ≠ [80, 67, 83, 84]) : readS b = none := if_neg (fun e => h e.2.1)
theorem xor_u8 (a b : UInt8) : bits .xor .u8 (a.toNat : Int) (b.toNat : Int) = ((a ^^^ b).toNat : Int) := by
 have e1 : (BitVec.ofInt 8 (a.toNat : Int)) = a.toBitVec := by
  apply BitVec.eq_of_toNat_eq
  have := a.toNat_lt
  rw [BitVec.toNat_ofInt]
  show _ = a.toNat
  omega
 have e2 : (BitVec.ofInt 8 (b.toNat : Int)) = b.toBitVec := by
  apply BitVec.eq_of_toNat_eq
  have := b.toNat_lt
  rw [BitVec.toNat_ofInt]
  show _ = b.toNat
  omega
 show IntKind.u8.wrap ((BitVec.ofInt 8 (a.toNat : Int) ^^^ BitVec.ofInt 8 (b.toNat : Int)).toNat : Nat) = _
 rw [e1, e2, IntKind.wrap_u8]
 have h := (a ^^^ b).toNat_lt
 have e3 : (a.toBitVec ^^^ b.toBitVec).toNat = (a ^^^ b).toNat := rfl
 rw [e3]
 omega
theorem rd_cut {l : List UInt8} (k : Nat) (hl : l.length = 76) (hk : k < 76) : rdE (l.take k) = 4 := (rd_no (readS_long (by rw [List.length_take]; omega))).1
theorem rd_more {sid : Int} {sig more : List UInt8} (h : smallB sid = true) (hs : sig.length = 64) : rdE (stopB sid sig ++ more) = if more.length = 0 then 0 else 4 := by
 by_cases hm : more.length = 0
 ·rw [if_pos hm]
  have : more = [] := List.length_eq_zero_iff.1 hm
  subst this
  rw [List.append_nil]
  exact (rd_yes (readS_back h hs)).1
 ·rw [if_neg hm]
  exact (rd_no (readS_long (by rw [List.length_append, zed sid hs]; omega))).1
theorem rd_turn {l : List UInt8} (k : Nat) (hh : l.take 4 = [80, 67, 83, 84]) (hk : k < 4) : rdE (l.set k (l.getD k 0 ^^^ 32)) = 4 := by
 refine (rd_no (readS_head ?_)).1
 have e : l = [80, 67, 83, 84] ++ l.drop 4 := by rw [← hh, List.take_append_drop]
 rw [e]
 generalize l.drop 4 = r
 match k, hk with
 | 0, _ => simp; decide
 | 1, _ => simp; decide
 | 2, _ => simp; decide
 | 3, _ => simp; decide
theorem row_firsts {w : World} {g n cap k : Nat} {vs : List Value} (h : Row1 w (.slice (some ⟨g, 0, none⟩) n cap) vs) (hk : k ≤ vs.length) : Row1 w (.slice (some ⟨g, 0, none⟩) k cap) (vs.take k) := by
 have := h.cut 0 k (Nat.zero_le _) hk
 simpa using this
theorem certBytes_any {MG : World → Prop} (SC : CrtSaid MG) (more ssig : List UInt8) (sid ct q : Int) (mv : Value) (w : World) (hm : Row1 w mv (more.map bval)) (hss : ssig.length = 64) (hi : I64 sid) (hG : MG w) (hV : GP w) :
  Calls Tryz.prog 9 #[.agg (stopC sid ssig).toArray, .int .i64 ct, mv, .int .i64 q] w fun e w' => e = .returned (.bool true) ∧ Below w.heap.size w w' := by
 obtain ⟨i0, hi0, hz0, hz1, hz2⟩ := info_parts Tryz.info5
 have HI0 := jh hi0
 have HZ0 := jh hz0
 have HZ1 := jh hz1
 have HZ2 := jh hz2
 have HG := jh hG
 have HV := jh hV
 have HSC := jh SC
 have HSL := jh hss
 obtain ⟨am, cm, hmv, _⟩ := id hm
 rw [List.length_map] at hmv
 subst hmv
 have HM := jh hm
 have H1 := jh (Blk.made w (stopC sid ssig) 39)
 have HE := jh (Ext.alloc w (.cells (stopC sid ssig).toArray 39))
 have HIS := jh (zcj (id := sid) hss)
 have HPK := jh (fun w hG => SC.pack ssig sid w hss hi hG)
 have b0 : (0 : Int) ≤ (more.length : Int) := Int.natCast_nonneg _
 clear hm hss hi hG hV SC hi0 hz0 hz1 hz2
 go_enter Tryz.func9, Tryz.ntmps9
 go_upto_region 1 with (fail)
 change Code.wp _ _ _ _ (w.alloc (.cells (stopC sid ssig).toArray 39))
 have HM := jh (HM.out.below HE.out)
 generalize w.alloc (.cells (stopC sid ssig).toArray 39) = wa at *
 obtain ⟨A, hA⟩ : ∃ A, A = w.heap.size := ⟨_, rfl⟩
 rw [← hA] at H1 ⊢
 clear hA
 go_wp2_with fail
 refine (alive_any16 HSC.out wa (HSC.out.ext HG.out HE.out) (HV.out.ext HE.out)).mono ?_
 rintro e w1 ⟨rfl, hb⟩
 have H1 := jh (zaa H1.out hb)
 have HM := jh (HM.out.below hb)
 have HE := jh (HE.out.trans hb)
 clear hb
 have hp1 := (stop_parts H1.out).1
 by_cases c1 : sid < 0
 ·have c12 : decide (sid < 0) = true := decide_eq_true (by omega)
  go_wp2_with fail
  go_ret
  exact ⟨rfl, HE.out⟩
 have c12 : decide (sid < 0) = false := decide_eq_false (by omega)
 by_cases c2 : 2147483647 < sid
 ·have c22 : decide (2147483647 < sid) = true := decide_eq_true (by omega)
  go_wp2_with fail
  go_ret
  exact ⟨rfl, HE.out⟩
 have c22 : decide (2147483647 < sid) = false := decide_eq_false (by omega)
 by_cases c3 : ct < 0
 ·have c32 : decide (ct < 0) = true := decide_eq_true (by omega)
  go_wp2_with fail
  go_ret
  exact ⟨rfl, HE.out⟩
 have c32 : decide (ct < 0) = false := decide_eq_false (by omega)
 by_cases c4 : 50 < more.length
 ·have c42 : decide (50 < (more.length : Int)) = true := decide_eq_true (by omega)
  go_wp2_with fail
  go_ret
  exact ⟨rfl, HE.out⟩
 have c42 : decide (50 < (more.length : Int)) = false := decide_eq_false (by omega)
 by_cases c5 : q < 0
 ·have c52 : decide (q < 0) = true := decide_eq_true (by omega)
  go_wp2_with fail
  go_ret
  exact ⟨rfl, HE.out⟩
 have c52 : decide (q < 0) = false := decide_eq_false (by omega)
 have hsm : smallB sid = true := smallB_of (by omega) (by omega)
 have e0 : stpE sid = 0 := by unfold stpE; rw [hsm]; rfl
 have e1 : pckL sid ssig = stopB sid ssig := by unfold pckL; rw [hsm]; rfl
 rw [e0, e1, zed sid HSL.out] at HPK
 have HRM := jh (rd_more (more := more) hsm HSL.out)
 have HBL := jh (zed sid HSL.out)
 have HH := jh (stopB_parts sid ssig).1
 generalize stopB sid ssig = l at *
 clear e0 e1 hsm
 obtain ⟨k, hk⟩ : ∃ k : Nat, k = ct.toNat % 76 := ⟨_, rfl⟩
 have hk2 : k < 76 := by rw [hk]; exact Nat.mod_lt _ (by omega)
 have k2 : Int.tmod ct 76 = (k : Int) := by
  rw [Int.tmod_eq_emod_of_nonneg (by omega)]
  omega
 obtain ⟨j, hj⟩ : ∃ j : Nat, j = q.toNat % 4 := ⟨_, rfl⟩
 have hj2 : j < 4 := by rw [hj]; exact Nat.mod_lt _ (by omega)
 have j2 : Int.tmod q 4 = (j : Int) := by
  rw [Int.tmod_eq_emod_of_nonneg (by omega)]
  omega
 clear hk hj
 go_upto_region 4 with (fail)
 go_wp2_with ((refine zcx (by rfl) _ _ rfl A rfl _ _ _ H1.out Tryz.underlying39 HIS.out ?_))
 refine (HPK.out w1 (HSC.out.ext HG.out HE.out)).mono ?_
 rintro e w2 ⟨x, rfl, ho, hb⟩
 obtain ⟨g, cap, hx, hg1, _⟩ := own_put ho j (by omega)
 subst hx
 have hr := Row1.of_own ho
 have HCP : Hid (76 ≤ cap) := jh (by
  obtain ⟨_, _, h1, h2, _⟩ := id hr
  rw [List.length_map, HBL.out] at h1 h2
  cases h1
  exact h2)
 have HGA : Hid (A < g ∧ w1.heap.size ≤ g ∧ w.heap.size ≤ g) := jh ⟨by have := H1.out.lt; omega, hg1, by have := HE.out.size; omega⟩
 have HR := jh hr
 have HO := jh ho
 have HE := jh (HE.out.trans hb)
 have HM := jh (HM.out.below hb)
 have HTU := jh (rd_turn j HH.out hj2)
 have HCU := jh (rd_cut k HBL.out hk2)
 have HRC : Hid (Row1 w2 (.slice (some ⟨g, 0, none⟩) k cap) ((l.take k).map bval)) := jh (by
  have h := row_firsts (k := k) hr (by rw [List.length_map, HBL.out]; omega)
  rw [← List.map_take] at h
  exact h)
 have HML : Hid (more.length ≤ 50) := jh (by omega)
 have kcap : k ≤ cap := by have := HCP.out; omega
 have kcap2 : (k : Int) ≤ (cap : Int) := by omega
 have k0 : (0 : Int) ≤ (k : Int) := Int.natCast_nonneg _
 have cap0 : ¬ cap = 0 := by have := HCP.out; omega
 clear hb hr ho hg1 HPK H1 hp1
 go_wp2_with fail
 refine (zbq 0 w2).mono ?_
 rintro e w3 ⟨rfl, rfl⟩
 go_wp2_with fail
 refine (HSC.out.read (l.take k) _ w2 HRC.out (by rw [List.length_take, HBL.out]; omega) (HSC.out.ext HG.out HE.out)).mono ?_
 rintro e w3 ⟨rfl, hb⟩
 have HR := jh (HR.out.below hb)
 have HM := jh (HM.out.below hb)
 have HO := jh (own_below HO.out hb)
 have HE := jh (HE.out.trans hb)
 rw [HCU.out]
 have HLC : Hid ((stopC (rdI (l.take k)) (rdG (l.take k))).length = (stopC 0 z64).length) := jh (by rw [zbt (rdG_length _), zbt zbi])
 have HIC := jh (zcj (id := rdI (l.take k)) (rdG_length (l.take k)))
 generalize rdI (l.take k) = I1 at *
 generalize rdG (l.take k) = g1 at *
 clear hb HRC HCU
 have HZ := jh (Blk.made w3 (stopC 0 z64) 39)
 have HEA := jh (Ext.alloc w3 (.cells (stopC 0 z64).toArray 39))
 go_upto_region 8 with (refine zab rfl _ _ _ rfl w3.heap.size (stopC I1 g1) rfl rfl _ _ HZ.out HLC.out HIC.out (zcd _ _) ?_; intro w4 hb2 hg2)
 have HX := jh (zad HEA.out hg2 (Nat.le_refl _))
 have HR := jh (HR.out.below HX.out)
 have HM := jh (HM.out.below HX.out)
 have HO := jh (own_below HO.out HX.out)
 have HE := jh (HE.out.trans HX.out)
 have HX1 := jh hb2
 obtain ⟨C1, hD⟩ : ∃ D, D = w3.heap.size := ⟨_, rfl⟩
 rw [← hD] at HX1 ⊢
 clear hb2 hg2 HZ HEA HX hD
 clear HX1 HLC HIC
 go_wp2_with (first | (at_builtin; refine zas rfl _ _ 46 rfl w4.heap.size 5 i0 (.int .u8 0) 1 Tryz.underlying46 HI0.out HZ0.out HZ1.out HZ2.out rfl (.slice none 0 0) 0 [] rfl (World.ownsRow_nil _ _ _ _) rfl HR.out (zaj _) (by rw [List.length_map, HBL.out]; unfold maxLen; omega) (by rw [List.length_map, HBL.out]; omega) (Nat.le_refl _) ?_; intro v5 w5 ho5 hg5) | (at_builtin; refine zas rfl _ _ 46 rfl w4.heap.size 5 i0 (.int .u8 0) 1 Tryz.underlying46 HI0.out HZ0.out HZ1.out HZ2.out rfl _ _ _ rfl ho5 rfl (HM.out.below (zfp (Ext.refl _) (World.ownsRow_nil _ _ 5 _) (Nat.le_refl _) hg5)) (zaj _) (by have := HML.out; rw [List.length_map, List.length_map, HBL.out]; unfold maxLen; omega) (by have := HML.out; rw [List.length_map, List.length_map, HBL.out]; omega) (zfp (Ext.refl _) (World.ownsRow_nil _ _ 5 _) (Nat.le_refl _) hg5).size ?_; intro v6 w6 ho6 hg6))
 have hn5 : Ext w4 w5 := zfp (Ext.refl _) (World.ownsRow_nil _ _ 5 _) (Nat.le_refl _) hg5
 have hn6 : Ext w4 w6 := zfp hn5 ho5 (Nat.le_refl _) hg6
 have HRM6 : Hid (Row1 w6 v6 ((l ++ more).map bval)) := jh (by
  have h := Row1.of_own ho6
  rw [List.nil_append, ← List.map_append] at h
  exact h)
 have HR := jh (HR.out.below hn6)
 have HO := jh (own_below HO.out hn6)
 have HE := jh (HE.out.trans hn6)
 clear hn5 hn6 ho5 ho6 hg5 hg6 HM
 refine (HSC.out.read (l ++ more) _ w6 HRM6.out (by have := HML.out; rw [List.length_append, HBL.out]; omega) (HSC.out.ext HG.out HE.out)).mono ?_
 rintro e w7 ⟨rfl, hb⟩
 have HR := jh (HR.out.below hb)
 have HO := jh (own_below HO.out hb)
 have HE := jh (HE.out.trans hb)
 have HLC : Hid ((stopC (rdI (l ++ more)) (rdG (l ++ more))).length = (stopC 0 z64).length) := jh (by rw [zbt (rdG_length _), zbt zbi])
 have HIC := jh (zcj (id := rdI (l ++ more)) (rdG_length (l ++ more)))
 generalize rdE (l ++ more) = E at *
 generalize rdI (l ++ more) = I2 at *
 generalize rdG (l ++ more) = g2 at *
 clear hb HRM6
 have HZ := jh (Blk.made w7 (stopC 0 z64) 39)
 have HEA := jh (Ext.alloc w7 (.cells (stopC 0 z64).toArray 39))
 go_upto_region 9 with (refine zab rfl _ _ _ rfl w7.heap.size (stopC I2 g2) rfl rfl _ _ HZ.out HLC.out HIC.out (zcd _ _) ?_; intro w8 hb2 hg2)
 have HX := jh (zad HEA.out hg2 (Nat.le_refl _))
 have HR := jh (HR.out.below HX.out)
 have HO := jh (own_below HO.out HX.out)
 have HE := jh (HE.out.trans HX.out)
 have HX1 := jh hb2
 obtain ⟨C2, hD⟩ : ∃ D, D = w7.heap.size := ⟨_, rfl⟩
 rw [← hD] at HX1 ⊢
 clear hb2 hg2 HZ HEA HX hD
 clear HX1 HLC HIC
 obtain ⟨gg, cc, hx, _, _, hgc, hgf, hgs⟩ := own_put HO.out j (by omega)
 cases hx
 rw [zbu (by rw [HBL.out]; omega)] at hgc
 have HGS := jh (hgs (.int .u8 (((l.getD j 0 ^^^ 32).toNat : Nat) : Int)))
 have HXR : Hid (bits .xor .u8 ((l.getD j 0).toNat : Int) 32 = (((l.getD j 0 ^^^ 32).toNat : Nat) : Int)) := jh (xor_u8 (l.getD j 0) 32)
 have HSM : Hid ((l.map bval).set j (.int .u8 (((l.getD j 0 ^^^ 32).toNat : Nat) : Int)) = (l.set j (l.getD j 0 ^^^ 32)).map bval) := jh (by rw [List.map_set]; rfl)
 have HCL : Hid ((l.set j (l.getD j 0 ^^^ 32)).length = 76) := jh (by rw [List.length_set, HBL.out])
 rw [HSM.out] at HGS
 clear hgs HSM HR HO HH
 have j0 : (0 : Int) ≤ (j : Int) := Int.natCast_nonneg _
 have j3 : (j : Int) < 76 := by omega
 have j4 : j < 76 := by omega
 generalize l.set j (l.getD j 0 ^^^ 32) = c at *
 generalize (((l.getD j 0 ^^^ 32).toNat : Nat) : Int) = z1 at *
 generalize ((l.getD j 0).toNat : Int) = z0 at *
 go_upto_region 10 with (fail)
 rw [HXR.out]
 have HE : Hid (Ext w (w8.setCell ⟨g, j, none⟩ (.int .u8 z1))) := jh (Below.setCell HE.out (by have := HGA.out; simp; omega) _)
 generalize w8.setCell ⟨g, j, none⟩ (.int .u8 z1) = w9 at *
 have HR := jh (Row1.of_own HGS.out)
 clear HGS HXR hgc hgf
 go_wp2_with fail
 refine (HSC.out.read c _ w9 HR.out (by rw [HCL.out]; omega) (HSC.out.ext HG.out HE.out)).mono ?_
 rintro e wz ⟨rfl, hb⟩
 have HE := jh (HE.out.trans hb)
 rw [HTU.out]
 have HLC : Hid ((stopC (rdI c) (rdG c)).length = (stopC 0 z64).length) := jh (by rw [zbt (rdG_length _), zbt zbi])
 have HIC := jh (zcj (id := rdI c) (rdG_length c))
 generalize rdI c = I3 at *
 generalize rdG c = g3 at *
 clear hb HR
 have HZ := jh (Blk.made wz (stopC 0 z64) 39)
 have HEA := jh (Ext.alloc wz (.cells (stopC 0 z64).toArray 39))
 go_upto_region 11 with (refine zab rfl _ _ _ rfl wz.heap.size (stopC I3 g3) rfl rfl _ _ HZ.out HLC.out HIC.out (zcd _ _) ?_; intro wy hb2 hg2)
 have HX := jh (zad HEA.out hg2 (Nat.le_refl _))
 have HE := jh (HE.out.trans HX.out)
 have HX1 := jh hb2
 obtain ⟨C3, hD⟩ : ∃ D, D = wz.heap.size := ⟨_, rfl⟩
 rw [← hD] at HX1 ⊢
 clear hb2 hg2 HZ HEA HX hD
 clear HX1 HLC HIC
 by_cases m0 : more.length = 0
 ·have hE : E = 0 := by rw [HRM.out, if_pos m0]
  subst hE
  rw [m0]
  go_wp2_with fail
  refine (zbq 4 wy).mono ?_
  rintro e w8 ⟨rfl, rfl⟩
  go_wp2_with fail
  refine (zbq 0 wy).mono ?_
  rintro e w8 ⟨rfl, rfl⟩
  go_wp2_with fail
  refine (zbq 4 wy).mono ?_
  rintro e w8 ⟨rfl, rfl⟩
  go_wp2_with fail
  go_ret
  exact ⟨rfl, HE.out⟩
 ·have hE : E = 4 := by rw [HRM.out, if_neg m0]
  subst hE
  have m1 : decide ((more.length : Int) = 0) = false := decide_eq_false (by omega)
  have m2 : ((more.length : Int) == 0) = false := beq_eq_false_iff_ne.2 (by omega)
  go_wp2_with fail
  refine (zbq 4 wy).mono ?_
  rintro e w8 ⟨rfl, rfl⟩
  go_wp2_with fail
  refine (zbq 4 wy).mono ?_
  rintro e w8 ⟨rfl, rfl⟩
  go_wp2_with fail
  refine (zbq 4 wy).mono ?_
  rintro e w8 ⟨rfl, rfl⟩
  go_wp2_with fail
  go_ret
  exact ⟨rfl, HE.out⟩
section
open Go.ChangeShapes Go.WideShapes Go.ChangeAt Go.WideMaps Go.WideElems Go.RowKit
theorem certBytes_opened {H : Type} {MG : World → Prop} (SC : CrtSaid MG) (enc : TypeId × Value → H) : LawWalkG (fun W => MG W ∧ GP W) enc Tryz.prog 9 Tryz.f9.params.toList := by
 intro W base args ds ps hval hA hlt hfz hG
 rw [Tryz.params9] at hA hval
 obtain ⟨v0, v1, v2, v3, d0, d1, d2, d3, p0, p1, p2, p3, rfl, rfl, rfl, h0, h1, h2, h3⟩ := trodAll_four hA
 obtain ⟨n0, x0, rfl, hx0, hw0⟩ := open_stop Tryz.underlying39 (by kernel_rfl) Tryz.underlying3 rfl (by kernel_rfl) Tryz.underlying26 rfl (by kernel_rfl) Tryz.underlying5 (by kernel_rfl) (hval 0 39 v0 rfl rfl) h0
 obtain ⟨x1, rfl, _, _, hw1⟩ := open_int Tryz.underlying3 (hval 1 3 v1 rfl rfl) h1
 obtain ⟨x2, hx2⟩ := open_bytes Tryz.underlying46 Tryz.underlying5 (by kernel_rfl) (hval 2 46 v2 rfl rfl) h2
 obtain ⟨x3, rfl, _, _, hw3⟩ := open_int Tryz.underlying3 (hval 3 3 v3 rfl rfl) h3
 exact certBytes_any SC x2 x0 n0 x1 x3 v2 W hx2 hx0 (I64_wf hw0) hG.1 hG.2
end
end Go.Proofs.YthafgicndklgfaaGreatDoor
