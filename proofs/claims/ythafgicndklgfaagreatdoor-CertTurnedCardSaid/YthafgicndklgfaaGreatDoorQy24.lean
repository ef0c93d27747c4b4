/- Lemmas. -/
import Derived.Test.YthafgicndklgfaaGreatDoorQy19
import Derived.Test.YthafgicndklgfaaGreatDoorQy22
namespace Go.Proofs.YthafgicndklgfaaGreatDoor
set_option linter.unusedVariables false
set_option maxRecDepth 100000
set_option maxHeartbeats 32000000
set_option linter.unusedSimpArgs false
open Go.RowKit
section
open Go.ChangeShapes Go.WideShapes Go.ChangeAt Go.RowKit
section
variable {H : Type} {enc : TypeId × Value → H} {P : Program} {W : World}
theorem open_byte {base0 : Nat} {r : Reach} {t : TypeId} {v : Value} {d : DataW H} {ps : List MemPlace} (ht : P.underlying t = some (.int .u8))
  (hval : Value.okWide P W r base0 t v) (hd : DataW.Trod enc P W 0 (fun _ => true) true t v d ps) : ∃ n : UInt8, v = .int .u8 (n.toNat : Int) := by
 obtain ⟨z, rfl, _, _, hw⟩ := open_int ht hval hd
 obtain ⟨n, rfl⟩ := byte_of hw
 exact ⟨n, rfl⟩
end
end
section
open Go.ChangeShapes Go.WideShapes Go.ChangeAt Go.RowKit
section
variable {H : Type} {enc : TypeId × Value → H} {P : Program} {w : World} {base : Nat} {spare : Nat → Bool} {held : Bool}
theorem trodAll_five {t0 t1 t2 t3 t4 : TypeId} {args : Array Value} {ds : List (DataW H)} {ps : List MemPlace} (h : DataW.TrodAll enc P w base spare held [t0, t1, t2, t3, t4] args.toList ds ps) :
  ∃ v0 v1 v2 v3 v4 d0 d1 d2 d3 d4 p0 p1 p2 p3 p4, args = #[v0, v1, v2, v3, v4] ∧ ds = [d0, d1, d2, d3, d4] ∧ ps = p0 ++ p1 ++ p2 ++ p3 ++ p4 ∧ DataW.Trod enc P w base spare held t0 v0 d0 p0 ∧ DataW.Trod enc P w base spare held t1 v1 d1 p1 ∧ DataW.Trod enc P w base spare held t2 v2 d2 p2 ∧ DataW.Trod enc P w base spare held t3 v3 d3 p3 ∧ DataW.Trod enc P w base spare held t4 v4 d4 p4 := by
 obtain ⟨v0, vs0, d0, ds0, p0, q0, hargs, rfl, rfl, h0, r0⟩ := trodAll_cons h
 obtain ⟨v1, vs1, d1, ds1, p1, q1, rfl, rfl, rfl, h1, r1⟩ := trodAll_cons r0
 obtain ⟨v2, vs2, d2, ds2, p2, q2, rfl, rfl, rfl, h2, r2⟩ := trodAll_cons r1
 obtain ⟨v3, vs3, d3, ds3, p3, q3, rfl, rfl, rfl, h3, r3⟩ := trodAll_cons r2
 obtain ⟨v4, vs4, d4, ds4, p4, q4, rfl, rfl, rfl, h4, r4⟩ := trodAll_cons r3
 obtain ⟨rfl, rfl, rfl⟩ := trodAll_nil r4
 exact ⟨v0, v1, v2, v3, v4, d0, d1, d2, d3, d4, p0, p1, p2, p3, p4, by cases args; simp_all, rfl, by simp, h0, h1, h2, h3, h4⟩
end
end
theorem stopG_length (root : List UInt8) (id : Int) : (stopG root id).length = 64 := zdn _ _
theorem stpG_length (root : List UInt8) (id : Int) : (stpG root id).length = 64 := by
 unfold stpG
 split
 ·exact stopG_length _ _
 ·exact zbv
theorem xor_u8 (a b : UInt8) : bits .xor .u8 (a.toNat : Int) (b.toNat : Int) = ((a ^^^ b).toNat : Int) := by
 have e1 : (BitVec.ofInt 8 (a.toNat : Int)) = a.toBitVec := by
  apply BitVec.eq_of_toNat_eq
  have := a.toNat_lt
  rw [BitVec.toNat_ofInt]
  show _ = a.toNat
  omega
 have e2 : (BitVec.ofInt 8 (b.toNat : Int)) = b.toBitVec := by
  apply BitVec.eq_of_toNat_eq
  have := b.toNat_lt
  rw [BitVec.toNat_ofInt]
  show _ = b.toNat
  omega
 show IntKind.u8.wrap ((BitVec.ofInt 8 (a.toNat : Int) ^^^ BitVec.ofInt 8 (b.toNat : Int)).toNat : Nat) = _
 rw [e1, e2, IntKind.wrap_u8]
 have h := (a ^^^ b).toNat_lt
 have e3 : (a.toBitVec ^^^ b.toBitVec).toNat = (a ^^^ b).toNat := rfl
 rw [e3]
 omega
theorem rStop_any (root : List UInt8) (sid : Int) (w : World) (hr : root.length = 32) (hG : GS w) :
  Calls Tryz.prog 20 #[.agg (root.map bval).toArray, .int .i64 sid] w fun e w' => e = .returned (.tuple #[.agg (stopC (stpI sid) (stpG root sid)).toArray, .int .i64 (stpE sid)]) ∧ Below w.heap.size w w' := by
 have HRL := jh hr
 have HIR := jh (zac hr)
 have HG := jh hG
 have HB := jh (boxes2 w (root.map bval) (stopC 0 z64) 23 39)
 have HZS := jh (zdp (id := 0) zbv)
 clear hr hG
 go_enter Tryz.func20, Tryz.ntmps20
 go_upto_region 1 with (fail)
 obtain ⟨H1, H3, HE⟩ := HB.out
 change Code.wp _ _ _ _ ((w.alloc (.cells (root.map bval).toArray 23)).alloc (.cells (stopC 0 z64).toArray 39))
 generalize (w.alloc (.cells (root.map bval).toArray 23)).alloc (.cells (stopC 0 z64).toArray 39) = wa at *
 have HE : Hid (Ext w wa) := jh HE
 obtain ⟨C, hC⟩ : ∃ C, C = w.heap.size + 1 := ⟨_, rfl⟩
 have HLC : Hid (w.heap.size ≤ C) := jh (by omega)
 rw [← hC] at H3 ⊢
 obtain ⟨A, hA⟩ : ∃ A, A = w.heap.size := ⟨_, rfl⟩
 have HO : Hid (A < C) := jh (by omega)
 rw [← hA] at H1 ⊢
 have H1 := jh H1
 have HC0 := jh H3
 clear hA hC HB H3
 go_wp2_with fail
 refine (rsmall_any sid wa).mono ?_
 rintro e w' ⟨rfl, rfl⟩
 cases hsm : smallB sid with
 | false =>
  have HQ : Hid (stpE sid = 1 ∧ stpI sid = 0 ∧ stpG root sid = z64) := jh (by unfold stpE stpI stpG; rw [hsm]; exact ⟨rfl, rfl, rfl⟩)
  clear hsm
  go_wp2_with (first | (refine zbf rfl _ _ rfl _ rfl _ (build_stop0 _) ?_) | (refine ssb C (stopC 0 z64) HC0.out rfl HZS.out (zfc _ _) ?_; intro w9 hb9 hg9))
  refine bodyPost_ret (zai rfl _ C _ _ _ rfl hb9 q144 rfl HZS.out) rfl ?_
  exact ⟨by rw [HQ.out.1, HQ.out.2.1, HQ.out.2.2]; rfl, zab HE.out hg9 HLC.out⟩
 | true =>
  have HQ : Hid (stpE sid = 0 ∧ stpI sid = sid ∧ stpG root sid = stopG root sid) := jh (by unfold stpE stpI stpG; rw [hsm]; exact ⟨rfl, rfl, rfl⟩)
  clear hsm
  obtain ⟨g, hg⟩ : ∃ g, g = edSign root (stopT sid) := ⟨_, rfl⟩
  have HGE : Hid (stopG root sid = g) := jh hg.symm
  have HGL : Hid (g.length = 64) := jh (by rw [hg]; exact zdn _ _)
  have HSG := jh (fun (x : Value) (wx : World) (hx : Ext wa wx) (hr : Row1 wx x ((stopT sid).map bval)) => by
   have hGw := HG.out.ext (HE.out.trans hx)
   have h := rsign_f root (stopT sid) x wx HRL.out hr (by rw [zev]; decide) hGw.1 hGw.2.1 hGw.2.2.1 hGw.2.2.2.1 hGw.2.2.2.2
   rw [← hg] at h
   exact h)
  clear hg
  go_upto_region 3 with (fail)
  have B0 : Ext wa wa.drew := Ext.drew _
  refine wp_region_held_drew (S := fun w' => Far (C) wa w') (by kernel_rfl) (zbl B0) (fun hW => ?_)
  refine tke 0 (.int .i64 sid) rfl (zbm _ (.int .i64 sid) (by rfl) rfl rfl) hW ?_
  simp only [nm]
  refine tke 1 (.agg ((root).map bval).toArray) rfl (sld A 0 (fun w h => zba H1.out (by have := HO.out; omega) h) q100 HIR.out) hW ?_
  simp only [nm]
  refine tke 2 (.int .i64 sid) rfl (zbm _ (.int .i64 sid) (by rfl) rfl rfl) hW ?_
  simp only [nm]
  refine rdy 3 rfl fun K hK => ?_
  go_simp
  refine (rstopText_any sid wa.drew).mono ?_
  rintro e m1 ⟨x1, rfl, o1, b1⟩
  have r1 : Row1 m1 x1 ((stopT sid).map bval) := Row1.of_own o1
  have N1 : Ext wa m1 := B0.trans b1
  refine hK.out _ _ (zbl N1) (fun hW => ?_)
  clear hK K
  try simp only [nm]
  refine rdy 4 rfl fun K hK => ?_
  go_simp
  refine (HSG.out _ m1 N1 r1).mono ?_
  rintro e m2 ⟨rfl, b2⟩
  have r1 := r1.below b2
  have N2 : Ext wa m2 := N1.trans b2
  refine hK.out _ _ (zbl N2) (fun hW => ?_)
  clear hK K
  try simp only [nm]
  refine tke 5 (.agg (stopC sid g).toArray) rfl (yi_build _ _ _ _ (build_stop sid HGL.out) (by rfl) rfl (by simp [Act.eval])) hW ?_
  simp only [nm]
  refine rdy 6 rfl fun K hK => ?_
  refine zbn (by rfl) ?_
  refine zak _ _ _ rfl C (stopC sid g) rfl rfl _ _ (zad HC0.out N2) (by rw [zco HGL.out, zco zbv]) (zdp HGL.out) (zfc _ _) ?_
  intro m3 hb3 hg3
  refine hK.out _ _ (zcn N2 hg3) (fun hW => ?_)
  clear hK K
  try simp only [nm]
  refine rdy 7 rfl fun K hK => ?_
  go_simp
  refine hK.out _ _ (zcn N2 hg3) (fun hW => ?_)
  clear hK K
  try simp only [nm]
  refine dne ?_
  have hfin := hb3
  have hNN := zab (HE.out.trans N2) hg3 HLC.out
  generalize m3 = w11 at hfin hNN ⊢
  go_wp2_with fail
  refine bodyPost_ret (zai rfl _ C _ _ _ rfl hfin q144 rfl (zdp HGL.out)) rfl ?_
  exact ⟨by rw [HQ.out.1, HQ.out.2.1, HQ.out.2.2, HGE.out]; rfl, hNN⟩
theorem certC_laid {id : Int} {key sig s : List UInt8} (hk : key.length = 32) (hs : sig.length = 64) (h : s.length = 64) : laid (certC id key sig) 33 (s.map bval) = certC id key s := by
 have e := laid_append (s.map bval) (.int .i64 id :: key.map bval) (sig.map bval) (by rw [q101, q101, hs, h])
 rw [q126, q101, hk] at e
 exact e
theorem certC_setG {id : Int} {key sig : List UInt8} (k : Nat) (z : UInt8) (hk : key.length = 32) : (certC id key sig).set (33 + k) (.int .u8 ((z.toNat : Nat) : Int)) = certC id key (sig.set k z) := by
 unfold certC
 rw [show 33 + k = (32 + k) + 1 by omega, List.set_cons_succ, q146 _ _ (by rw [q101, hk]; omega), q101, hk, Nat.add_sub_cancel_left, q127]
 rfl
theorem certC_setK {id : Int} {key sig : List UInt8} (k : Nat) (z : UInt8) (hk : k < key.length) : (certC id key sig).set (1 + k) (.int .u8 ((z.toNat : Nat) : Int)) = certC id (key.set k z) sig := by
 unfold certC
 rw [show 1 + k = k + 1 by omega, List.set_cons_succ, List.set_append_left _ _ (by rw [q101]; exact hk), q127]
 rfl
theorem stopC_setG {id : Int} {sig : List UInt8} (k : Nat) (z : UInt8) : (stopC id sig).set (1 + k) (.int .u8 ((z.toNat : Nat) : Int)) = stopC id (sig.set k z) := by
 unfold stopC
 rw [show 1 + k = k + 1 by omega, List.set_cons_succ, q127]
 rfl
theorem cellG {w : World} {c : Nat} {id : Int} {key sig : List UInt8} (h : Blk w c (certC id key sig) 28) (hk : key.length = 32) (hs : sig.length = 64) {k : Nat} (h2 : k < 64) : w.cell? ⟨c, 33 + k, none⟩ = some (.int .u8 ((sig.getD k 0).toNat : Int)) := by
 have hr := (cert_parts h hk).2.2
 exact hr k _ (zbg (by omega))
theorem there_cert {w : World} {c : Nat} {id : Int} {key sig : List UInt8} (h : Blk w c (certC id key sig) 28) (hk : key.length = 32) (hs : sig.length = 64) : w.there c 33 64 := fun j hj => by
 refine ⟨?_, h.free _⟩
 have := cellG h hk hs (k := j) hj
 rw [this]
 simp
theorem cellK {w : World} {c : Nat} {id : Int} {key sig : List UInt8} (h : Blk w c (certC id key sig) 28) (hk : key.length = 32) {k : Nat} (h2 : k < 32) : w.cell? ⟨c, 1 + k, none⟩ = some (.int .u8 ((key.getD k 0).toNat : Int)) := by
 have hr := (cert_parts h hk).2.1
 exact hr k _ (zbg (by omega))
theorem cellS {w : World} {c : Nat} {id : Int} {sig : List UInt8} (h : Blk w c (stopC id sig) 39) (hs : sig.length = 64) {k : Nat} (h2 : k < 64) : w.cell? ⟨c, 1 + k, none⟩ = some (.int .u8 ((sig.getD k 0).toNat : Int)) := by
 have hr := (stop_parts h).2
 exact hr k _ (zbg (by omega))
theorem certTurned_any {MG : World → Prop} (SC : CrtSaid MG) (root : List UInt8) (sid n q yv : Int) (y : UInt8) (w : World) (hr : root.length = 32) (hy : yv = ((y.toNat : Nat) : Int)) (hG : MG w) (hV : GV w) :
  Calls Tryz.prog 7 #[.agg (root.map bval).toArray, .int .i64 sid, .int .i64 n, .int .i64 q, .int .u8 yv] w fun e w' => e = .returned (.bool true) ∧ Below w.heap.size w w' := by
 have HG := jh hG
 have HV := jh hV
 have HSC := jh SC
 have HRL := jh hr
 have HYV := jh hy
 have HIR := jh (zac hr)
 have H1 := jh (Blk.made w (root.map bval) 23)
 have HE := jh (Ext.alloc w (.cells (root.map bval).toArray 23))
 have HPL : Hid ((edPub root).length = 32) := jh (edPub_length _)
 have HIP := jh (zac HPL.out)
 have HLP : Hid (((edPub root).map bval).length = (ints .u8 (List.replicate 32 0)).length) := jh (by rw [q101, zaa, HPL.out]; rfl)
 have HPR := jh (fun w hG => rpub_g root w hr hG)
 have HMY : Hid (mayB (edPub root) = true) := jh (zef (may_pub _))
 clear hr hy hG hV SC
 go_enter Tryz.func7, Tryz.ntmps7
 go_upto_region 1 with (fail)
 change Code.wp _ _ _ _ (w.alloc (.cells (root.map bval).toArray 23))
 generalize w.alloc (.cells (root.map bval).toArray 23) = wa at *
 obtain ⟨A, hA⟩ : ∃ A, A = w.heap.size := ⟨_, rfl⟩
 rw [← hA] at H1 ⊢
 clear hA
 go_wp2_with fail
 refine (alive_any16 HSC.out wa (HSC.out.ext HG.out HE.out) (HV.out.1.ext HE.out).gp).mono ?_
 rintro e w1 ⟨rfl, hb⟩
 have H1 := xb H1 hb
 have HE := xt HE hb
 clear hb
 by_cases c1 : sid < 0
 ·have c12 : decide (sid < 0) = true := decide_eq_true (by omega)
  go_wp2_with fail
  go_ret
  exact ⟨rfl, HE.out⟩
 have c12 : decide (sid < 0) = false := decide_eq_false (by omega)
 by_cases c2 : 1073741824 < sid
 ·have c22 : decide (1073741824 < sid) = true := decide_eq_true (by omega)
  go_wp2_with fail
  go_ret
  exact ⟨rfl, HE.out⟩
 have c22 : decide (1073741824 < sid) = false := decide_eq_false (by omega)
 by_cases c3 : q < 0
 ·have c32 : decide (q < 0) = true := decide_eq_true (by omega)
  go_wp2_with fail
  go_ret
  exact ⟨rfl, HE.out⟩
 have c32 : decide (q < 0) = false := decide_eq_false (by omega)
 by_cases c4 : yv = 0
 ·have c42 : decide (yv = 0) = true := decide_eq_true (by omega)
  have c5 : (yv == 0) = true := beq_iff_eq.2 c4
  go_wp2_with fail
  go_ret
  exact ⟨rfl, HE.out⟩
 have c42 : decide (yv = 0) = false := decide_eq_false (by omega)
 have c5 : (yv == 0) = false := beq_eq_false_iff_ne.2 c4
 have hsm : smallB sid = true := smallB_of (by omega) (by omega)
 have hy := sgn_yes hsm HMY.out root
 have HS1 := jh (fun w hG => rSignCert_any root (edPub root) sid w HRL.out HPL.out hG)
 rw [hy.1, hy.2.1, hy.2.2.1, hy.2.2.2] at HS1
 have e1 : stpE sid = 0 := by unfold stpE; rw [hsm]; rfl
 have e2 : stpI sid = sid := by unfold stpI; rw [hsm]; rfl
 have HS2 := jh (fun w hG => rStop_any root sid w HRL.out hG)
 rw [e1, e2] at HS2
 have HGL : Hid ((certG root sid (edPub root)).length = 64) := jh (certG_length _ _ _)
 have HTL : Hid ((stpG root sid).length = 64) := jh (stpG_length _ _)
 generalize certG root sid (edPub root) = g at *
 generalize stpG root sid = s at *
 generalize edPub root = p at *
 clear hy hsm e1 e2 HMY
 have HLC : Hid ((certC sid p g).length = (certC 0 z32 z64).length) := jh (by rw [zbz HPL.out HGL.out, zbz zde zbv])
 have HIC := jh (zdv (id := sid) HPL.out HGL.out)
 have HLS : Hid ((stopC sid s).length = (stopC 0 z64).length) := jh (by rw [zco HTL.out, zco zbv])
 have HIS := jh (zdp (id := sid) HTL.out)
 go_upto_region 4 with (fail)
 go_wp2_with ((refine zbo (by rfl) _ _ rfl A rfl _ _ _ _ H1.out q100 HIR.out ?_))
 refine (HPR.out w1 (HV.out.1.ext HE.out).gp).mono ?_
 rintro e w2 ⟨rfl, hb⟩
 have H1 := xb H1 hb
 have HE := xt HE hb
 clear hb HPR
 have HZ := jh (Blk.made w2 ((ints .u8 (List.replicate 32 0))) 23)
 have HEA := jh (Ext.alloc w2 (.cells ((ints .u8 (List.replicate 32 0))).toArray 23))
 go_upto_region 5 with (refine ssb w2.heap.size (p.map bval) HZ.out HLP.out HIP.out (zaf _) ?_; intro w3 hb2 hg2)
 have HX := jh (zab HEA.out hg2 (q102 _))
 have H1 := xb H1 HX.out
 have HE := xt HE HX.out
 have H2 := jh hb2
 obtain ⟨B, hD⟩ : ∃ D, D = w2.heap.size := ⟨_, rfl⟩
 rw [← hD] at H2 ⊢
 clear hb2 hg2 HZ HEA HX hD
 go_wp2_with (first | (refine zbo (by rfl) _ _ rfl A rfl _ _ _ _ H1.out q100 HIR.out ?_) | (refine zbo (by rfl) _ _ rfl B rfl _ _ _ _ H2.out q100 HIP.out ?_))
 refine (HS1.out w3 (HV.out.ext HE.out)).mono ?_
 rintro e w4 ⟨rfl, hb⟩
 have H1 := xb H1 hb
 have H2 := xb H2 hb
 have HE := xt HE hb
 clear hb HS1
 have HWC : Hid (w.heap.size ≤ w4.heap.size) := jh HE.out.size
 have HZ := jh (Blk.made w4 (certC 0 z32 z64) 28)
 have HEA := jh (Ext.alloc w4 (.cells (certC 0 z32 z64).toArray 28))
 go_upto_region 6 with (refine ssb w4.heap.size (certC sid p g) HZ.out HLC.out HIC.out (zek _ _ _) ?_; intro w5 hb2 hg2)
 have HX := jh (zab HEA.out hg2 (q102 _))
 have H1 := xb H1 HX.out
 have HBL9 : Hid (B < w4.heap.size) := jh H2.out.lt
 have H2 := xb H2 HX.out
 have HE := xt HE HX.out
 have H3 := jh hb2
 have HBC : Hid (B < w4.heap.size) := jh (by have := H2.out.lt; have := HX.out.size; first | omega | exact HBL9.out)
 obtain ⟨C, hD⟩ : ∃ D, D = w4.heap.size := ⟨_, rfl⟩
 rw [← hD] at H3 HBC HWC ⊢
 clear hb2 hg2 HZ HEA HX hD
 clear HBL9
 go_wp2_with ((refine zbo (by rfl) _ _ rfl A rfl _ _ _ _ H1.out q100 HIR.out ?_))
 refine (HS2.out w5 (HV.out.1.ext HE.out)).mono ?_
 rintro e w6 ⟨rfl, hb⟩
 have HCD0 : Hid (C < w6.heap.size) := jh (zad H3.out hb).lt
 have H1 := xb H1 hb
 have H2 := xb H2 hb
 have H3 := xb H3 hb
 have HE := xt HE hb
 clear hb HS2
 have HZ := jh (Blk.made w6 (stopC 0 z64) 39)
 have HEA := jh (Ext.alloc w6 (.cells (stopC 0 z64).toArray 39))
 go_upto_region 7 with (refine ssb w6.heap.size (stopC sid s) HZ.out HLS.out HIS.out (zfc _ _) ?_; intro w7 hb2 hg2)
 have HX := jh (zab HEA.out hg2 (q102 _))
 have H1 := xb H1 HX.out
 have H2 := xb H2 HX.out
 have H3 := xb H3 HX.out
 have HE := xt HE HX.out
 have H4 := jh hb2
 obtain ⟨D, hD⟩ : ∃ D, D = w6.heap.size := ⟨_, rfl⟩
 rw [← hD] at H4 HCD0 ⊢
 clear hb2 hg2 HZ HEA HX hD
 have HCD : Hid (B < C ∧ C < D ∧ w.heap.size ≤ C) := jh ⟨HBC.out, HCD0.out, HWC.out⟩
 clear H1 HLC HLS HIC HIS HBC HCD0 HWC
 go_upto_block 0 with (fail)
 go_cut [16] from 52 to 105 (fun v wc => v = .int .i64 0 ∧ ∃ (I : Int) (K G : List UInt8) (J : Int) (S : List UInt8), I64 I ∧ I64 J ∧ K.length = 32 ∧ G.length = 64 ∧ S.length = 64 ∧ Blk wc B (p.map bval) 23 ∧ Blk wc C (certC I K G) 28 ∧ Blk wc D (stopC J S) 39 ∧ Ext w wc)
 case first =>
  by_cases n0 : n = 0
  ·subst n0
   have hc := (cert_parts H3.out HPL.out).1
   have hf := H3.out.free 0
   have hc4 := (stop_parts H4.out).1
   have hf4 := H4.out.free 0
   go_upto_region 10 with (fail)
   have H3 := jh (H3.out.set (0) (.int .i64 (sid + 1)))
   have H2 := jh (H2.out.far (a := ⟨C, 0, none⟩) (by have := HCD.out; simp; omega) (.int .i64 (sid + 1)))
   have H4 := jh (H4.out.far (a := ⟨C, 0, none⟩) (by have := HCD.out; simp; omega) (.int .i64 (sid + 1)))
   have HE : Hid (Ext w (w7.setCell ⟨C, 0, none⟩ (.int .i64 (sid + 1)))) := jh (Below.setCell HE.out (p := ⟨C, 0, none⟩) (by have := HCD.out; simp; omega) (.int .i64 (sid + 1)))
   generalize w7.setCell ⟨C, 0, none⟩ (.int .i64 (sid + 1)) = w8 at *
   have hc4 := (stop_parts H4.out).1
   have hf4 := H4.out.free 0
   clear hc hf
   go_upto_region 18 with (fail)
   have H4 := jh (H4.out.set (0) (.int .i64 (sid + 1)))
   have H2 := jh (H2.out.far (a := ⟨D, 0, none⟩) (by have := HCD.out; simp; omega) (.int .i64 (sid + 1)))
   have H3 := jh (H3.out.far (a := ⟨D, 0, none⟩) (by have := HCD.out; simp; omega) (.int .i64 (sid + 1)))
   have HE : Hid (Ext w (w8.setCell ⟨D, 0, none⟩ (.int .i64 (sid + 1)))) := jh (Below.setCell HE.out (p := ⟨D, 0, none⟩) (by have := HCD.out; simp; omega) (.int .i64 (sid + 1)))
   generalize w8.setCell ⟨D, 0, none⟩ (.int .i64 (sid + 1)) = w9 at *
   clear hc4 hf4
   go_wp2_with fail
   go_meet
   exact ⟨rfl, sid + 1, p, g, sid + 1, s, by unfold I64; omega, by unfold I64; omega, HPL.out, HGL.out, HTL.out, H2.out, H3.out, H4.out, HE.out⟩
  have n0a : decide (n = 0) = false := decide_eq_false n0
  have n0b : (n == 0) = false := beq_eq_false_iff_ne.2 n0
  by_cases n1 : n = 1
  ·subst n1
   obtain ⟨k, hk⟩ : ∃ k : Nat, k = q.toNat % 64 := ⟨_, rfl⟩
   have hk2 : k < 64 := by rw [hk]; exact q140 _ (by omega)
   have k2 : Int.tmod q 64 = (k : Int) := by
    rw [Int.tmod_eq_emod_of_nonneg (by omega)]
    omega
   have k0 : (0 : Int) ≤ (k : Int) := Int.natCast_nonneg _
   have k3 : (k : Int) < 64 := by omega
   clear hk
   have hc := cellG H3.out HPL.out HGL.out hk2
   have hf := H3.out.free (33 + k)
   have HXR : Hid (bits .xor .u8 ((g.getD k 0).toNat : Int) yv = (((g.getD k 0 ^^^ y).toNat : Nat) : Int)) := jh (by rw [HYV.out]; exact xor_u8 _ _)
   generalize ((g.getD k 0).toNat : Int) = z0 at *
   go_upto_region 13 with (fail)
   rw [HXR.out]
   have H3 := jh (H3.out.set (33 + k) (.int .u8 (((g.getD k 0 ^^^ y).toNat : Nat) : Int)))
   have H2 := jh (H2.out.far (a := ⟨C, 33 + k, none⟩) (by have := HCD.out; simp; omega) (.int .u8 (((g.getD k 0 ^^^ y).toNat : Nat) : Int)))
   have H4 := jh (H4.out.far (a := ⟨C, 33 + k, none⟩) (by have := HCD.out; simp; omega) (.int .u8 (((g.getD k 0 ^^^ y).toNat : Nat) : Int)))
   have HE : Hid (Ext w (w7.setCell ⟨C, 33 + k, none⟩ (.int .u8 (((g.getD k 0 ^^^ y).toNat : Nat) : Int)))) := jh (Below.setCell HE.out (p := ⟨C, 33 + k, none⟩) (by have := HCD.out; simp; omega) (.int .u8 (((g.getD k 0 ^^^ y).toNat : Nat) : Int)))
   generalize w7.setCell ⟨C, 33 + k, none⟩ (.int .u8 (((g.getD k 0 ^^^ y).toNat : Nat) : Int)) = w8 at *
   have H3 := jh (by have h := H3.out; rw [certC_setG k _ HPL.out] at h; exact h)
   clear hc hf HXR
   have hc := cellS H4.out HTL.out hk2
   have hf := H4.out.free (1 + k)
   have HXR : Hid (bits .xor .u8 ((s.getD k 0).toNat : Int) yv = (((s.getD k 0 ^^^ y).toNat : Nat) : Int)) := jh (by rw [HYV.out]; exact xor_u8 _ _)
   generalize ((s.getD k 0).toNat : Int) = z0 at *
   go_upto_region 18 with (fail)
   rw [HXR.out]
   have H4 := jh (H4.out.set (1 + k) (.int .u8 (((s.getD k 0 ^^^ y).toNat : Nat) : Int)))
   have H2 := jh (H2.out.far (a := ⟨D, 1 + k, none⟩) (by have := HCD.out; simp; omega) (.int .u8 (((s.getD k 0 ^^^ y).toNat : Nat) : Int)))
   have H3 := jh (H3.out.far (a := ⟨D, 1 + k, none⟩) (by have := HCD.out; simp; omega) (.int .u8 (((s.getD k 0 ^^^ y).toNat : Nat) : Int)))
   have HE : Hid (Ext w (w8.setCell ⟨D, 1 + k, none⟩ (.int .u8 (((s.getD k 0 ^^^ y).toNat : Nat) : Int)))) := jh (Below.setCell HE.out (p := ⟨D, 1 + k, none⟩) (by have := HCD.out; simp; omega) (.int .u8 (((s.getD k 0 ^^^ y).toNat : Nat) : Int)))
   generalize w8.setCell ⟨D, 1 + k, none⟩ (.int .u8 (((s.getD k 0 ^^^ y).toNat : Nat) : Int)) = w9 at *
   have H4 := jh (by have h := H4.out; rw [stopC_setG k _] at h; exact h)
   clear hc hf HXR
   go_wp2_with fail
   go_meet
   exact ⟨rfl, sid, p, g.set k (g.getD k 0 ^^^ y), sid, s.set k (s.getD k 0 ^^^ y), by unfold I64; omega, by unfold I64; omega, HPL.out, by rw [q154, HGL.out], by rw [q154, HTL.out], H2.out, H3.out, H4.out, HE.out⟩
  have n1a : decide (n = 1) = false := decide_eq_false n1
  have n1b : (n == 1) = false := beq_eq_false_iff_ne.2 n1
  by_cases n2 : n = 2
  ·subst n2
   obtain ⟨k, hk⟩ : ∃ k : Nat, k = q.toNat % 32 := ⟨_, rfl⟩
   have hk2 : k < 32 := by rw [hk]; exact q140 _ (by omega)
   have k2 : Int.tmod q 32 = (k : Int) := by
    rw [Int.tmod_eq_emod_of_nonneg (by omega)]
    omega
   have k0 : (0 : Int) ≤ (k : Int) := Int.natCast_nonneg _
   have k3 : (k : Int) < 32 := by omega
   clear hk
   have hc := cellK H3.out HPL.out hk2
   have hf := H3.out.free (1 + k)
   have HXR : Hid (bits .xor .u8 ((p.getD k 0).toNat : Int) yv = (((p.getD k 0 ^^^ y).toNat : Nat) : Int)) := jh (by rw [HYV.out]; exact xor_u8 _ _)
   generalize ((p.getD k 0).toNat : Int) = z0 at *
   go_upto_region 18 with (fail)
   rw [HXR.out]
   have H3 := jh (H3.out.set (1 + k) (.int .u8 (((p.getD k 0 ^^^ y).toNat : Nat) : Int)))
   have H2 := jh (H2.out.far (a := ⟨C, 1 + k, none⟩) (by have := HCD.out; simp; omega) (.int .u8 (((p.getD k 0 ^^^ y).toNat : Nat) : Int)))
   have H4 := jh (H4.out.far (a := ⟨C, 1 + k, none⟩) (by have := HCD.out; simp; omega) (.int .u8 (((p.getD k 0 ^^^ y).toNat : Nat) : Int)))
   have HE : Hid (Ext w (w7.setCell ⟨C, 1 + k, none⟩ (.int .u8 (((p.getD k 0 ^^^ y).toNat : Nat) : Int)))) := jh (Below.setCell HE.out (p := ⟨C, 1 + k, none⟩) (by have := HCD.out; simp; omega) (.int .u8 (((p.getD k 0 ^^^ y).toNat : Nat) : Int)))
   generalize w7.setCell ⟨C, 1 + k, none⟩ (.int .u8 (((p.getD k 0 ^^^ y).toNat : Nat) : Int)) = w8 at *
   have H3 := jh (by have h := H3.out; rw [certC_setK k _ (by rw [HPL.out]; exact hk2)] at h; exact h)
   clear hc hf HXR
   go_wp2_with fail
   go_meet
   exact ⟨rfl, sid, p.set k (p.getD k 0 ^^^ y), g, sid, s, by unfold I64; omega, by unfold I64; omega, by rw [q154, HPL.out], HGL.out, HTL.out, H2.out, H3.out, H4.out, HE.out⟩
  have n2a : decide (n = 2) = false := decide_eq_false n2
  have n2b : (n == 2) = false := beq_eq_false_iff_ne.2 n2
  by_cases n3 : n = 3
  ·subst n3
   go_upto_region 18 with (first | (refine wpList_load_mid rfl _ _ rfl D 1 rfl _ _ (stop_parts H4.out).2 q119 rfl (zcg HTL.out) ?_) | (refine wpList_store_mid rfl _ _ _ rfl C 33 (s.map bval).toArray rfl rfl (by rw [List.size_toArray, q101, HTL.out]; exact there_cert H3.out HPL.out HGL.out) (by rw [List.size_toArray]; exact zcg HTL.out) (all_oneCell_toArray (zaf _)) ?_))
   have hset := Blk.setCells (s.map bval) _ 33 _ H3.out
   rw [certC_laid HPL.out HGL.out HTL.out] at hset
   have hgr : w7.grownBy (w7.setCells C 33 (s.map bval)) (some C) := zcv (s.map bval) 33 w7 w7 (zce w7 _)
   have H3 := jh hset
   have H2 := jh (H2.out.grown hgr (fun e => by cases e; exact absurd HCD.out.1 (Nat.lt_irrefl _)))
   have H4 := jh (H4.out.grown hgr (fun e => by cases e; exact absurd HCD.out.2.1 (Nat.lt_irrefl _)))
   have HE := jh (zab HE.out hgr HCD.out.2.2)
   try rw [List.toList_toArray]
   generalize w7.setCells C 33 (s.map bval) = w8 at *
   clear hset hgr
   go_wp2_with fail
   go_meet
   exact ⟨rfl, sid, p, s, sid, s, by unfold I64; omega, by unfold I64; omega, HPL.out, HTL.out, HTL.out, H2.out, H3.out, H4.out, HE.out⟩
  have n3a : decide (n = 3) = false := decide_eq_false n3
  have n3b : (n == 3) = false := beq_eq_false_iff_ne.2 n3
  go_wp2_with fail
  go_meet
  exact ⟨rfl, sid, p, g, sid, s, by unfold I64; omega, by unfold I64; omega, HPL.out, HGL.out, HTL.out, H2.out, H3.out, H4.out, HE.out⟩
 case rest =>
  obtain ⟨rfl, I, K, G, J, S, hi, hj, hk, hg, hs, h2, h3, h4, he⟩ := hcut
  have HZI : Hid (I64 I ∧ I64 J) := jh ⟨hi, hj⟩
  have HZK := jh hk
  have HZG := jh hg
  have HZS := jh hs
  have H2 := jh h2
  have H3 := jh h3
  have H4 := jh h4
  have HE := jh he
  clear hi hj hk hg hs h2 h3 h4 he
  have HC1 := jh (fun (wx : World) (hx : Ext wc wx) => HSC.out.check p K G I wx HPL.out HZK.out HZG.out HZI.out.1 (HSC.out.ext HG.out (HE.out.trans hx)))
  have HC2 := jh (fun (wx : World) (hx : Ext wc wx) => rCheckCert_any p K G I wx HPL.out HZK.out HZG.out (HV.out.ext (HE.out.trans hx)))
  have HS1 := jh (fun (wx : World) (hx : Ext wc wx) => HSC.out.checkStop p S J wx HPL.out HZS.out HZI.out.2 (HSC.out.ext HG.out (HE.out.trans hx)))
  have HS2 := jh (fun (wx : World) (hx : Ext wc wx) => rCheckStop_any p S J wx HPL.out HZS.out (HV.out.ext (HE.out.trans hx)))
  have HIC := jh (zdv (id := I) HZK.out HZG.out)
  have HIS := jh (zdp (id := J) HZS.out)
  generalize certV p I K G = u at *
  generalize stopV p J S = v at *
  generalize certC I K G = cc at *
  generalize stopC J S = ss at *
  go_upto_region 18 with (fail)
  have B0 : Ext wc wc.drew := Ext.drew _
  refine wp_region_held_drew (S := fun w' => Ext wc w') (by kernel_rfl) B0 (fun hW => ?_)
  refine tke 0 (.agg ((p).map bval).toArray) rfl (sld B 0 (fun w h => zah H2.out h) q100 HIP.out) hW ?_
  simp only [nm]
  refine tke 1 (.agg (cc).toArray) rfl (sld C 0 (fun w h => zah H3.out h) q131 HIC.out) hW ?_
  simp only [nm]
  refine tke 3 (.agg ((p).map bval).toArray) rfl (sld B 0 (fun w h => zah H2.out h) q100 HIP.out) hW ?_
  simp only [nm]
  refine tke 4 (.agg (cc).toArray) rfl (sld C 0 (fun w h => zah H3.out h) q131 HIC.out) hW ?_
  simp only [nm]
  refine rdy 2 rfl fun K hK => ?_
  go_simp
  refine (HC1.out wc.drew B0).mono ?_
  rintro e m1 ⟨rfl, b1⟩
  have N1 : Ext wc m1 := B0.trans b1
  refine hK.out _ _ N1 (fun hW => ?_)
  clear hK K
  try simp only [nm]
  refine rdy 5 rfl fun K hK => ?_
  go_simp
  refine (HC2.out m1 N1).mono ?_
  rintro e m2 ⟨rfl, b2⟩
  have N2 : Ext wc m2 := N1.trans b2
  refine hK.out _ _ N2 (fun hW => ?_)
  clear hK K
  try simp only [nm]
  refine tke 6 (.bool true) rfl (yi_eqb _ _ _ _ u u true (by simp) q176 (by rfl) rfl rfl rfl) hW ?_
  simp only [nm]
  refine tke 7 (.bool true) rfl (zbm _ (.bool true) (by rfl) rfl rfl) hW ?_
  simp only [nm]
  refine tke 8 (.agg ((p).map bval).toArray) rfl (sld B 0 (fun w h => zah H2.out h) q100 HIP.out) hW ?_
  simp only [nm]
  refine tke 9 (.agg (ss).toArray) rfl (sld D 0 (fun w h => zah H4.out h) q144 HIS.out) hW ?_
  simp only [nm]
  refine tke 11 (.agg ((p).map bval).toArray) rfl (sld B 0 (fun w h => zah H2.out h) q100 HIP.out) hW ?_
  simp only [nm]
  refine tke 12 (.agg (ss).toArray) rfl (sld D 0 (fun w h => zah H4.out h) q144 HIS.out) hW ?_
  simp only [nm]
  refine rdy 10 rfl fun K hK => ?_
  go_simp
  refine (HS1.out m2 N2).mono ?_
  rintro e m3 ⟨rfl, b3⟩
  have N3 : Ext wc m3 := N2.trans b3
  refine hK.out _ _ N3 (fun hW => ?_)
  clear hK K
  try simp only [nm]
  refine rdy 13 rfl fun K hK => ?_
  go_simp
  refine (HS2.out m3 N3).mono ?_
  rintro e m4 ⟨rfl, b4⟩
  have N4 : Ext wc m4 := N3.trans b4
  refine hK.out _ _ N4 (fun hW => ?_)
  clear hK K
  try simp only [nm]
  refine tke 14 (.bool true) rfl (yi_eqb _ _ _ _ v v true (by simp) q176 (by rfl) rfl rfl rfl) hW ?_
  simp only [nm]
  refine tke 15 (.bool true) rfl (zct _ _ _ true _ (by rfl) rfl rfl rfl) hW ?_
  simp only [nm]
  refine rdy 16 rfl fun K hK => ?_
  go_simp
  refine hK.out _ _ N4 (fun hW => ?_)
  clear hK K
  try simp only [nm]
  refine dne ?_
  have HN := xt HE N4
  go_wp2_with fail
  go_ret
  exact ⟨rfl, HN.out⟩
section
open Go.ChangeShapes Go.WideShapes Go.ChangeAt Go.WideMaps Go.WideElems Go.RowKit
theorem certTurned_opened {H : Type} {MG : World → Prop} (SC : CrtSaid MG) (enc : TypeId × Value → H) : LawWalkG (fun W => MG W ∧ GV W) enc Tryz.prog 7 Tryz.f7.params.toList := by
 intro W base args ds ps hval hA hlt hfz hG
 rw [Tryz.params7] at hA hval
 obtain ⟨v0, v1, v2, v3, v4, d0, d1, d2, d3, d4, p0, p1, p2, p3, p4, rfl, rfl, rfl, h0, h1, h2, h3, h4⟩ := trodAll_five hA
 obtain ⟨x0, rfl, hx0⟩ := open_num q100 q111 (by kernel_rfl) (by kernel_rfl) (hval 0 23 v0 rfl rfl) h0
 obtain ⟨x1, rfl, _, _, hw1⟩ := open_int q147 (hval 1 3 v1 rfl rfl) h1
 obtain ⟨x2, rfl, _, _, hw2⟩ := open_int q147 (hval 2 3 v2 rfl rfl) h2
 obtain ⟨x3, rfl, _, _, hw3⟩ := open_int q147 (hval 3 3 v3 rfl rfl) h3
 obtain ⟨x4, rfl⟩ := open_byte q111 (hval 4 5 v4 rfl rfl) h4
 exact certTurned_any SC x0 x1 x2 x3 _ x4 W hx0 rfl hG.1 hG.2
end
