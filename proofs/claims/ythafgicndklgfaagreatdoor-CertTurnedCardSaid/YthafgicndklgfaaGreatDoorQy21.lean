/- Lemmas. -/
import Derived.Test.YthafgicndklgfaaGreatDoorQy20
namespace Go.Proofs.YthafgicndklgfaaGreatDoor
set_option linter.unusedVariables false
set_option maxRecDepth 100000
set_option maxHeartbeats 32000000
set_option linter.unusedSimpArgs false
open Go.RowKit
theorem written_as {v : Value} {l l' : List UInt8} {w : World} (h : l = l') (hc : Calls Tryz.prog 35 #[v] w fun e w' => e = .returned (.agg (l.map bval).toArray) ∧ Below w.heap.size w w') : Calls Tryz.prog 35 #[v] w fun e w' => e = .returned (.agg (l'.map bval).toArray) ∧ Below w.heap.size w w' := by
 subst h
 exact hc
theorem add_as {x y : Value} {l l' : List UInt8} {w : World} (h : l = l') (hc : Calls Tryz.prog 59 #[x, y] w fun e w' => e = .returned (.agg (l.map bval).toArray) ∧ Below w.heap.size w w') : Calls Tryz.prog 59 #[x, y] w fun e w' => e = .returned (.agg (l'.map bval).toArray) ∧ Below w.heap.size w w' := by
 subst h
 exact hc
theorem wide_two (x y : Value) (l m o : List UInt8) (w : World) (hx : Row1 w x (l.map bval)) (hy : Row1 w y (m.map bval)) (hf : l ++ m = o) (hl : o.length ≤ 1099511627776) (hK : GlobK5 w) (hO : GlobO w) :
  Calls Tryz.prog 58 #[.slice (some ⟨w.heap.size, 0, none⟩) 2 2] (w.alloc (.cells #[x, y] 46)) fun e w' => e = .returned (.agg ((wideB o).map bval).toArray) ∧ Ext w w' := by
 have he := Ext.alloc w (.cells #[x, y] 46)
 have h := rwide_v _ [l, m] o _ (rowB2 (Row1.made w #[x, y] 46 _ 2 [x, y] rfl rfl rfl (by unfold maxLen; omega)) (hx.below he) (hy.below he)) (by rw [← hf]; simp) hl (hK.ext he) (hO.ext he)
 refine h.mono fun e w' hh => ?_
 exact ⟨hh.1, he.trans hh.2⟩
theorem lay_two {r s : List UInt8} (hr : r.length = 32) (hs : s.length = 32) : splice ((r ++ List.replicate 32 (0 : UInt8)).map bval) 32 (s.map bval) = ((r ++ s).map bval) := by
 rw [splice_bytes, hs]
 congr 1
 rw [q161 (by omega), q110 (by omega), q162 (by simp [hr]), q136]
theorem lay_one {r : List UInt8} (hr : r.length = 32) : splice ((List.replicate 64 (0 : UInt8)).map bval) 0 (r.map bval) = ((r ++ List.replicate 32 (0 : UInt8)).map bval) := by
 rw [splice_bytes, hr]
 simp
theorem rsign_f (s m : List UInt8) (bv : Value) (w : World) (hs : s.length = 32) (hb : Row1 w bv (m.map bval)) (hm : m.length ≤ 1000000000000) (hK : GlobK5 w) (hO : GlobO w) (hD : GlobD w) (hX : GlobX w) (hY : GlobY w) :
  Calls Tryz.prog 31 #[.agg (s.map bval).toArray, bv] w fun e w' => e = .returned (.agg ((edSign s m).map bval).toArray) ∧ Below w.heap.size w w' := by
 obtain ⟨iq, hq0, hq1, hq2⟩ := info_two (P := Tryz.prog) (t := 46) (z := .slice none 0 0) (n := 1) (by kernel_rfl)
 have HQ0 := jh hq0
 have HQ1 := jh hq1
 have HQ2 := jh hq2
 obtain ⟨am, cm, hbv, _⟩ := id hb
 rw [q101] at hbv
 subst hbv
 have HM0 := jh hb
 have HML := jh hm
 have HSL := jh hs
 have HGK := jh hK
 have HGO := jh hO
 have HGD := jh hD
 have HGX := jh hX
 have HGY := jh hY
 have HB := jh (boxes2 w (s.map bval) (ints .u8 (List.replicate 64 0)) 23 26)
 clear hq0 hq1 hq2 hs hb hm hK hO hD hX hY
 go_enter Tryz.func31, Tryz.ntmps31
 go_upto_region 1 with (fail)
 obtain ⟨H1, H2, HE⟩ := HB.out
 change Code.wp _ _ _ _ ((w.alloc (.cells (s.map bval).toArray 23)).alloc (.cells (ints .u8 (List.replicate 64 0)).toArray 26))
 generalize (w.alloc (.cells (s.map bval).toArray 23)).alloc (.cells (ints .u8 (List.replicate 64 0)).toArray 26) = wa at *
 obtain ⟨A, hA⟩ : ∃ A, A = w.heap.size := ⟨_, rfl⟩
 have HOA : Hid (w.heap.size ≤ A) := jh (by omega)
 rw [← hA] at H1 H2 ⊢
 have HS := jh H1
 have HR := jh H2
 have HE : Hid (Ext w wa) := jh HE
 clear hA HB H1 H2
 have HAL : Hid ((secA s).length = 32) := jh (by unfold secA; exact zdb (by rw [q112, zbx]; rfl))
 have HHL : Hid ((secH s).length = 32) := jh (by unfold secH; rw [q139, zbx])
 have HNU : Hid (wideB (secH s ++ m) = edNum s m) := jh rfl
 have HRD : Hid (encB (pmul (leN (edNum s m)) bP) = edR s m) := jh rfl
 have HSD : Hid (nq ((leN (edNum s m) : Nat) + (leN (nq ((leN (wideB (edR s m ++ (edPub s ++ m))) : Nat) * (leN (secA s) : Nat))) : Nat)) = edS s m) := jh rfl
 have HSG : Hid (edR s m ++ edS s m = edSign s m) := jh rfl
 have HNL : Hid ((edNum s m).length = 32) := jh (zcd _)
 have HRL := jh (edR_length s m)
 have HPL := jh (edPub_length s)
 have HSSL := jh (edS_length s m)
 have HGL := jh (zdn s m)
 have HPA := jh (fun w h => rparts_f s w HSL.out h)
 have HPU := jh (fun w h1 h2 h3 h4 => rpublic_f s w HSL.out h1 h2 h3 h4)
 obtain ⟨kk, hkk⟩ : ∃ kk, kk = wideB (edR s m ++ (edPub s ++ m)) := ⟨_, rfl⟩
 have HKL : Hid (kk.length = 32) := jh (by rw [hkk]; exact zcd _)
 rw [← hkk] at HSD
 have HKE := jh hkk
 clear hkk
 obtain ⟨sg, hsg⟩ : ∃ sg, sg = edSign s m := ⟨_, rfl⟩
 rw [← hsg] at HSG HGL
 have HSGE := jh hsg
 clear hsg
 generalize secA s = a at *
 generalize secH s = hh at *
 generalize edNum s m = nu at *
 generalize edR s m = rd at *
 generalize edPub s = pb at *
 generalize edS s m = sd at *
 go_wp2_with (refine slb A HS.out q100 (zac HSL.out) ?_)
 refine (HPA.out _ (HGK.out.ext HE.out)).mono ?_
 rintro e wb ⟨x, rfl, hx, hb⟩
 have HS := xb HS hb
 have HR := xb HR hb
 have HE := xt HE hb
 obtain ⟨ax, cx, hxv, _⟩ := id hx
 rw [q101, HHL.out] at hxv
 subst hxv
 have HHR := jh hx
 clear hx hb HPA
 have HZ := jh (Blk.made wb (ints .u8 (List.replicate 32 0)) 23)
 have HEA := jh (Ext.alloc wb (.cells (ints .u8 (List.replicate 32 0)).toArray 23))
 have HL : Hid ((a.map bval).length = (ints .u8 (List.replicate 32 0)).length) := jh (by rw [q101, HAL.out, zaa]; rfl)
 go_upto_region 2 with (refine ssb wb.heap.size (a.map bval) HZ.out HL.out (zac HAL.out) (zaf _) ?_; intro w1 hb2 hg2)
 have HX := jh (zab HEA.out hg2 (q102 _))
 obtain ⟨Ab, hT⟩ : ∃ T, T = wb.heap.size := ⟨_, rfl⟩
 have HOAb : Hid (A + 1 < Ab) := jh (by rw [hT]; exact HR.out.lt)
 rw [← hT] at hb2 ⊢
 have HAb := jh hb2
 have HS := xb HS HX.out
 have HR := xb HR HX.out
 have HE := xt HE HX.out
 have HOA := jh (And.intro HOA.out HOAb.out)
 have HHR := jh (HHR.out.below HX.out)
 clear hb2 hg2 HZ HEA HX HL hT
 have HM1 := jh (HM0.out.below HE.out)
 go_wp2_with fail
 refine (wide_two _ _ hh m _ w1 HHR.out HM1.out rfl (by rw [q108, HHL.out]; have := HML.out; omega) (HGK.out.ext HE.out) (HGO.out.ext HE.out)).mono ?_
 rintro e w2 ⟨rfl, hb⟩
 have HS := xb HS hb
 have HR := xb HR hb
 have HAb := xb HAb hb
 have HE := xt HE hb
 clear hb HHR HM1
 rw [HNU.out]
 have HZ := jh (Blk.made w2 (ints .u8 (List.replicate 32 0)) 23)
 have HEA := jh (Ext.alloc w2 (.cells (ints .u8 (List.replicate 32 0)).toArray 23))
 have HL : Hid ((nu.map bval).length = (ints .u8 (List.replicate 32 0)).length) := jh (by rw [q101, HNL.out, zaa]; rfl)
 go_upto_region 3 with (refine ssb w2.heap.size (nu.map bval) HZ.out HL.out (zac HNL.out) (zaf _) ?_; intro w3 hb2 hg2)
 have HX := jh (zab HEA.out hg2 (q102 _))
 obtain ⟨Nb, hT⟩ : ∃ T, T = w2.heap.size := ⟨_, rfl⟩
 have HONb : Hid (Ab < Nb) := jh (by rw [hT]; exact HAb.out.lt)
 rw [← hT] at hb2 ⊢
 have HNb := jh hb2
 have HS := xb HS HX.out
 have HR := xb HR HX.out
 have HAb := xb HAb HX.out
 have HE := xt HE HX.out
 have HOA := jh (And.intro HOA.out HONb.out)
 clear hb2 hg2 HZ HEA HX HL hT
 have HIS := jh (erun_full (Pt.es_is bP) (m := 256) (n := leN nu) (by have := leN_lt nu; rw [HNL.out] at this; exact Nat.lt_of_lt_of_eq this (by decide +kernel)))
 have HRQ : Hid (encB (pmul (leN nu) bP) = rd) := HRD
 go_upto_region 3 with (fail)
 try simp only [nm]
 go_cut [8] from 22 to 25 (fun vq wq => ∃ g', vq = .pointer (some ⟨g', 0, none⟩) ∧ w3.heap.size ≤ g' ∧ Blk wq g' (rd.map bval) 23 ∧ Ext w3 wq)
 case first =>
  have B0 : Ext w3 w3.drew := Ext.drew _
  refine wp_region_held_drew (S := fun w' => Ext w3 w') (by kernel_rfl) B0 (fun hW => ?_)
  refine tke 1 (.agg ((nu).map bval).toArray) rfl (sld Nb 0 (fun w h => zah HNb.out h) q100 (zac HNL.out)) hW ?_
  simp only [nm]
  refine Fl.go (f := 4) (d := 8) (zs := zero32) (T := 23) (B := (w3).heap.size) ?_ hW
  clear hW
  refine Fl.step 0 rfl rfl rfl rfl rfl q109 (fun _ _ h1 h2 => h1.trans h2) (fun _ h => h.size) (fun z1 u K hz1 hSz hK => ?_)
  have NZ1 : Ext w3 z1 := B0.trans hz1
  clear hSz
  go_simp
  refine (rbase_f _ (HGX.out.ext (HE.out.trans NZ1)) (HGY.out.ext (HE.out.trans NZ1))).mono ?_
  rintro e m1 ⟨v1, rfl, e1, b1⟩
  obtain ⟨a1, c1, d1, g1, hz1, z1⟩ := e1
  subst hz1
  have N1 : Ext w3 m1 := NZ1.trans b1
  refine hK.out (.agg (ptC a1 c1 d1 g1).toArray) _ b1 N1 ?_
  clear hK K u
  try simp only [nm]
  refine Fl.step 2 rfl rfl rfl rfl rfl q109 (fun _ _ h1 h2 => h1.trans h2) (fun _ h => h.size) (fun z2 u K hz2 hSz hK => ?_)
  have NZ2 : Ext w3 z2 := N1.trans hz2
  clear hSz
  go_simp
  refine (rmany_f _ bP.es nu _ (⟨_, _, _, _, rfl, z1⟩ : PtV _ (bP.es)) HNL.out (HGD.out.ext (HE.out.trans NZ2))).mono ?_
  rintro e m2 ⟨v2, rfl, e2, b2⟩
  obtain ⟨a2, c2, d2, g2, hz2, z2⟩ := e2
  subst hz2
  have N2 : Ext w3 m2 := NZ2.trans b2
  refine hK.out (.agg (ptC a2 c2 d2 g2).toArray) _ b2 N2 ?_
  clear hK K u
  try simp only [nm]
  refine Fl.step 3 rfl rfl rfl rfl rfl q109 (fun _ _ h1 h2 => h1.trans h2) (fun _ h => h.size) (fun z3 u K hz3 hSz hK => ?_)
  have NZ3 : Ext w3 z3 := N2.trans hz3
  clear hSz
  go_simp
  refine (written_as HRD.out (rwritten_f _ _ (pmul (leN nu) bP) _ (⟨_, _, _, _, rfl, z2⟩ : PtV _ (erun 256 bP.es (leN nu) 256)) HIS.out)).mono ?_
  rintro e m3 ⟨rfl, b3⟩
  have N3 : Ext w3 m3 := NZ3.trans b3
  refine hK.out (.agg ((rd).map bval).toArray) _ b3 N3 ?_
  clear hK K u
  try simp only [nm]
  refine Fl.last rfl rfl rfl rfl q109 (fun _ _ h1 h2 => h1.trans h2) (fun _ h => h.size) (fun m4 g4 b4 hW l4 z4 => ?_)
  try simp only [nm]
  have N4 : Ext w3 m4 := N3.trans b4
  refine rdy 5 rfl fun K hK => ?_
  refine zbn (by rfl) ?_
  refine zak _ _ _ rfl g4 ((rd).map bval) rfl rfl _ _ z4 (by rw [q101, HRL.out]; rfl) (zac (HRL.out)) (zaf _) ?_
  intro m5 hb5 hg5
  have N5 : Ext w3 m5 := zab N4 hg5 l4
  refine hK.out _ _ N5 (fun hW => ?_)
  clear hK K
  try simp only [nm]
  refine dne ?_
  go_wp2_with fail
  go_meet
  exact ⟨_, rfl, l4, hb5, N5⟩
 case rest =>
 obtain ⟨Rb, rfl, hge, hBb, hX⟩ := hcut
 have HORb : Hid (Nb < Rb) := jh (q114 HNb.out.lt hge)
 have HRb := jh hBb
 have HS := xb HS hX
 have HR := xb HR hX
 have HAb := xb HAb hX
 have HNb := xb HNb hX
 have HE := xt HE hX
 have HOA := jh (And.intro HOA.out HORb.out)
 clear hge hBb hX
 generalize wc = w4 at *
 go_wp2_with (refine slb A HS.out q100 (zac HSL.out) ?_)
 refine (HPU.out _ (HGK.out.ext HE.out) (HGD.out.ext HE.out) (HGX.out.ext HE.out) (HGY.out.ext HE.out)).mono ?_
 rintro e w5 ⟨rfl, hb⟩
 have HR := xb HR hb
 have HAb := xb HAb hb
 have HNb := xb HNb hb
 have HRb := xb HRb hb
 have HE := xt HE hb
 clear hb HS HPU
 have HZ := jh (Blk.made w5 (ints .u8 (List.replicate 32 0)) 23)
 have HEA := jh (Ext.alloc w5 (.cells (ints .u8 (List.replicate 32 0)).toArray 23))
 have HL : Hid ((pb.map bval).length = (ints .u8 (List.replicate 32 0)).length) := jh (by rw [q101, HPL.out, zaa]; rfl)
 go_upto_region 5 with (refine ssb w5.heap.size (pb.map bval) HZ.out HL.out (zac HPL.out) (zaf _) ?_; intro w6 hb2 hg2)
 have HX := jh (zab HEA.out hg2 (q102 _))
 obtain ⟨Pb, hT⟩ : ∃ T, T = w5.heap.size := ⟨_, rfl⟩
 have HOPb : Hid (Rb < Pb) := jh (by rw [hT]; exact HRb.out.lt)
 rw [← hT] at hb2 ⊢
 have HPb := jh hb2
 have HR := xb HR HX.out
 have HAb := xb HAb HX.out
 have HNb := xb HNb HX.out
 have HRb := xb HRb HX.out
 have HE := xt HE HX.out
 have HOA := jh (And.intro HOA.out HOPb.out)
 clear hb2 hg2 HZ HEA HX HL hT
 have HM9 := jh (HM0.out.below HE.out)
 have HWD : Hid (∀ v w', Ext w6 w' → RowB w' v [rd, pb, m] → Calls Tryz.prog 58 #[v] w' fun e w'' => e = .returned (.agg (kk.map bval).toArray) ∧ Below w'.heap.size w' w'') := jh (fun v w' he hv => by rw [HKE.out]; exact rwide_v v _ _ w' hv (by simp) (by simp only [q108, HRL.out, HPL.out]; have := HML.out; omega) (HGK.out.ext (HE.out.trans he)) (HGO.out.ext (HE.out.trans he)))
 go_upto_region 5 with (fail)
 try simp only [nm]
 go_cut [10] from 28 to 32 (fun vq wq => ∃ g', vq = .pointer (some ⟨g', 0, none⟩) ∧ w6.heap.size ≤ g' ∧ Blk wq g' (kk.map bval) 23 ∧ Ext w6 wq)
 case first =>
  have B0 : Ext w6 w6.drew := Ext.drew _
  refine wp_region_held_drew (S := fun w' => Ext w6 w') (by kernel_rfl) B0 (fun hW => ?_)
  refine tke 0 (.slice (some ⟨Rb, 0, none⟩) 32 32) rfl (zdy _ _ _ _ (.pointer (some ⟨Rb, 0, none⟩)) (.slice (some ⟨Rb, 0, none⟩) 32 32) none none (by rfl) rfl rfl rfl rfl (fun w => zej q100 q115 (by omega) _ w)) hW ?_
  simp only [nm]
  refine tke 1 (.slice (some ⟨Pb, 0, none⟩) 32 32) rfl (zdy _ _ _ _ (.pointer (some ⟨Pb, 0, none⟩)) (.slice (some ⟨Pb, 0, none⟩) 32 32) none none (by rfl) rfl rfl rfl rfl (fun w => zej q100 q115 (by omega) _ w)) hW ?_
  simp only [nm]
  refine tke 2 (.slice am m.length cm) rfl (zbm _ (.slice am m.length cm) (by rfl) rfl rfl) hW ?_
  simp only [nm]
  refine Fl.go (f := 5) (d := 10) (zs := zero32) (T := 23) (B := (w6).heap.size) ?_ hW
  clear hW
  refine Fl.step 3 rfl rfl rfl rfl rfl q109 (fun _ _ h1 h2 => h1.trans h2) (fun _ h => h.size) (fun z1 u K hz1 hSz hK => ?_)
  have NZ1 : Ext w6 z1 := B0.trans hz1
  clear hSz
  refine zbn (by rfl) ?_
  refine zbk (some 31) _ _ _ _ rfl rfl #[.slice (some ⟨Rb, 0, none⟩) 32 32, .slice (some ⟨Pb, 0, none⟩) 32 32, .slice am m.length cm] iq (.slice none 0 0) q141 HQ0.out HQ1.out (by rw [HQ2.out]; decide) (by rw [HQ2.out]; decide) (by rw [HQ2.out]; kernel_rfl) ?_
  obtain ⟨m1, hm1⟩ : ∃ wNew, wNew = World.alloc z1 (.cells #[.slice (some ⟨Rb, 0, none⟩) 32 32, .slice (some ⟨Pb, 0, none⟩) 32 32, .slice am m.length cm] 46) := ⟨_, rfl⟩
  rw [← hm1]
  have b1 : Ext z1 m1 := by rw [hm1]; exact Ext.alloc _ _
  obtain ⟨g1, hg1⟩ : ∃ gNew, gNew = (z1).heap.size := ⟨_, rfl⟩
  rw [← hg1]
  have r1 : Row1 m1 (.slice (some ⟨g1, 0, none⟩) 3 3) [.slice (some ⟨Rb, 0, none⟩) 32 32, .slice (some ⟨Pb, 0, none⟩) 32 32, .slice am m.length cm] := by rw [hm1, hg1]; exact Row1.made _ _ _ _ _ _ rfl rfl rfl (by unfold maxLen; omega)
  clear hm1 hg1
  have N1 : Ext w6 m1 := NZ1.trans b1
  refine hK.out (.slice (some ⟨g1, 0, none⟩) 3 3) _ b1 N1 ?_
  clear hK K u
  try simp only [nm]
  refine Fl.step 4 rfl rfl rfl rfl rfl q109 (fun _ _ h1 h2 => h1.trans h2) (fun _ h => h.size) (fun z2 u K hz2 hSz hK => ?_)
  have r1 := r1.below hz2
  have NZ2 : Ext w6 z2 := N1.trans hz2
  clear hSz
  go_simp
  refine (HWD.out _ _ NZ2 (rowB3 r1 ((zdi (n := 32) HRb.out (by rw [q101]; exact HRL.out) (by unfold maxLen; omega)).below NZ2) ((zdi (n := 32) HPb.out (by rw [q101]; exact HPL.out) (by unfold maxLen; omega)).below NZ2) ((HM9.out).below NZ2))).mono ?_
  rintro e m2 ⟨rfl, b2⟩
  have r1 := r1.below b2
  have N2 : Ext w6 m2 := NZ2.trans b2
  refine hK.out (.agg ((kk).map bval).toArray) _ b2 N2 ?_
  clear hK K u
  try simp only [nm]
  refine Fl.last rfl rfl rfl rfl q109 (fun _ _ h1 h2 => h1.trans h2) (fun _ h => h.size) (fun m3 g3 b3 hW l3 z3 => ?_)
  try simp only [nm]
  have r1 := r1.below b3
  have N3 : Ext w6 m3 := N2.trans b3
  refine rdy 6 rfl fun K hK => ?_
  refine zbn (by rfl) ?_
  refine zak _ _ _ rfl g3 ((kk).map bval) rfl rfl _ _ z3 (by rw [q101, HKL.out]; rfl) (zac (HKL.out)) (zaf _) ?_
  intro m4 hb4 hg4
  have N4 : Ext w6 m4 := zab N3 hg4 l3
  refine hK.out _ _ N4 (fun hW => ?_)
  clear hK K
  try simp only [nm]
  refine dne ?_
  go_wp2_with fail
  go_meet
  exact ⟨_, rfl, l3, hb4, N4⟩
 case rest =>
 obtain ⟨Kb, rfl, hge, hBb, hX⟩ := hcut
 have HOKb : Hid (Pb < Kb) := jh (q114 HPb.out.lt hge)
 have HKb := jh hBb
 have HR := xb HR hX
 have HAb := xb HAb hX
 have HNb := xb HNb hX
 have HRb := xb HRb hX
 have HE := xt HE hX
 have HOA := jh (And.intro HOA.out HOKb.out)
 clear hge hBb hX
 generalize wc = w7 at *
 clear HM9 HWD
 go_upto_region 6 with (fail)
 try simp only [nm]
 go_cut [11] from 33 to 37 (fun vq wq => ∃ g', vq = .pointer (some ⟨g', 0, none⟩) ∧ w7.heap.size ≤ g' ∧ Blk wq g' (sd.map bval) 23 ∧ Ext w7 wq)
 case first =>
  have B0 : Ext w7 w7.drew := Ext.drew _
  refine wp_region_held_drew (S := fun w' => Ext w7 w') (by kernel_rfl) B0 (fun hW => ?_)
  refine tke 0 (.agg ((nu).map bval).toArray) rfl (sld Nb 0 (fun w h => zah HNb.out h) q100 (zac HNL.out)) hW ?_
  simp only [nm]
  refine tke 1 (.agg ((kk).map bval).toArray) rfl (sld Kb 0 (fun w h => zah HKb.out h) q100 (zac HKL.out)) hW ?_
  simp only [nm]
  refine tke 2 (.agg ((a).map bval).toArray) rfl (sld Ab 0 (fun w h => zah HAb.out h) q100 (zac HAL.out)) hW ?_
  simp only [nm]
  refine Fl.go (f := 5) (d := 11) (zs := zero32) (T := 23) (B := (w7).heap.size) ?_ hW
  clear hW
  refine Fl.step 3 rfl rfl rfl rfl rfl q109 (fun _ _ h1 h2 => h1.trans h2) (fun _ h => h.size) (fun z1 u K hz1 hSz hK => ?_)
  have NZ1 : Ext w7 z1 := B0.trans hz1
  clear hSz
  go_simp
  refine (rMulQ_num kk a _ HKL.out HAL.out (HGO.out.ext (HE.out.trans NZ1))).mono ?_
  rintro e m1 ⟨rfl, b1⟩
  have N1 : Ext w7 m1 := NZ1.trans b1
  refine hK.out (.agg ((nq ((leN kk : Nat) * (leN a : Nat))).map bval).toArray) _ b1 N1 ?_
  clear hK K u
  try simp only [nm]
  refine Fl.step 4 rfl rfl rfl rfl rfl q109 (fun _ _ h1 h2 => h1.trans h2) (fun _ h => h.size) (fun z2 u K hz2 hSz hK => ?_)
  have NZ2 : Ext w7 z2 := N1.trans hz2
  clear hSz
  go_simp
  refine (add_as HSD.out (rAddQ_num nu (nq ((leN kk : Nat) * (leN a : Nat))) _ HNL.out (zbu _) (HGO.out.ext (HE.out.trans NZ2)))).mono ?_
  rintro e m2 ⟨rfl, b2⟩
  have N2 : Ext w7 m2 := NZ2.trans b2
  refine hK.out (.agg ((sd).map bval).toArray) _ b2 N2 ?_
  clear hK K u
  try simp only [nm]
  refine Fl.last rfl rfl rfl rfl q109 (fun _ _ h1 h2 => h1.trans h2) (fun _ h => h.size) (fun m3 g3 b3 hW l3 z3 => ?_)
  try simp only [nm]
  have N3 : Ext w7 m3 := N2.trans b3
  refine rdy 6 rfl fun K hK => ?_
  refine zbn (by rfl) ?_
  refine zak _ _ _ rfl g3 ((sd).map bval) rfl rfl _ _ z3 (by rw [q101, HSSL.out]; rfl) (zac (HSSL.out)) (zaf _) ?_
  intro m4 hb4 hg4
  have N4 : Ext w7 m4 := zab N3 hg4 l3
  refine hK.out _ _ N4 (fun hW => ?_)
  clear hK K
  try simp only [nm]
  refine dne ?_
  go_wp2_with fail
  go_meet
  exact ⟨_, rfl, l3, hb4, N4⟩
 case rest =>
 obtain ⟨Sb, rfl, hge, hBb, hX⟩ := hcut
 have HOSb : Hid (Kb < Sb) := jh (q114 HKb.out.lt hge)
 have HSb := jh hBb
 have HR := xb HR hX
 have HRb := xb HRb hX
 have HE := xt HE hX
 have HOA := jh (And.intro HOA.out HOSb.out)
 clear hge hBb hX
 generalize wc = w8 at *
 have HXA := Ext.alloc w8 (.cells (ints .u8 (List.replicate 64 0)).toArray 26)
 obtain ⟨Gb, hT⟩ : ∃ T, T = w8.heap.size := ⟨_, rfl⟩
 have HOGb : Hid (Sb < Gb) := jh (by rw [hT]; exact HSb.out.lt)
 have HGb : Hid (Blk (w8.alloc (.cells (ints .u8 (List.replicate 64 0)).toArray 26)) Gb ((List.replicate 64 (0 : UInt8)).map bval) 26) := jh (by rw [hT]; exact Blk.made w8 (ints .u8 (List.replicate 64 0)) 26)
 have HR := xb HR HXA
 have HRb := xb HRb HXA
 have HSb := xb HSb HXA
 have HE := xt HE HXA
 have HOA := jh (And.intro HOA.out HOGb.out)
 clear HXA
 go_upto_region 8 with (fail)
 change Code.wp _ _ _ _ (w8.alloc (.cells (ints .u8 (List.replicate 64 0)).toArray 26))
 rw [← hT]
 clear hT
 generalize w8.alloc (.cells (ints .u8 (List.replicate 64 0)).toArray 26) = w9 at *
 refine swf 2 1 2 ?_
 refine zaw (.slice (some ⟨Gb, 0, none⟩) 32 64) (by rfl) (fun w hw => by go_simp) ?_
 simp only [nm]
 refine zaw (.slice (some ⟨Rb, 0, none⟩) 32 32) (by rfl) (fun w hw => by go_simp) ?_
 simp only [nm]
 refine zao (zeh (k := 2) rfl (by kernel_rfl) (by kernel_rfl) (by kernel_rfl) rfl (fun wy hwy => ?_))
 have HR := xb HR hwy
 have HRb := xb HRb hwy
 have HSb := xb HSb hwy
 have HGb := xb HGb hwy
 have HE := xt HE hwy
 clear hwy
 refine wp_copy_blk _ _ 46 46 rfl 5 q107 u8_oneV _ _ _ _ _ _ rfl rfl Gb 0 _ _ HGb.out (rd.map bval) (by rw [q101, HRL.out]; rfl) (fun _ => ⟨rfl, ⟨Rb, 0, none⟩, rfl, fun j v hj => ?_⟩) (by simp [HRL.out, HRL.out]) (zaf _) ?_
 ·rw [WideShapes.add_plain, q125, HRb.out.cell, ← hj]
 intro wx1 hbz hgz
 rw [lay_one HRL.out] at hbz
 have HR := jh (HR.out.grown hgz (by have := HOA.out; simp; omega))
 have HRb := jh (HRb.out.grown hgz (by have := HOA.out; simp; omega))
 have HSb := jh (HSb.out.grown hgz (by have := HOA.out; simp; omega))
 have HE := jh (zab HE.out hgz (by have := HOA.out; omega))
 have HGb := jh hbz
 clear hbz hgz
 generalize goInt (rd.map bval).length = gl at *
 simp only [nm]
 go_upto_region 9 with (fail)
 refine swf 2 1 2 ?_
 refine zaw (.slice (some ⟨Gb, 32, none⟩) 32 32) (by rfl) (fun w hw => by go_simp) ?_
 simp only [nm]
 refine zaw (.slice (some ⟨Sb, 0, none⟩) 32 32) (by rfl) (fun w hw => by go_simp) ?_
 simp only [nm]
 refine zao (zeh (k := 2) rfl (by kernel_rfl) (by kernel_rfl) (by kernel_rfl) rfl (fun wy hwy => ?_))
 have HR := xb HR hwy
 have HRb := xb HRb hwy
 have HSb := xb HSb hwy
 have HGb := xb HGb hwy
 have HE := xt HE hwy
 clear hwy
 refine wp_copy_blk _ _ 46 46 rfl 5 q107 u8_oneV _ _ _ _ _ _ rfl rfl Gb 32 _ _ HGb.out (sd.map bval) (by rw [q101, HSSL.out]; rfl) (fun _ => ⟨rfl, ⟨Sb, 0, none⟩, rfl, fun j v hj => ?_⟩) (by simp [HSSL.out, HRL.out]) (zaf _) ?_
 ·rw [WideShapes.add_plain, q125, HSb.out.cell, ← hj]
 intro wx2 hbz hgz
 rw [lay_two HRL.out HSSL.out, HSG.out] at hbz
 have HR := jh (HR.out.grown hgz (by have := HOA.out; simp; omega))
 have HRb := jh (HRb.out.grown hgz (by have := HOA.out; simp; omega))
 have HSb := jh (HSb.out.grown hgz (by have := HOA.out; simp; omega))
 have HE := jh (zab HE.out hgz (by have := HOA.out; omega))
 have HGb := jh hbz
 clear hbz hgz
 generalize goInt (sd.map bval).length = gl at *
 simp only [nm]
 have HL : Hid ((sg.map bval).length = (ints .u8 (List.replicate 64 0)).length) := jh (by rw [q101, HGL.out, zaa]; rfl)
 go_wp2_with (first | (refine slb Gb HGb.out q119 (zcg HGL.out) ?_) | (refine ssb (A + 1) (sg.map bval) HR.out HL.out (zcg HGL.out) (zaf _) ?_; intro wn hbn hgn))
 refine bodyPost_ret (zbc rfl _ (A + 1) _ _ _ _ rfl hbn q119 (zcg HGL.out)) rfl ⟨by rw [HSGE.out], zab HE.out hgn (by have := HOA.out; omega)⟩
