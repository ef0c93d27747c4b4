/- Texts that belong together, one behind the other. -/
import Derived.Test.YtimmnieopifcbaaGreatDoorQz07
namespace Go.Proofs.YtimmnieopifcbaaGreatDoor
set_option linter.unusedVariables false
set_option maxRecDepth 100000
set_option maxHeartbeats 32000000
set_option linter.unusedSimpArgs false
open Go.RowKit
def aErr (o : Option (List UInt8)) : Int := if o.isSome then 0 else 10
theorem PSum_valA (kb : List UInt8) (v : Value) (ls : List (List UInt8)) (m : List UInt8) (w : World) (hk : kb.length = 32) (hv : RowB w v ls) (hf : ls.flatten = m) (hm : m.length ≤ 1099511627776) :
  Calls Tryz.prog 42 #[.agg (kb.map bval).toArray, v] w fun e w' => e = .returned (.agg ((polyTag kb m).map bval).toArray) ∧ Below w.heap.size w w' := by
 subst hf
 exact PSum_num kb v ls w hk hv hm
theorem same_true (av bv : Value) (a b : List UInt8) (w : World) (ha : Row1 w av (a.map bval)) (hb : Row1 w bv (b.map bval)) (h : a = b) :
  Calls Tryz.prog 35 #[av, bv] w fun e w' => e = .returned (.bool true) ∧ Below w.heap.size w w' := by
 have hh := MacSame_num av bv a b w ha hb
 rw [decide_eq_true h] at hh
 exact hh
theorem same_false (av bv : Value) (a b : List UInt8) (w : World) (ha : Row1 w av (a.map bval)) (hb : Row1 w bv (b.map bval)) (h : ¬ a = b) :
  Calls Tryz.prog 35 #[av, bv] w fun e w' => e = .returned (.bool false) ∧ Below w.heap.size w w' := by
 have hh := MacSame_num av bv a b w ha hb
 rw [decide_eq_false h] at hh
 exact hh
theorem range_take {w : World} {c : Nat} {cs : List Value} {t : TypeId} (h : Blk w c cs t) (n : Nat) : w.rangeAt c 0 (cs.take n) := fun j v hj => by
 rw [List.getElem?_take] at hj
 split at hj
 ·rw [Nat.zero_add, h.cell]
  exact hj
 ·cases hj
theorem run_array_at {P : Program} {arr e : TypeId} {n : Nat} (hu : P.underlying arr = some (.array n e)) (a : Option Addr) (len cap : Nat) (h : n ≤ len) (w : World) :
  (Instr.arrayAt arr (.slice a len cap)).run P w = .ok (.pointer a) w := by
 unfold Instr.arrayAt
 simp [run_underlying hu, show ¬ len < n by omega]
theorem Concat_two (x y : Value) (l m : List UInt8) (w : World) (hx : Row1 w x (l.map bval)) (hy : Row1 w y (m.map bval)) (hl : (l ++ m).length ≤ 1099511627776) :
  Calls Tryz.prog 16 #[.slice (some ⟨w.heap.size, 0, none⟩) 2 2] (w.alloc (.cells #[x, y] 25)) fun e w' => ∃ z, e = .returned z ∧ w'.ownsRow w.heap.size 5 1 z (l ++ m).length ((l ++ m).map bval) ∧ Ext w w' := by
 have he := Ext.alloc w (.cells #[x, y] 25)
 have h := stdConcat_any _ [l, m] _ (rowB2 (Row1.made w #[x, y] 25 _ 2 [x, y] rfl rfl rfl (by unfold maxLen; omega)) (hx.below he) (hy.below he)) (by simpa using hl)
 refine h.mono fun e w' hh => ?_
 obtain ⟨z, h1, h2, h3⟩ := hh
 rw [show [l, m].flatten = l ++ m from by simp] at h2
 exact ⟨z, h1, own_mono h2 he.size, he.trans h3⟩
theorem atagOf_any (kb nb c s : List UInt8) (cv sv : Value) (w : World) (hk : kb.length = 32) (hn : nb.length = 12) (hc : Row1 w cv (c.map bval)) (hs : Row1 w sv (s.map bval)) (hcl : c.length ≤ 1000000000) (hsl : s.length ≤ 1000000000) :
  Calls Tryz.prog 26 #[.agg (kb.map bval).toArray, .agg (nb.map bval).toArray, cv, sv] w fun e w' => e = .returned (.agg ((aeaTag kb nb c s).map bval).toArray) ∧ Below w.heap.size w w' := by
 obtain ⟨iq, hq0, hq1, hq2⟩ := info_two (P := Tryz.prog) (t := 25) (z := .slice none 0 0) (n := 1) (by kernel_rfl)
 have HQ0 := jh hq0
 have HQ1 := jh hq1
 have HQ2 := jh hq2
 have HC0 := jh hc
 have HS0 := jh hs
 obtain ⟨ac, capc, hcv, c1, c2, _⟩ := id hc
 obtain ⟨ad, caps, hsv, s1, s2, _⟩ := id hs
 rw [List.length_map] at hcv c1 hsv s1
 subst hcv hsv
 unfold maxLen at c2 s2
 have HCL := jh hcl
 have HSL := jh hsl
 have HB := jh (boxes3 w (kb.map bval) (nb.map bval) (ints .u8 (List.replicate 16 0)) 23 44 53)
 have HIK : Hid ((Tryz.prog.info? 23).map (·.size) = some (kb.map bval).length) := jh (zaf hk)
 have HIN : Hid ((Tryz.prog.info? 44).map (·.size) = some (nb.map bval).length) := jh (zdj hn)
 have HKL := jh hk
 have HNL := jh hn
 clear hq0 hq1 hq2 hc hs hk hn
 go_enter Tryz.func26, Tryz.ntmps26
 go_upto_region 1 with (fail)
 obtain ⟨H1, H2, H3, HE⟩ := HB.out
 change Code.wp _ _ _ _ (((w.alloc (.cells (kb.map bval).toArray 23)).alloc (.cells (nb.map bval).toArray 44)).alloc (.cells (ints .u8 (List.replicate 16 0)).toArray 53))
 generalize ((w.alloc (.cells (kb.map bval).toArray 23)).alloc (.cells (nb.map bval).toArray 44)).alloc (.cells (ints .u8 (List.replicate 16 0)).toArray 53) = wa at *
 obtain ⟨A, hA⟩ : ∃ A, A = w.heap.size := ⟨_, rfl⟩
 have HLA : Hid (w.heap.size ≤ A + 1 + 1) := jh (by omega)
 rw [← hA] at H1 H2 H3 ⊢
 have H1 := jh H1
 have H2 := jh H2
 have H3 := jh H3
 have HE : Hid (Ext w wa) := jh HE
 clear hA HB
 go_wp2_with (first | (refine zab rfl _ _ rfl A rfl _ _ _ _ H1.out Tryz.underlying23 HIK.out ?_) | (refine zab rfl _ _ rfl (A + 1) rfl _ _ _ _ H2.out Tryz.underlying44 HIN.out ?_))
 refine (CBlock_num kb nb 0 wa HKL.out HNL.out (by decide) (by decide)).mono ?_
 rintro e w1 ⟨rfl, hb⟩
 have H3 := jh (zaa H3.out hb)
 have HE := jh (HE.out.trans hb)
 clear hb H1 H2
 have HOK : Hid (oneKey kb nb = (chaBlock kb (BitVec.ofInt 32 0) nb).take 32) := jh rfl
 have HBL := jh (zda kb (BitVec.ofInt 32 0) nb)
 generalize chaBlock kb (BitVec.ofInt 32 0) nb = k at *
 have HZ := jh (Blk.made w1 (ints .u8 (List.replicate 64 0)) 68)
 have HEA := jh (Ext.alloc w1 (.cells (ints .u8 (List.replicate 64 0)).toArray 68))
 have HIS : Hid ((Tryz.prog.info? 68).map (·.size) = some (k.map bval).length) := jh (sig_size HBL.out)
 have HLo : Hid ((k.map bval).length = (ints .u8 (List.replicate 64 0)).length) := jh (by rw [List.length_map, HBL.out, zad, List.length_replicate])
 go_upto_region 2 with (refine zac rfl _ _ _ rfl w1.heap.size (k.map bval) rfl rfl _ _ HZ.out HLo.out HIS.out (zag _) ?_; intro w2 hb2 hg2)
 have HE4 := jh (zae HEA.out hg2 (Nat.le_refl _))
 have H3 := jh (zaa H3.out HE4.out)
 have HE := jh (HE.out.trans HE4.out)
 obtain ⟨S, hS⟩ : ∃ S, S = w1.heap.size := ⟨_, rfl⟩
 rw [← hS] at hb2 ⊢
 have H4 := jh (range_take hb2 32)
 clear hb2 hg2 HZ HEA HE4 HLo hS
 rw [← List.map_take, ← HOK.out] at H4
 have HOL : Hid ((oneKey kb nb).length = 32) := jh (oneKey_length kb nb)
 have HIO : Hid ((Tryz.prog.info? 23).map (·.size) = some ((oneKey kb nb).map bval).length) := jh (zaf HOL.out)
 have HTG : Hid (aeaTag kb nb c s = polyTag (oneKey kb nb) (aeaMsg c s)) := jh rfl
 clear HOK
 generalize oneKey kb nb = ok at *
 have HZ := jh (Blk.made w2 zero32 23)
 have HEA := jh (Ext.alloc w2 (.cells zero32.toArray 23))
 have HLo : Hid ((ok.map bval).length = zero32.length) := jh (by rw [List.length_map, HOL.out]; rfl)
 have hat := run_array_at (P := Tryz.prog) Tryz.underlying23 (some ⟨S, 0, none⟩) 32 64 (Nat.le_refl _) w2
 have H3L := jh H3.out.lt
 go_upto_region 3 with (first | (refine wpList_load_mid rfl _ _ rfl S 0 rfl _ _ H4.out Tryz.underlying23 rfl HIO.out ?_) | (refine zac rfl _ _ _ rfl w2.heap.size (ok.map bval) rfl rfl _ _ HZ.out HLo.out HIO.out (zag _) ?_; intro w3 hb3 hg3))
 have HE4 := jh (zae HEA.out hg3 (Nat.le_refl _))
 have H3 := jh (zaa H3.out HE4.out)
 have HE := jh (HE.out.trans HE4.out)
 obtain ⟨O, hO⟩ : ∃ O, O = w2.heap.size := ⟨_, rfl⟩
 have hOS : A + 1 + 1 < O := by rw [hO]; exact H3L.out
 rw [← hO] at hb3 ⊢
 have H5 := jh hb3
 clear hb3 hg3 HZ HEA HE4 HLo hO H4 hat
 have HO : Hid (A + 1 + 1 < O) := jh (by have := hOS; omega)
 clear hOS
 have HS3 := jh (HS0.out.below HE.out)
 have HC3 := jh (HC0.out.below HE.out)
 obtain ⟨m, hm⟩ : ∃ m, m = aeaMsg c s := ⟨_, rfl⟩
 have HFL : Hid ([s, z16 s.length, c, z16 c.length, bytesN 8 s.length, bytesN 8 c.length].flatten = m) := jh (by rw [hm]; unfold aeaMsg; simp [List.append_assoc])
 have HML : Hid (m.length ≤ 1099511627776) := jh (by rw [hm]; have := aeaMsg_length c s; have := HCL.out; have := HSL.out; omega)
 rw [← hm] at HTG
 clear hm
 have B0 : Ext w3 w3.drew := Ext.drew _
 refine wp_region_held_drew (S := fun w' => Far (A + 1 + 1) w3 w') (by kernel_rfl) (zbn B0) (fun hHeld => ?_)
 refine tke 0 (.agg ((ok).map bval).toArray) rfl (yieldsIf_load_mid (by rfl) _ _ rfl O 0 rfl _ _ (fun w h => zca H5.out (by have := HO.out; omega) h) Tryz.underlying23 rfl HIO.out) hHeld ?_
 simp only [Act.put, nrm]
 refine tke 1 (.slice ad s.length caps) rfl (zbv _ (.slice ad s.length caps) (by rfl) rfl rfl) hHeld ?_
 simp only [Act.put, nrm]
 refine tke 2 (.slice ad s.length caps) rfl (zbv _ (.slice ad s.length caps) (by rfl) rfl rfl) hHeld ?_
 simp only [Act.put, nrm]
 refine tke 4 (.slice ac c.length capc) rfl (zbv _ (.slice ac c.length capc) (by rfl) rfl rfl) hHeld ?_
 simp only [Act.put, nrm]
 refine tke 5 (.slice ac c.length capc) rfl (zbv _ (.slice ac c.length capc) (by rfl) rfl rfl) hHeld ?_
 simp only [Act.put, nrm]
 refine tke 7 (.slice ad s.length caps) rfl (zbv _ (.slice ad s.length caps) (by rfl) rfl rfl) hHeld ?_
 simp only [Act.put, nrm]
 refine tke 9 (.slice ac c.length capc) rfl (zbv _ (.slice ac c.length capc) (by rfl) rfl rfl) hHeld ?_
 simp only [Act.put, nrm]
 refine rdy 3 rfl fun K hK => ?_
 go_simp
 refine (afilling_any _ s w3.drew ((HS3.out).below B0)).mono ?_
 rintro e m1 ⟨x1, rfl, o1, b1⟩
 have r1 : Row1 m1 x1 ((z16 s.length).map bval) := Row1.of_own o1
 obtain ⟨a1, c1, hx1, _⟩ := id r1
 rw [show ((z16 s.length).map bval).length = (z16 s.length).length from by rw [List.length_map]] at hx1
 subst hx1
 have N1 : Ext w3 m1 := B0.trans b1
 refine hK.out _ _ (zbn N1) (fun hHeld => ?_)
 clear hK K
 try simp only [Act.put, nrm]
 refine rdy 6 rfl fun K hK => ?_
 go_simp
 refine (afilling_any _ c m1 ((HC3.out).below N1)).mono ?_
 rintro e m2 ⟨x2, rfl, o2, b2⟩
 have r1 := r1.below b2
 have r2 : Row1 m2 x2 ((z16 c.length).map bval) := Row1.of_own o2
 obtain ⟨a2, c2, hx2, _⟩ := id r2
 rw [show ((z16 c.length).map bval).length = (z16 c.length).length from by rw [List.length_map]] at hx2
 subst hx2
 have N2 : Ext w3 m2 := N1.trans b2
 refine hK.out _ _ (zbn N2) (fun hHeld => ?_)
 clear hK K
 try simp only [Act.put, nrm]
 refine rdy 8 rfl fun K hK => ?_
 go_simp
 refine (alength_any _ s m2 ((HS3.out).below N2)).mono ?_
 rintro e m3 ⟨x3, rfl, o3, b3⟩
 have r1 := r1.below b3
 have r2 := r2.below b3
 have r3 : Row1 m3 x3 ((bytesN 8 s.length).map bval) := Row1.of_own o3
 obtain ⟨a3, c3, hx3, _⟩ := id r3
 rw [show ((bytesN 8 s.length).map bval).length = 8 from by rw [List.length_map, zaz]] at hx3
 subst hx3
 have N3 : Ext w3 m3 := N2.trans b3
 refine hK.out _ _ (zbn N3) (fun hHeld => ?_)
 clear hK K
 try simp only [Act.put, nrm]
 refine rdy 10 rfl fun K hK => ?_
 go_simp
 refine (alength_any _ c m3 ((HC3.out).below N3)).mono ?_
 rintro e m4 ⟨x4, rfl, o4, b4⟩
 have r1 := r1.below b4
 have r2 := r2.below b4
 have r3 := r3.below b4
 have r4 : Row1 m4 x4 ((bytesN 8 c.length).map bval) := Row1.of_own o4
 obtain ⟨a4, c4, hx4, _⟩ := id r4
 rw [show ((bytesN 8 c.length).map bval).length = 8 from by rw [List.length_map, zaz]] at hx4
 subst hx4
 have N4 : Ext w3 m4 := N3.trans b4
 refine hK.out _ _ (zbn N4) (fun hHeld => ?_)
 clear hK K
 try simp only [Act.put, nrm]
 refine rdy 11 rfl fun K hK => ?_
 refine zaw (by rfl) ?_
 refine zcw (some 28) _ _ _ _ rfl rfl #[.slice ad s.length caps, .slice a1 ((z16 s.length).length) c1, .slice ac c.length capc, .slice a2 ((z16 c.length).length) c2, .slice a3 (8) c3, .slice a4 (8) c4] iq (.slice none 0 0) Tryz.underlying57 HQ0.out HQ1.out (by rw [HQ2.out]; decide) (by rw [HQ2.out]; decide) (by rw [HQ2.out]; kernel_rfl) ?_
 obtain ⟨m5, hm5⟩ : ∃ wNew, wNew = World.alloc m4 (.cells #[.slice ad s.length caps, .slice a1 ((z16 s.length).length) c1, .slice ac c.length capc, .slice a2 ((z16 c.length).length) c2, .slice a3 (8) c3, .slice a4 (8) c4] 25) := ⟨_, rfl⟩
 rw [← hm5]
 have b5 : Ext m4 m5 := by rw [hm5]; exact Ext.alloc _ _
 obtain ⟨g5, hg5⟩ : ∃ gNew, gNew = (m4).heap.size := ⟨_, rfl⟩
 rw [← hg5]
 have r1 := r1.below b5
 have r2 := r2.below b5
 have r3 := r3.below b5
 have r4 := r4.below b5
 have r5 : Row1 m5 (.slice (some ⟨g5, 0, none⟩) 6 6) [.slice ad s.length caps, .slice a1 ((z16 s.length).length) c1, .slice ac c.length capc, .slice a2 ((z16 c.length).length) c2, .slice a3 (8) c3, .slice a4 (8) c4] := by rw [hm5, hg5]; exact Row1.made _ _ _ _ _ _ rfl rfl rfl (by unfold maxLen; omega)
 clear hm5 hg5
 have N5 : Ext w3 m5 := N4.trans b5
 refine hK.out _ _ (zbn N5) (fun hHeld => ?_)
 clear hK K
 try simp only [Act.put, nrm]
 refine rdy 12 rfl fun K hK => ?_
 go_simp
 refine (PSum_valA ok (.slice (some ⟨g5, 0, none⟩) 6 6) _ m _ HOL.out (rowB6 r5 ((HS3.out).below N5) r1 ((HC3.out).below N5) r2 r3 r4) HFL.out HML.out).mono ?_
 rintro e m6 ⟨rfl, b6⟩
 have r1 := r1.below b6
 have r2 := r2.below b6
 have r3 := r3.below b6
 have r4 := r4.below b6
 have r5 := r5.below b6
 have N6 : Ext w3 m6 := N5.trans b6
 refine hK.out _ _ (zbn N6) (fun hHeld => ?_)
 clear hK K
 try simp only [Act.put, nrm]
 refine rdy 13 rfl fun K hK => ?_
 refine zaw (by rfl) ?_
 refine zau _ _ _ rfl (A + 1 + 1) ((polyTag ok m).map bval) rfl rfl _ _ (zaa H3.out N6) (by rw [List.length_map, zcf, zad]; rfl) (tag_size (zcf _ _)) (zag _) ?_
 intro m7 hb7 hg7
 refine hK.out _ _ (fars_put N6 hg7) (fun hHeld => ?_)
 clear hK K
 try simp only [Act.put, nrm]
 refine dne ?_
 have hfin := hb7
 have hNN := zae (HE.out.trans N6) hg7 HLA.out
 generalize m7 = w11 at hfin hNN ⊢
 have HIo : Hid ((Tryz.prog.info? 53).map (·.size) = some ((polyTag ok m).map bval).length) := jh (tag_size (zcf _ _))
 go_wp2_with fail
 refine bodyPost_ret (zap rfl _ (A + 1 + 1) _ _ _ _ rfl hfin Tryz.underlying53 HIo.out) rfl ?_
 exact ⟨by rw [HTG.out], hNN⟩
theorem ASeal_num (kb nb p s : List UInt8) (pv sv : Value) (w : World) (hk : kb.length = 32) (hn : nb.length = 12) (hp : Row1 w pv (p.map bval)) (hs : Row1 w sv (s.map bval)) (hpl : p.length ≤ 1000000000) (hsl : s.length ≤ 1000000000) :
  Calls Tryz.prog 14 #[.agg (kb.map bval).toArray, .agg (nb.map bval).toArray, pv, sv] w fun e w' => ∃ x, e = .returned x ∧ w'.ownsRow w.heap.size 5 1 x (p.length + 16) ((sealB kb nb p s).map bval) ∧ Below w.heap.size w w' := by
 have HP0 := jh hp
 have HS0 := jh hs
 have HPL := jh hpl
 have HSL := jh hsl
 have HB := jh (boxes2 w (kb.map bval) (nb.map bval) 23 44)
 have HIK : Hid ((Tryz.prog.info? 23).map (·.size) = some (kb.map bval).length) := jh (zaf hk)
 have HIN : Hid ((Tryz.prog.info? 44).map (·.size) = some (nb.map bval).length) := jh (zdj hn)
 have HKL := jh hk
 have HNL := jh hn
 clear hp hs hk hn hpl hsl
 go_enter Tryz.func14, Tryz.ntmps14
 go_upto_region 1 with (fail)
 obtain ⟨H1, H2, HE⟩ := HB.out
 change Code.wp _ _ _ _ ((w.alloc (.cells (kb.map bval).toArray 23)).alloc (.cells (nb.map bval).toArray 44))
 generalize (w.alloc (.cells (kb.map bval).toArray 23)).alloc (.cells (nb.map bval).toArray 44) = wa at *
 obtain ⟨A, hA⟩ : ∃ A, A = w.heap.size := ⟨_, rfl⟩
 rw [← hA] at H1 H2 ⊢
 have H1 := jh H1
 have H2 := jh H2
 have HE : Hid (Ext w wa) := jh HE
 have HA := jh hA
 clear hA HB
 go_wp2_with (first | (refine zab rfl _ _ rfl A rfl _ _ _ _ H1.out Tryz.underlying23 HIK.out ?_) | (refine zab rfl _ _ rfl (A + 1) rfl _ _ _ _ H2.out Tryz.underlying44 HIN.out ?_))
 refine (aturned_any kb nb p _ wa HKL.out HNL.out (HP0.out.below HE.out) (by have := HPL.out; omega)).mono ?_
 rintro e w1 ⟨x1, rfl, ho1, hb1⟩
 have HO1 : Hid (w1.ownsRow w.heap.size 5 1 x1 p.length ((chaTurn kb 1 nb p).map bval)) := jh (own_mono ho1 HE.out.size)
 have H1 := jh (zaa H1.out hb1)
 have H2 := jh (zaa H2.out hb1)
 have HE := jh (HE.out.trans hb1)
 clear ho1 hb1
 have HCL := jh (zbd kb 1 nb p)
 have HSB : Hid (sealB kb nb p s = chaTurn kb 1 nb p ++ aeaTag kb nb (chaTurn kb 1 nb p) s) := jh rfl
 generalize chaTurn kb 1 nb p = c at *
 go_wp2_with (first | (refine zab rfl _ _ rfl A rfl _ _ _ _ H1.out Tryz.underlying23 HIK.out ?_) | (refine zab rfl _ _ rfl (A + 1) rfl _ _ _ _ H2.out Tryz.underlying44 HIN.out ?_))
 refine (atagOf_any kb nb c s _ _ w1 HKL.out HNL.out (Row1.of_own HO1.out) (HS0.out.below HE.out) (by rw [HCL.out]; exact HPL.out) HSL.out).mono ?_
 rintro e w2 ⟨rfl, hb⟩
 have HE := jh (HE.out.trans hb)
 have HO2 := jh (zbz HO1.out hb)
 clear hb HO1 H1 H2
 have HTL := jh (zeo kb nb c s)
 generalize aeaTag kb nb c s = tg at *
 have HZ := jh (Blk.made w2 (ints .u8 (List.replicate 16 0)) 53)
 have HEA := jh (Ext.alloc w2 (.cells (ints .u8 (List.replicate 16 0)).toArray 53))
 have HIT : Hid ((Tryz.prog.info? 53).map (·.size) = some (tg.map bval).length) := jh (tag_size HTL.out)
 have HLo : Hid ((tg.map bval).length = (ints .u8 (List.replicate 16 0)).length) := jh (by rw [List.length_map, HTL.out, zad, List.length_replicate])
 go_upto_region 3 with (refine zac rfl _ _ _ rfl w2.heap.size (tg.map bval) rfl rfl _ _ HZ.out HLo.out HIT.out (zag _) ?_; intro w3 hb3 hg3)
 have HE4 := jh (zae HEA.out hg3 (Nat.le_refl _))
 have HO3 := jh (zbz HO2.out HE4.out)
 have HE := jh (HE.out.trans HE4.out)
 obtain ⟨T, hT⟩ : ∃ T, T = w2.heap.size := ⟨_, rfl⟩
 rw [← hT] at hb3 ⊢
 have HTR := jh (zbo (n := 16) hb3 (by rw [List.length_map, HTL.out]) (by unfold maxLen; omega))
 clear hb3 hg3 HZ HEA HE4 HLo hT HO2
 have HR1 := jh (Row1.of_own HO3.out)
 obtain ⟨a1, c1, hx1, _⟩ := id HR1.out
 rw [List.length_map, HCL.out] at hx1
 subst hx1
 have HF : Hid ((c ++ tg).length = p.length + 16) := jh (by rw [List.length_append, HTL.out, HCL.out])
 clear HO3
 go_wp2_with fail
 refine (Concat_two _ _ c tg w3 HR1.out HTR.out (by rw [HF.out]; have := HPL.out; omega)).mono ?_
 rintro e w4 ⟨z, rfl, ho, hb⟩
 have HO4 := jh (own_mono ho HE.out.size)
 have HE4 := jh (HE.out.trans hb)
 clear ho hb
 go_wp2_with fail
 go_ret
 exact ⟨_, rfl, own_eq HO4.out HF.out (by rw [HSB.out]), HE4.out⟩
theorem AOpen_num (kb nb b s : List UInt8) (bv sv : Value) (w : World) (hk : kb.length = 32) (hn : nb.length = 12) (hb : Row1 w bv (b.map bval)) (hs : Row1 w sv (s.map bval)) (hbl : b.length ≤ 1000000000) (hsl : s.length ≤ 1000000000) :
  Calls Tryz.prog 21 #[.agg (kb.map bval).toArray, .agg (nb.map bval).toArray, bv, sv] w fun e w' => ∃ x, e = .returned (.tuple #[x, .int .i64 (aErr (openB kb nb b s))]) ∧ Row1 w' x (((openB kb nb b s).getD []).map bval) ∧ Below w.heap.size w w' := by
 have HB0 := jh hb
 have HS0 := jh hs
 have HBL := jh hbl
 have HSL := jh hsl
 obtain ⟨ab, capb, hbv, r1, r2, _⟩ := id hb
 rw [List.length_map] at hbv r1
 subst hbv
 obtain ⟨ad, caps, hsv, _⟩ := id hs
 subst hsv
 unfold maxLen at r2
 have HB := jh (boxes2 w (kb.map bval) (nb.map bval) 23 44)
 have HIK : Hid ((Tryz.prog.info? 23).map (·.size) = some (kb.map bval).length) := jh (zaf hk)
 have HIN : Hid ((Tryz.prog.info? 44).map (·.size) = some (nb.map bval).length) := jh (zdj hn)
 have HKL := jh hk
 have HNL := jh hn
 have hb0 : (0 : Int) ≤ (b.length : Int) := Int.natCast_nonneg _
 clear hb hs hk hn hsl
 go_enter Tryz.func21, Tryz.ntmps21
 go_upto_region 1 with (fail)
 obtain ⟨H1, H2, HE⟩ := HB.out
 change Code.wp _ _ _ _ ((w.alloc (.cells (kb.map bval).toArray 23)).alloc (.cells (nb.map bval).toArray 44))
 generalize (w.alloc (.cells (kb.map bval).toArray 23)).alloc (.cells (nb.map bval).toArray 44) = wa at *
 obtain ⟨A, hA⟩ : ∃ A, A = w.heap.size := ⟨_, rfl⟩
 rw [← hA] at H1 H2 ⊢
 have H1 := jh H1
 have H2 := jh H2
 have HE : Hid (Ext w wa) := jh HE
 clear hA HB
 by_cases h16 : b.length < 16
 ·have h16' : (b.length : Int) - 16 < 0 := by omega
  have h17' : (b.length : Int) < 16 := by omega
  have HON := jh (openB_short kb nb s h16)
  go_wp2_with fail
  refine bodyPost_ret (res_two rfl _ _) rfl ?_
  exact ⟨_, by rw [HON.out]; rfl, by rw [HON.out]; exact Row1.nil _, HE.out⟩
 ·obtain ⟨q, hq⟩ : ∃ q, q = b.length - 16 := ⟨_, rfl⟩
  have q1 : (b.length : Int) - 16 = (q : Int) := by omega
  have q0 : (0 : Int) ≤ (q : Int) := Int.natCast_nonneg _
  have q2 : ¬ (q : Int) < 0 := by omega
  have hql : q ≤ (b.map bval).length := by rw [List.length_map]; omega
  have HQL : Hid (q ≤ 1000000000) := jh (by omega)
  have HQT : Hid ((b.take q).length ≤ 1099511627776) := jh (by rw [List.length_take]; omega)
  have HOP : Hid (openB kb nb b s = if aeaTag kb nb (b.take q) s = b.drop q then some (chaTurn kb 1 nb (b.take q)) else none) := jh (by
   unfold openB
   rw [if_neg h16, ← hq])
  have HBR := jh (HB0.out.below HE.out)
  obtain ⟨vt, ht, st⟩ := row_upto Tryz.underlying25 Tryz.sizeOf5 HBR.out q hql
  obtain ⟨at1, nt1, ct1, rfl⟩ := row_form2 ht
  rw [← List.map_take] at ht
  have HTR := jh ht
  have HST := jh st
  obtain ⟨vh, hh, sh⟩ := row_cut Tryz.underlying25 Tryz.sizeOf5 HBR.out q hql
  obtain ⟨ah, nh, ch, rfl⟩ := row_form2 hh
  rw [← List.map_drop] at hh
  have HHR := jh hh
  have HSH := jh sh
  have hqcap : (q : Int) ≤ (capb : Int) := by rw [List.length_map] at hql; omega
  have HSR := jh (HS0.out.below HE.out)
  clear ht hh st sh hbl hq h16 hql
  have HTL := jh (zeo kb nb (b.take q) s)
  have HIT : Hid ((Tryz.prog.info? 53).map (·.size) = some ((aeaTag kb nb (b.take q) s).map bval).length) := jh (tag_size HTL.out)
  have HLo : Hid (((aeaTag kb nb (b.take q) s).map bval).length = (ints .u8 (List.replicate 16 0)).length) := jh (by rw [List.length_map, HTL.out, zad, List.length_replicate])
  have HCT : Hid (∀ wx, Ext wa wx → Calls Tryz.prog 26 #[.agg (kb.map bval).toArray, .agg (nb.map bval).toArray, .slice at1 nt1 ct1, .slice ad (s.map bval).length caps] wx fun e w' => e = .returned (.agg ((aeaTag kb nb (b.take q) s).map bval).toArray) ∧ Below wx.heap.size wx w') := jh (fun wx hx => atagOf_any kb nb (b.take q) s _ _ wx HKL.out HNL.out (HTR.out.below hx) (HSR.out.below hx) (by rw [List.length_take]; have := HQL.out; omega) HSL.out)
  obtain ⟨tg, htg⟩ : ∃ tg, tg = aeaTag kb nb (b.take q) s := ⟨_, rfl⟩
  rw [← htg] at HTL HIT HLo HCT HOP
  clear htg
  generalize (s.map bval).length = sl at *
  go_upto_region 4 with (fail)
  refine zal 7 2 8 rfl (by kernel_rfl) (by kernel_rfl) (fun d v c a w h => by cases d <;> exact h) (by kernel_rfl) ?_
  refine zbp _ _ A (kb.map bval) _ (by rfl) rfl rfl (fun w hw => zbj H1.out hw) Tryz.underlying23 rfl HIK.out ?_
  simp only [Act.put, nrm]
  refine zbp _ _ (A + 1) (nb.map bval) _ (by rfl) rfl rfl (fun w hw => zbj H2.out hw) Tryz.underlying44 rfl HIN.out ?_
  simp only [Act.put, nrm]
  refine zba _ (.slice ab b.length capb) (by rfl) rfl rfl ?_
  simp only [Act.put, nrm]
  refine zba _ (.int .i64 ((q : Nat) : Int)) (by rfl) rfl rfl ?_
  simp only [Act.put, nrm]
  refine zbf (.slice at1 nt1 ct1) (by rfl) (fun w hw => by have st := HST.out; unfold execOp; simp only [Act.eval, Sem.run_bind, Option.map_some, Option.map_none]; go_simp) ?_
  simp only [Act.put, nrm]
  refine zba _ (.slice ad sl caps) (by rfl) rfl rfl ?_
  simp only [Act.put, nrm]
  refine zaj _ _ _ [.agg (kb.map bval).toArray, .agg (nb.map bval).toArray, .slice at1 nt1 ct1, .slice ad sl caps] (.agg (tg.map bval).toArray) (by rfl) rfl Tryz.call26 rfl (fun w hw => HCT.out w hw) ?_
  simp only [Act.put, nrm]
  refine zbg (end_var (k := 7) _ 11 (.tmp 23) (ints .u8 (List.replicate 16 0)) (tg.map bval) rfl rfl (by kernel_rfl) (by kernel_rfl) (by kernel_rfl) (by kernel_rfl) (by kernel_rfl) rfl rfl rfl rfl Tryz.zeroValue53 rfl (by simp) (fun p => rfl) HLo.out HIT.out (zag _) (fun p7 w7 hp7 hb7 he7 => ?_))
  simp only [Act.put, nrm]
  have H1 := jh (zaa H1.out he7)
  have H2 := jh (zaa H2.out he7)
  have H7 := jh hb7
  have HB7 := jh (HBR.out.below he7)
  have HT7 := jh (HTR.out.below he7)
  have HH7 := jh (HHR.out.below he7)
  have HE := jh (HE.out.trans he7)
  clear hb7 he7 hp7 HCT HSR HBR HTR HHR HLo
  go_upto_region 5 with (fail)
  by_cases heq : tg = b.drop q
  ·have HOS : Hid (openB kb nb b s = some (chaTurn kb 1 nb (b.take q))) := jh (by rw [HOP.out, if_pos heq])
   have rb := HH7.out
   have B0 : Ext w7 w7.drew := Ext.drew _
   refine wp_region_held_drew (S := fun w' => Ext w7 w') (by kernel_rfl) B0 (fun hHeld => ?_)
   have rb := rb.below (Ext.drew _)
   refine tke 0 (.slice (some ⟨p7, 0, none⟩) 16 16) rfl (zbm _ _ _ _ (.pointer (some ⟨p7, 0, none⟩)) (.slice (some ⟨p7, 0, none⟩) 16 16) none none (by rfl) rfl rfl rfl rfl (fun w => zbw Tryz.underlying53 Tryz.sizeOf5 (by omega) _ w)) hHeld ?_
   simp only [Act.put, nrm]
   refine tke 1 (.slice ab b.length capb) rfl (zbv _ (.slice ab b.length capb) (by rfl) rfl rfl) hHeld ?_
   simp only [Act.put, nrm]
   refine tke 2 (.int .i64 ((q : Nat) : Int)) rfl (zbv _ (.int .i64 ((q : Nat) : Int)) (by rfl) rfl rfl) hHeld ?_
   simp only [Act.put, nrm]
   refine tke 3 (.slice ah nh ch) rfl (zbm _ _ _ _ (.slice ab b.length capb) (.slice ah nh ch) (some (.int .i64 ((q : Nat) : Int))) none (by rfl) rfl rfl rfl rfl HSH.out) hHeld ?_
   simp only [Act.put, nrm]
   refine rdy 4 rfl fun K hK => ?_
   go_simp
   refine (same_true (.slice (some ⟨p7, 0, none⟩) 16 16) (.slice ah nh ch) tg (b.drop q) w7.drew ((zbo (n := 16) H7.out (by rw [List.length_map]; exact HTL.out) (by unfold maxLen; omega)).below B0) rb heq).mono ?_
   rintro e m1 ⟨rfl, b1⟩
   have rb := rb.below b1
   have N1 : Ext w7 m1 := B0.trans b1
   refine hK.out _ _ N1 (fun hHeld => ?_)
   clear hK K
   try simp only [Act.put, nrm]
   refine tke 5 (.bool false) rfl (yi_not _ _ true (by rfl) rfl rfl) hHeld ?_
   simp only [Act.put, nrm]
   refine dne ?_
   have HN8 : Hid (Ext w7 m1) := jh N1
   generalize m1 = w8 at HN8 ⊢
   have H1 := jh (zaa H1.out HN8.out)
   have H2 := jh (zaa H2.out HN8.out)
   have HB8 := jh (HB7.out.below HN8.out)
   have HT8 := jh (HT7.out.below HN8.out)
   have HE := jh (HE.out.trans HN8.out)
   clear HOP heq
   go_upto_region 7 with (fail)
   have rt := HT8.out
   have B0 : Ext w8 w8.drew := Ext.drew _
   refine wp_region_held_drew (S := fun w' => Ext w8 w') (by kernel_rfl) B0 (fun hHeld => ?_)
   have rt := rt.below (Ext.drew _)
   refine tke 0 (.agg ((kb).map bval).toArray) rfl (yieldsIf_load_mid (by rfl) _ _ rfl A 0 rfl _ _ (fun w h => zbl H1.out h) Tryz.underlying23 rfl HIK.out) hHeld ?_
   simp only [Act.put, nrm]
   refine tke 1 (.agg ((nb).map bval).toArray) rfl (yieldsIf_load_mid (by rfl) _ _ rfl (A + 1) 0 rfl _ _ (fun w h => zbl H2.out h) Tryz.underlying44 rfl HIN.out) hHeld ?_
   simp only [Act.put, nrm]
   refine tke 2 (.slice ab b.length capb) rfl (zbv _ (.slice ab b.length capb) (by rfl) rfl rfl) hHeld ?_
   simp only [Act.put, nrm]
   refine tke 3 (.int .i64 ((q : Nat) : Int)) rfl (zbv _ (.int .i64 ((q : Nat) : Int)) (by rfl) rfl rfl) hHeld ?_
   simp only [Act.put, nrm]
   refine tke 4 (.slice at1 nt1 ct1) rfl (zbm _ _ _ _ (.slice ab b.length capb) (.slice at1 nt1 ct1) none (some (.int .i64 ((q : Nat) : Int))) (by rfl) rfl rfl rfl rfl HST.out) hHeld ?_
   simp only [Act.put, nrm]
   refine rdy 5 rfl fun K hK => ?_
   go_simp
   refine (aturned_any kb nb (b.take q) _ w8.drew HKL.out HNL.out rt HQT.out).mono ?_
   rintro e m1 ⟨x1, rfl, o1, b1⟩
   have rt := rt.below b1
   have r1 : Row1 m1 x1 ((chaTurn kb 1 nb (b.take q)).map bval) := Row1.of_own o1
   obtain ⟨a1, c1, hx1, _⟩ := id r1
   rw [show ((chaTurn kb 1 nb (b.take q)).map bval).length = (chaTurn kb 1 nb (b.take q)).length from by rw [List.length_map]] at hx1
   subst hx1
   have N1 : Ext w8 m1 := B0.trans b1
   refine hK.out _ _ N1 (fun hHeld => ?_)
   clear hK K
   try simp only [Act.put, nrm]
   refine tke 6 (.slice a1 ((chaTurn kb 1 nb (b.take q)).length) c1) rfl (yi_assign _ (.slice a1 ((chaTurn kb 1 nb (b.take q)).length) c1) (by rfl) rfl rfl) hHeld ?_
   simp only [Act.put, nrm]
   refine rdy 7 rfl fun K hK => ?_
   go_simp
   refine hK.out _ _ N1 (fun hHeld => ?_)
   clear hK K
   try simp only [Act.put, nrm]
   refine dne ?_
   go_wp2_with fail
   refine bodyPost_ret (res_two rfl _ _) rfl ?_
   exact ⟨_, by rw [HOS.out]; rfl, by rw [HOS.out]; exact r1, HE.out.trans N1⟩
  ·have HOS : Hid (openB kb nb b s = none) := jh (by rw [HOP.out, if_neg heq])
   have rb := HH7.out
   have B0 : Ext w7 w7.drew := Ext.drew _
   refine wp_region_held_drew (S := fun w' => Ext w7 w') (by kernel_rfl) B0 (fun hHeld => ?_)
   have rb := rb.below (Ext.drew _)
   refine tke 0 (.slice (some ⟨p7, 0, none⟩) 16 16) rfl (zbm _ _ _ _ (.pointer (some ⟨p7, 0, none⟩)) (.slice (some ⟨p7, 0, none⟩) 16 16) none none (by rfl) rfl rfl rfl rfl (fun w => zbw Tryz.underlying53 Tryz.sizeOf5 (by omega) _ w)) hHeld ?_
   simp only [Act.put, nrm]
   refine tke 1 (.slice ab b.length capb) rfl (zbv _ (.slice ab b.length capb) (by rfl) rfl rfl) hHeld ?_
   simp only [Act.put, nrm]
   refine tke 2 (.int .i64 ((q : Nat) : Int)) rfl (zbv _ (.int .i64 ((q : Nat) : Int)) (by rfl) rfl rfl) hHeld ?_
   simp only [Act.put, nrm]
   refine tke 3 (.slice ah nh ch) rfl (zbm _ _ _ _ (.slice ab b.length capb) (.slice ah nh ch) (some (.int .i64 ((q : Nat) : Int))) none (by rfl) rfl rfl rfl rfl HSH.out) hHeld ?_
   simp only [Act.put, nrm]
   refine rdy 4 rfl fun K hK => ?_
   go_simp
   refine (same_false (.slice (some ⟨p7, 0, none⟩) 16 16) (.slice ah nh ch) tg (b.drop q) w7.drew ((zbo (n := 16) H7.out (by rw [List.length_map]; exact HTL.out) (by unfold maxLen; omega)).below B0) rb heq).mono ?_
   rintro e m1 ⟨rfl, b1⟩
   have rb := rb.below b1
   have N1 : Ext w7 m1 := B0.trans b1
   refine hK.out _ _ N1 (fun hHeld => ?_)
   clear hK K
   try simp only [Act.put, nrm]
   refine tke 5 (.bool true) rfl (yi_not _ _ false (by rfl) rfl rfl) hHeld ?_
   simp only [Act.put, nrm]
   refine dne ?_
   have HN8 : Hid (Ext w7 m1) := jh N1
   generalize m1 = w8 at HN8 ⊢
   have HE := jh (HE.out.trans HN8.out)
   clear HOP heq
   go_wp2_with fail
   refine bodyPost_ret (res_two rfl _ _) rfl ?_
   exact ⟨_, by rw [HOS.out]; rfl, by rw [HOS.out]; exact Row1.nil _, HE.out⟩
theorem wra_nonce (w : World) : (Instr.build 44 #[]).run Tryz.prog w = .ok (.agg ((zB 12).map bval).toArray) w := by
 simp [Instr.build, Tryz.zeroValue44]
 rfl
theorem wbet_any (eb zb : List UInt8) (w : World) (he : eb.length = 32) (hz : zb.length = 32) (hG : GlobR w) :
  Calls Tryz.prog 15 #[.agg (eb.map bval).toArray, .agg (zb.map bval).toArray] w fun e w' => e = .returned (.agg ((betK eb zb).map bval).toArray) ∧ Below w.heap.size w w' := by
 have HB := jh (boxes3 w (eb.map bval) (zb.map bval) (ints .u8 (List.replicate 32 0)) 23 23 23)
 have HG := jh hG
 have HEL := jh he
 have HZL := jh hz
 clear he hz hG
 go_enter Tryz.func15, Tryz.ntmps15
 go_upto_region 1 with (fail)
 obtain ⟨H1, H2, H3, HE⟩ := HB.out
 change Code.wp _ _ _ _ (((w.alloc (.cells (eb.map bval).toArray 23)).alloc (.cells (zb.map bval).toArray 23)).alloc (.cells (ints .u8 (List.replicate 32 0)).toArray 23))
 generalize ((w.alloc (.cells (eb.map bval).toArray 23)).alloc (.cells (zb.map bval).toArray 23)).alloc (.cells (ints .u8 (List.replicate 32 0)).toArray 23) = wa at *
 obtain ⟨A, hA⟩ : ∃ A, A = w.heap.size := ⟨_, rfl⟩
 have HLA : Hid (w.heap.size ≤ A + 1 + 1) := jh (by omega)
 rw [← hA] at H1 H2 H3 ⊢
 have H1 := jh H1
 have H2 := jh H2
 have H3 := jh H3
 have HE : Hid (Ext w wa) := jh HE
 clear hA HB
 have B0 : Ext wa wa.drew := Ext.drew _
 refine wp_region_held_drew (S := fun w' => Far (A + 1 + 1) wa w') (by kernel_rfl) (zbn B0) (fun hHeld => ?_)
 refine tke 0 (.slice (some ⟨A, 0, none⟩) 32 32) rfl (zbm _ _ _ _ (.pointer (some ⟨A, 0, none⟩)) (.slice (some ⟨A, 0, none⟩) 32 32) none none (by rfl) rfl rfl rfl rfl (fun w => zbw Tryz.underlying23 Tryz.sizeOf5 (by omega) _ w)) hHeld ?_
 simp only [Act.put, nrm]
 refine tke 1 (.slice (some ⟨A + 1, 0, none⟩) 32 32) rfl (zbm _ _ _ _ (.pointer (some ⟨A + 1, 0, none⟩)) (.slice (some ⟨A + 1, 0, none⟩) 32 32) none none (by rfl) rfl rfl rfl rfl (fun w => zbw Tryz.underlying23 Tryz.sizeOf5 (by omega) _ w)) hHeld ?_
 simp only [Act.put, nrm]
 refine rdy 2 rfl fun K hK => ?_
 go_simp
 refine (DExtract_num _ _ eb zb wa.drew ((zbo (n := 32) H1.out (by rw [List.length_map]; exact HEL.out) (by unfold maxLen; omega)).below B0) ((zbo (n := 32) H2.out (by rw [List.length_map]; exact HZL.out) (by unfold maxLen; omega)).below B0) (by rw [HEL.out]; decide) (by rw [HZL.out]; decide) (HG.out.ext (HE.out.trans B0))).mono ?_
 rintro e m1 ⟨rfl, b1⟩
 have N1 : Ext wa m1 := B0.trans b1
 refine hK.out _ _ (zbn N1) (fun hHeld => ?_)
 clear hK K
 try simp only [Act.put, nrm]
 refine rdy 3 rfl fun K hK => ?_
 go_simp
 refine (DKey_num (hmac eb zb) wraN m1 (zbr _ _) (by decide) (HG.out.ext (HE.out.trans N1))).mono ?_
 rintro e m2 ⟨rfl, b2⟩
 have N2 : Ext wa m2 := N1.trans b2
 refine hK.out _ _ (zbn N2) (fun hHeld => ?_)
 clear hK K
 try simp only [Act.put, nrm]
 refine rdy 4 rfl fun K hK => ?_
 refine zaw (by rfl) ?_
 refine zau _ _ _ rfl (A + 1 + 1) ((hExpand (hmac eb zb) wraN 32).map bval) rfl rfl _ _ (zaa H3.out N2) (by rw [List.length_map, zat, zad]; rfl) (zaf ((zat _ _ _))) (zag _) ?_
 intro m3 hb3 hg3
 refine hK.out _ _ (fars_put N2 hg3) (fun hHeld => ?_)
 clear hK K
 try simp only [Act.put, nrm]
 refine dne ?_
 have hfin := hb3
 have hNN := zae (HE.out.trans N2) hg3 HLA.out
 generalize m3 = w11 at hfin hNN ⊢
 have HIo : Hid ((Tryz.prog.info? 23).map (·.size) = some ((hExpand (hmac eb zb) wraN 32).map bval).length) := jh (zaf (zat _ _ _))
 go_wp2_with fail
 refine bodyPost_ret (zap rfl _ (A + 1 + 1) _ _ _ _ rfl hfin Tryz.underlying23 HIo.out) rfl ?_
 exact ⟨rfl, hNN⟩
theorem WWrap_num (tb draw key : List UInt8) (w : World) (ht : tb.length = 32) (hd : draw.length = 32) (hk : key.length = 32) (hG : GlobR w) :
  Calls Tryz.prog 7 #[.agg (tb.map bval).toArray, .agg (draw.map bval).toArray, .agg (key.map bval).toArray] w fun e w' => ∃ x, e = .returned (.tuple #[x, .int .i64 (shErr draw tb)]) ∧ Row1 w' x ((wraL tb draw key).map bval) ∧ Below w.heap.size w w' := by
 have HB := jh (boxes3 w (tb.map bval) (draw.map bval) (key.map bval) 23 23 23)
 have HG := jh hG
 have HTL := jh ht
 have HDL := jh hd
 have HKL := jh hk
 have HIT := jh (zaf ht)
 have HID := jh (zaf hd)
 have HIK := jh (zaf hk)
 clear ht hd hk hG
 go_enter Tryz.func7, Tryz.ntmps7
 go_upto_region 1 with (fail)
 obtain ⟨H1, H2, H3, HE⟩ := HB.out
 change Code.wp _ _ _ _ (((w.alloc (.cells (tb.map bval).toArray 23)).alloc (.cells (draw.map bval).toArray 23)).alloc (.cells (key.map bval).toArray 23))
 generalize ((w.alloc (.cells (tb.map bval).toArray 23)).alloc (.cells (draw.map bval).toArray 23)).alloc (.cells (key.map bval).toArray 23) = wa at *
 obtain ⟨A, hA⟩ : ∃ A, A = w.heap.size := ⟨_, rfl⟩
 have HLA : Hid (w.heap.size ≤ A) := jh (by omega)
 rw [← hA] at H1 H2 H3 ⊢
 have H1 := jh H1
 have H2 := jh H2
 have H3 := jh H3
 have HE : Hid (Ext w wa) := jh HE
 clear hA HB
 have HC := jh (LShared_num draw tb wa HDL.out HTL.out)
 have HZL : Hid ((ladB draw tb).length = 32) := jh (zct _ _)
 have HWL : Hid (wraL tb draw key = if ladB draw tb = zer then [] else pubB draw ++ sealB (betK (pubB draw) (ladB draw tb)) (zB 12) key tb) := jh rfl
 have HER : Hid (shErr draw tb = if ladB draw tb = zer then 21 else 0) := jh rfl
 obtain ⟨z, hz⟩ : ∃ z, z = ladB draw tb := ⟨_, rfl⟩
 rw [← hz] at HC HZL HWL HER
 have HzL := HZL
 obtain ⟨er, her⟩ : ∃ er, er = shErr draw tb := ⟨_, rfl⟩
 rw [← her] at HC HER
 have HERQ := jh her
 have HIz := jh (zaf HzL.out)
 have HLz : Hid ((z.map bval).length = (ints .u8 (List.replicate 32 0)).length) := jh (by rw [List.length_map, zad, HzL.out]; rfl)
 clear hz her HZL
 go_wp2_with (first | (refine zab rfl _ _ rfl (A) rfl _ _ _ _ H1.out Tryz.underlying23 HIT.out ?_) | (refine zab rfl _ _ rfl (A + 1) rfl _ _ _ _ H2.out Tryz.underlying23 HID.out ?_))
 refine HC.out.mono ?_
 rintro e w1 ⟨rfl, hb⟩
 have H1 := jh (zaa H1.out hb)
 have H2 := jh (zaa H2.out hb)
 have H3 := jh (zaa H3.out hb)
 have HE := jh (HE.out.trans hb)
 clear hb HC
 have HZ := jh (Blk.made w1 (ints .u8 (List.replicate 32 0)) 23)
 have HEA := jh (Ext.alloc w1 (.cells (ints .u8 (List.replicate 32 0)).toArray 23))
 go_upto_region 2 with (refine zac rfl _ _ _ rfl w1.heap.size (z.map bval) rfl rfl _ _ HZ.out HLz.out HIz.out (zag _) ?_; intro w2 hb2 hg2)
 have HX := jh (zae HEA.out hg2 (Nat.le_refl _))
 have H1 := jh (zaa H1.out HX.out)
 have H2 := jh (zaa H2.out HX.out)
 have H3 := jh (zaa H3.out HX.out)
 have HE := jh (HE.out.trans HX.out)
 have HZB := jh hb2
 generalize w1.heap.size = Z at *
 clear hb2 hg2 HZ HEA HX
 by_cases hz : z = zer
 ·have HRE : Hid (er = 21) := jh (by rw [HER.out, if_pos hz])
  have HRL : Hid (wraL tb draw key = []) := jh (by rw [HWL.out, if_pos hz])
  clear hz HER HWL
  rw [HRE.out]
  go_wp2_with fail
  refine bodyPost_ret (res_two rfl _ _) rfl ?_
  exact ⟨_, by rw [← HERQ.out, HRE.out]; rfl, by rw [HRL.out]; exact Row1.nil _, HE.out⟩
 ·have HRE : Hid (er = 0) := jh (by rw [HER.out, if_neg hz])
  have HRL : Hid (wraL tb draw key = pubB draw ++ sealB (betK (pubB draw) z) (zB 12) key tb) := jh (by rw [HWL.out, if_neg hz])
  clear hz HER HWL
  rw [HRE.out]
  have HP := jh (LPub_num draw w2 HDL.out)
  have HeL : Hid ((pubB draw).length = 32) := jh (zcj _)
  obtain ⟨e, he⟩ : ∃ e, e = pubB draw := ⟨_, rfl⟩
  rw [← he] at HP HeL HRL
  clear he
  have HIe := jh (zaf HeL.out)
  have HLe : Hid ((e.map bval).length = (ints .u8 (List.replicate 32 0)).length) := jh (by rw [List.length_map, zad, HeL.out]; rfl)
  go_wp2_with (first | (refine zab rfl _ _ rfl (A + 1) rfl _ _ _ _ H2.out Tryz.underlying23 HID.out ?_))
  refine HP.out.mono ?_
  rintro ex w3 ⟨rfl, hb⟩
  have H1 := jh (zaa H1.out hb)
  have H3 := jh (zaa H3.out hb)
  have HZB := jh (zaa HZB.out hb)
  have HE := jh (HE.out.trans hb)
  clear hb HP H2
  have HZ := jh (Blk.made w3 (ints .u8 (List.replicate 32 0)) 23)
  have HEA := jh (Ext.alloc w3 (.cells (ints .u8 (List.replicate 32 0)).toArray 23))
  go_upto_region 5 with (refine zac rfl _ _ _ rfl w3.heap.size (e.map bval) rfl rfl _ _ HZ.out HLe.out HIe.out (zag _) ?_; intro w4 hb4 hg4)
  have HX := jh (zae HEA.out hg4 (Nat.le_refl _))
  have H1 := jh (zaa H1.out HX.out)
  have H3 := jh (zaa H3.out HX.out)
  have HZB := jh (zaa HZB.out HX.out)
  have HE := jh (HE.out.trans HX.out)
  have HEB := jh hb4
  generalize w3.heap.size = E at *
  clear hb4 hg4 HZ HEA HX
  have B0 : Ext w4 w4.drew := Ext.drew _
  refine wp_region_held_drew (S := fun w' => Ext w4 w') (by kernel_rfl) B0 (fun hHeld => ?_)
  refine tke 0 (.agg ((e).map bval).toArray) rfl (yieldsIf_load_mid (by rfl) _ _ rfl E 0 rfl _ _ (fun w h => zbl HEB.out h) Tryz.underlying23 rfl HIe.out) hHeld ?_
  simp only [Act.put, nrm]
  refine tke 1 (.agg ((z).map bval).toArray) rfl (yieldsIf_load_mid (by rfl) _ _ rfl Z 0 rfl _ _ (fun w h => zbl HZB.out h) Tryz.underlying23 rfl HIz.out) hHeld ?_
  simp only [Act.put, nrm]
  refine tke 3 (.agg ((zB 12).map bval).toArray) rfl (yi_build _ _ _ _ wra_nonce (by rfl) rfl (by simp)) hHeld ?_
  simp only [Act.put, nrm]
  refine tke 4 (.slice (some ⟨A + 1 + 1, 0, none⟩) 32 32) rfl (zbm _ _ _ _ (.pointer (some ⟨A + 1 + 1, 0, none⟩)) (.slice (some ⟨A + 1 + 1, 0, none⟩) 32 32) none none (by rfl) rfl rfl rfl rfl (fun w => zbw Tryz.underlying23 Tryz.sizeOf5 (by omega) _ w)) hHeld ?_
  simp only [Act.put, nrm]
  refine tke 5 (.slice (some ⟨A, 0, none⟩) 32 32) rfl (zbm _ _ _ _ (.pointer (some ⟨A, 0, none⟩)) (.slice (some ⟨A, 0, none⟩) 32 32) none none (by rfl) rfl rfl rfl rfl (fun w => zbw Tryz.underlying23 Tryz.sizeOf5 (by omega) _ w)) hHeld ?_
  simp only [Act.put, nrm]
  refine rdy 2 rfl fun K hK => ?_
  go_simp
  refine (wbet_any e z w4.drew HeL.out HzL.out (HG.out.ext (HE.out.trans B0))).mono ?_
  rintro e m1 ⟨rfl, b1⟩
  have N1 : Ext w4 m1 := B0.trans b1
  refine hK.out _ _ N1 (fun hHeld => ?_)
  clear hK K
  try simp only [Act.put, nrm]
  refine rdy 6 rfl fun K hK => ?_
  go_simp
  refine (ASeal_num (betK e z) (zB 12) key tb _ _ m1 (betK_length _ _) (zch _) ((zbo (n := 32) H3.out (by rw [List.length_map]; exact HKL.out) (by unfold maxLen; omega)).below N1) ((zbo (n := 32) H1.out (by rw [List.length_map]; exact HTL.out) (by unfold maxLen; omega)).below N1) (by rw [HKL.out]; decide) (by rw [HTL.out]; decide)).mono ?_
  rintro e m2 ⟨x2, rfl, o2, b2⟩
  have r2 : Row1 m2 x2 ((sealB (betK e z) (zB 12) key tb).map bval) := Row1.of_own o2
  obtain ⟨a2, c2, hx2, _⟩ := id r2
  rw [show ((sealB (betK e z) (zB 12) key tb).map bval).length = 48 from by rw [List.length_map, zcn, HKL.out]] at hx2
  subst hx2
  have N2 : Ext w4 m2 := N1.trans b2
  refine hK.out _ _ N2 (fun hHeld => ?_)
  clear hK K
  try simp only [Act.put, nrm]
  refine rdy 7 rfl fun K hK => ?_
  go_simp
  refine hK.out _ _ N2 (fun hHeld => ?_)
  clear hK K
  try simp only [Act.put, nrm]
  refine dne ?_
  have HE5 := jh (HE.out.trans N2)
  have HS5 := jh r2
  have HEB5 := jh (zaa HEB.out N2)
  generalize m2 = w5 at HE5 HS5 HEB5 ⊢
  have HER := jh (zbo (n := 32) HEB5.out (by rw [List.length_map, HeL.out]) (by unfold maxLen; omega))
  have HF : Hid ((e ++ sealB (betK e z) (zB 12) key tb).length ≤ 1099511627776) := jh (by rw [List.length_append, zcn, HeL.out, HKL.out]; decide)
  go_wp2_with fail
  refine (Concat_two _ _ e (sealB (betK e z) (zB 12) key tb) w5 HER.out HS5.out HF.out).mono ?_
  rintro ey w6 ⟨x, rfl, ho, hb⟩
  have HO := jh (Row1.of_own ho)
  have HE6 := jh (HE5.out.trans hb)
  clear ho hb
  go_wp2_with fail
  refine bodyPost_ret (res_two rfl _ _) rfl ?_
  exact ⟨_, by rw [← HERQ.out, HRE.out]; rfl, by rw [HRL.out]; exact HO.out, HE6.out⟩
theorem row_range {w : World} {a : Option Addr} {n cap : Nat} {vs : List Value} (h : Row1 w (.slice a n cap) vs) (hne : vs ≠ []) : ∃ b off, a = some ⟨b, off, none⟩ ∧ w.rangeAt b off vs := by
 obtain ⟨a', cap', he, _, _, _, h5⟩ := h
 obtain ⟨b, off, ha, _, hc⟩ := h5 hne
 injection he with e1 e2 e3
 subst e1
 refine ⟨b, off, ha, fun j v hj => ?_⟩
 have hjl : j < vs.length := by
  rcases Nat.lt_or_ge j vs.length with h' | h'
  ·exact h'
  ·rw [List.getElem?_eq_none h'] at hj; cases hj
 rw [hc j hjl, hj]
theorem WUnwrap_num (s b : List UInt8) (bv : Value) (w : World) (hs : s.length = 32) (hb : Row1 w bv (b.map bval)) (hG : GlobR w) :
  Calls Tryz.prog 10 #[.agg (s.map bval).toArray, bv] w fun e w' => e = .returned (.tuple #[.agg ((unwK s b).map bval).toArray, .int .i64 (unwE s b)]) ∧ Below w.heap.size w w' := by
 have HB := jh (boxes2 w (s.map bval) (ints .u8 (List.replicate 32 0)) 23 23)
 have HG := jh hG
 have HSL := jh hs
 have HIS := jh (zaf hs)
 have HB0 := jh hb
 obtain ⟨ab, capb, hbv, r1, r2, _⟩ := id hb
 rw [List.length_map] at hbv r1
 subst hbv
 unfold maxLen at r2
 have hb0 : (0 : Int) ≤ (b.length : Int) := Int.natCast_nonneg _
 have HNZ : Hid ((ints .u8 (List.replicate 32 0)) = zer.map bval) := jh rfl
 have HNI : Hid ((Tryz.prog.info? 23).map (·.size) = some (ints .u8 (List.replicate 32 0)).length) := jh (by rw [HNZ.out]; exact zaf zer_length)
 clear hs hb hG
 go_enter Tryz.func10, Tryz.ntmps10
 go_upto_region 1 with (fail)
 obtain ⟨H1, HX, HE⟩ := HB.out
 change Code.wp _ _ _ _ ((w.alloc (.cells (s.map bval).toArray 23)).alloc (.cells (ints .u8 (List.replicate 32 0)).toArray 23))
 generalize (w.alloc (.cells (s.map bval).toArray 23)).alloc (.cells (ints .u8 (List.replicate 32 0)).toArray 23) = wa at *
 obtain ⟨A, hA⟩ : ∃ A, A = w.heap.size := ⟨_, rfl⟩
 have HLA : Hid (w.heap.size ≤ A + 1) := jh (by omega)
 rw [← hA] at H1 HX ⊢
 have H1 := jh H1
 have HX := jh HX
 have HE : Hid (Ext w wa) := jh HE
 clear hA HB
 by_cases h80 : b.length = 80
 ·have HBL := jh h80
  have HBR := jh (HB0.out.below HE.out)
  rw [h80] at HBR r1 ⊢
  clear hb0 h80 HB0
  obtain ⟨vt, ht, st⟩ := row_upto Tryz.underlying25 Tryz.sizeOf5 HBR.out 32 (by rw [List.length_map, HBL.out]; omega)
  rw [← List.map_take] at ht
  have HeL : Hid ((b.take 32).length = 32) := jh (by rw [List.length_take, HBL.out]; rfl)
  obtain ⟨at1, ct, hvt, _⟩ := id ht
  rw [List.length_map, HeL.out] at hvt
  subst hvt
  obtain ⟨B1, o1, rfl, hr1⟩ := row_range ht (by
   intro h
   have h2 := congrArg List.length h
   rw [List.length_map, HeL.out] at h2
   exact absurd h2 (by decide))
  obtain ⟨vh, hh, sh⟩ := row_cut Tryz.underlying25 Tryz.sizeOf5 HBR.out 32 (by rw [List.length_map, HBL.out]; omega)
  obtain ⟨ah, nh, ch, rfl⟩ := row_form2 hh
  rw [← List.map_drop] at hh
  have HCR := jh hh
  have HSH : Hid (∀ w', (Instr.sliceAt 25 (.slice ab 80 capb) (some (.int .i64 32)) none none).run Tryz.prog w' = .ok (.slice ah nh ch) w') := jh sh
  have hs1 : ∀ w', (Instr.sliceAt 25 (.slice ab 80 capb) none (some (.int .i64 32)) none).run Tryz.prog w' = .ok (.slice (some ⟨B1, o1, none⟩) 32 ct) w' := st
  have hat := fun w' => run_array_at (P := Tryz.prog) Tryz.underlying23 (some ⟨B1, o1, none⟩) 32 ct (Nat.le_refl _) w'
  have HR1 := jh hr1
  have HDL : Hid ((b.drop 32).length = 48) := jh (by rw [List.length_drop, HBL.out])
  have HLOW : Hid (ladB s (b.take 32) = zer → unwE s b = 21 ∧ unwK s b = zer) := jh (fun h => ⟨unwE_low HBL.out h, unwK_low HBL.out h⟩)
  have HBAD : Hid (¬ ladB s (b.take 32) = zer → unwO s b = none → unwE s b = 10 ∧ unwK s b = zer) := jh (fun h h2 => ⟨unwE_bad HBL.out h h2, unwK_bad HBL.out h h2⟩)
  have HGOOD : Hid (∀ q, ¬ ladB s (b.take 32) = zer → unwO s b = some q → unwE s b = 0 ∧ unwK s b = q ∧ q.length = 32) := jh (fun q h h2 => ⟨unwE_good HBL.out h h2, unwK_good HBL.out h h2, unwO_length HBL.out h2⟩)
  have HO : Hid (unwO s b = openB (betK (b.take 32) (ladB s (b.take 32))) (zB 12) (b.drop 32) (pubB s)) := jh rfl
  obtain ⟨o, ho⟩ : ∃ o, o = unwO s b := ⟨_, rfl⟩
  rw [← ho] at HBAD HGOOD HO
  clear ht hh sh st hr1 ho
  have HC := jh (fun w' => LShared_num s (b.take 32) w' HSL.out HeL.out)
  have HzL : Hid ((ladB s (b.take 32)).length = 32) := jh (zct _ _)
  have HER : Hid (shErr s (b.take 32) = if ladB s (b.take 32) = zer then 21 else 0) := jh rfl
  obtain ⟨er, her⟩ : ∃ er, er = shErr s (b.take 32) := ⟨_, rfl⟩
  rw [← her] at HC HER
  obtain ⟨z, hz⟩ : ∃ z, z = ladB s (b.take 32) := ⟨_, rfl⟩
  rw [← hz] at HC HzL HER HLOW HBAD HGOOD HO
  obtain ⟨e, he⟩ : ∃ e, e = b.take 32 := ⟨_, rfl⟩
  rw [← he] at HC HeL HR1 HO
  clear her hz he
  have HIe := jh (zaf HeL.out)
  have HIz := jh (zaf HzL.out)
  have HLe : Hid ((e.map bval).length = (ints .u8 (List.replicate 32 0)).length) := jh (by rw [List.length_map, zad, HeL.out]; rfl)
  have HLz : Hid ((z.map bval).length = (ints .u8 (List.replicate 32 0)).length) := jh (by rw [List.length_map, zad, HzL.out]; rfl)
  have HZ := jh (Blk.made wa (ints .u8 (List.replicate 32 0)) 23)
  have HEA := jh (Ext.alloc wa (.cells (ints .u8 (List.replicate 32 0)).toArray 23))
  go_upto_region 4 with (first | (refine wpList_load_mid rfl _ _ rfl B1 o1 rfl _ _ HR1.out Tryz.underlying23 rfl HIe.out ?_) | (refine zac rfl _ _ _ rfl wa.heap.size (e.map bval) rfl rfl _ _ HZ.out HLe.out HIe.out (zag _) ?_; intro w1 hb1 hg1))
  have HW := jh (zae HEA.out hg1 (Nat.le_refl _))
  have H1 := jh (zaa H1.out HW.out)
  have HX := jh (zaa HX.out HW.out)
  have HBR := jh (HBR.out.below HW.out)
  have HCR := jh (HCR.out.below HW.out)
  have HE := jh (HE.out.trans HW.out)
  have HEB := jh hb1
  generalize wa.heap.size = E at *
  clear hb1 hg1 HZ HEA HW hs1 hat HR1 HLe
  go_wp2_with (first | (refine zab rfl _ _ rfl (A) rfl _ _ _ _ H1.out Tryz.underlying23 HIS.out ?_) | (refine zab rfl _ _ rfl (E) rfl _ _ _ _ HEB.out Tryz.underlying23 HIe.out ?_))
  refine (HC.out w1).mono ?_
  rintro ex w2 ⟨rfl, hb⟩
  have H1 := jh (zaa H1.out hb)
  have HX := jh (zaa HX.out hb)
  have HBR := jh (HBR.out.below hb)
  have HCR := jh (HCR.out.below hb)
  have HE := jh (HE.out.trans hb)
  have HEB := jh (zaa HEB.out hb)
  clear hb HC
  have HZ := jh (Blk.made w2 (ints .u8 (List.replicate 32 0)) 23)
  have HEA := jh (Ext.alloc w2 (.cells (ints .u8 (List.replicate 32 0)).toArray 23))
  go_upto_region 5 with (refine zac rfl _ _ _ rfl w2.heap.size (z.map bval) rfl rfl _ _ HZ.out HLz.out HIz.out (zag _) ?_; intro w3 hb3 hg3)
  have HW := jh (zae HEA.out hg3 (Nat.le_refl _))
  have H1 := jh (zaa H1.out HW.out)
  have HX := jh (zaa HX.out HW.out)
  have HBR := jh (HBR.out.below HW.out)
  have HCR := jh (HCR.out.below HW.out)
  have HE := jh (HE.out.trans HW.out)
  have HEB := jh (zaa HEB.out HW.out)
  have HZB := jh hb3
  generalize w2.heap.size = Z at *
  clear hb3 hg3 HZ HEA HW HLz
  by_cases hz : z = zer
  ·have HRE : Hid (er = 21) := jh (by rw [HER.out, if_pos hz])
   have HQ := jh (HLOW.out hz)
   clear hz HER HLOW HBAD HGOOD
   rw [HRE.out]
   go_wp2_with (refine zac rfl _ _ _ rfl (A + 1) (ints .u8 (List.replicate 32 0)) rfl rfl _ _ HX.out rfl HNI.out (zai _ _) ?_; intro w8 hb7 hg7)
   refine bodyPost_ret (zbq (p := 4) (u := 5) (by rfl) _ (A + 1) _ _ _ (by rfl) hb7 Tryz.underlying23 rfl HNI.out) rfl ⟨by rw [HQ.out.1, HQ.out.2, HNZ.out]; rfl, zae HE.out hg7 (by have := HLA.out; omega)⟩
  ·have HRE : Hid (er = 0) := jh (by rw [HER.out, if_neg hz])
   have HBAD := jh (HBAD.out hz)
   have HGOOD := jh (fun q => HGOOD.out q hz)
   clear hz HER HLOW
   rw [HRE.out]
   have HP := jh (LPub_num s w3 HSL.out)
   have HpL : Hid ((pubB s).length = 32) := jh (zcj _)
   obtain ⟨p, hp⟩ : ∃ p, p = pubB s := ⟨_, rfl⟩
   rw [← hp] at HP HpL HO
   clear hp
   have HIp := jh (zaf HpL.out)
   have HLp : Hid ((p.map bval).length = (ints .u8 (List.replicate 32 0)).length) := jh (by rw [List.length_map, zad, HpL.out]; rfl)
   go_wp2_with (first | (refine zab rfl _ _ rfl (A) rfl _ _ _ _ H1.out Tryz.underlying23 HIS.out ?_))
   refine HP.out.mono ?_
   rintro ex w4 ⟨rfl, hb⟩
   have HX := jh (zaa HX.out hb)
   have HBR := jh (HBR.out.below hb)
   have HCR := jh (HCR.out.below hb)
   have HE := jh (HE.out.trans hb)
   have HEB := jh (zaa HEB.out hb)
   have HZB := jh (zaa HZB.out hb)
   clear hb HP H1
   have HZ := jh (Blk.made w4 (ints .u8 (List.replicate 32 0)) 23)
   have HEA := jh (Ext.alloc w4 (.cells (ints .u8 (List.replicate 32 0)).toArray 23))
   go_upto_region 8 with (refine zac rfl _ _ _ rfl w4.heap.size (p.map bval) rfl rfl _ _ HZ.out HLp.out HIp.out (zag _) ?_; intro w5 hb5 hg5)
   have HW := jh (zae HEA.out hg5 (Nat.le_refl _))
   have HX := jh (zaa HX.out HW.out)
   have HBR := jh (HBR.out.below HW.out)
   have HCR := jh (HCR.out.below HW.out)
   have HE := jh (HE.out.trans HW.out)
   have HEB := jh (zaa HEB.out HW.out)
   have HZB := jh (zaa HZB.out HW.out)
   have HTB := jh hb5
   generalize w4.heap.size = T at *
   clear hb5 hg5 HZ HEA HW HLp
   have rt := HCR.out
   have B0 : Ext w5 w5.drew := Ext.drew _
   refine wp_region_held_drew (S := fun w' => Ext w5 w') (by kernel_rfl) B0 (fun hHeld => ?_)
   have rt := rt.below (Ext.drew _)
   refine tke 0 (.agg ((e).map bval).toArray) rfl (yieldsIf_load_mid (by rfl) _ _ rfl E 0 rfl _ _ (fun w h => zbl HEB.out h) Tryz.underlying23 rfl HIe.out) hHeld ?_
   simp only [Act.put, nrm]
   refine tke 1 (.agg ((z).map bval).toArray) rfl (yieldsIf_load_mid (by rfl) _ _ rfl Z 0 rfl _ _ (fun w h => zbl HZB.out h) Tryz.underlying23 rfl HIz.out) hHeld ?_
   simp only [Act.put, nrm]
   refine tke 3 (.agg ((zB 12).map bval).toArray) rfl (yi_build _ _ _ _ wra_nonce (by rfl) rfl (by simp)) hHeld ?_
   simp only [Act.put, nrm]
   refine tke 4 (.slice ab 80 capb) rfl (zbv _ (.slice ab 80 capb) (by rfl) rfl rfl) hHeld ?_
   simp only [Act.put, nrm]
   refine tke 5 (.slice ah nh ch) rfl (zbm _ _ _ _ (.slice ab 80 capb) (.slice ah nh ch) (some (.int .i64 32)) none (by rfl) rfl rfl rfl rfl HSH.out) hHeld ?_
   simp only [Act.put, nrm]
   refine tke 6 (.slice (some ⟨T, 0, none⟩) 32 32) rfl (zbm _ _ _ _ (.pointer (some ⟨T, 0, none⟩)) (.slice (some ⟨T, 0, none⟩) 32 32) none none (by rfl) rfl rfl rfl rfl (fun w => zbw Tryz.underlying23 Tryz.sizeOf5 (by omega) _ w)) hHeld ?_
   simp only [Act.put, nrm]
   refine rdy 2 rfl fun K hK => ?_
   go_simp
   refine (wbet_any e z w5.drew HeL.out HzL.out (HG.out.ext (HE.out.trans B0))).mono ?_
   rintro e m1 ⟨rfl, b1⟩
   have rt := rt.below b1
   have N1 : Ext w5 m1 := B0.trans b1
   refine hK.out _ _ N1 (fun hHeld => ?_)
   clear hK K
   try simp only [Act.put, nrm]
   refine rdy 7 rfl fun K hK => ?_
   go_simp
   refine (AOpen_num (betK e z) (zB 12) (b.drop 32) p _ _ m1 (betK_length _ _) (zch _) rt ((zbo (n := 32) HTB.out (by rw [List.length_map]; exact HpL.out) (by unfold maxLen; omega)).below N1) (by rw [HDL.out]; decide) (by rw [HpL.out]; decide)).mono ?_
   rintro e m2 ⟨x2, rfl, r2, b2⟩
   have rt := rt.below b2
   have N2 : Ext w5 m2 := N1.trans b2
   rw [← HO.out] at r2 ⊢
   obtain ⟨a2, c2, hx2, _⟩ := id r2
   rw [List.length_map] at hx2
   subst hx2
   refine hK.out _ _ N2 (fun hHeld => ?_)
   clear hK K
   try simp only [Act.put, nrm]
   refine tke 8 (.tuple #[.slice a2 ((o.getD []).length) c2, .int .i64 (aErr o)]) rfl (zbv _ (.tuple #[.slice a2 ((o.getD []).length) c2, .int .i64 (aErr o)]) (by rfl) rfl rfl) hHeld ?_
   simp only [Act.put, nrm]
   refine tke 9 (.slice a2 ((o.getD []).length) c2) rfl (yi_val (.slice a2 ((o.getD []).length) c2) (by rfl) (fun w _ => by go_simp)) hHeld ?_
   simp only [Act.put, nrm]
   refine tke 10 (.int .i64 (aErr o)) rfl (yi_val (.int .i64 (aErr o)) (by rfl) (fun w _ => by go_simp)) hHeld ?_
   simp only [Act.put, nrm]
   refine tke 11 (.slice a2 ((o.getD []).length) c2) rfl (yi_assign _ (.slice a2 ((o.getD []).length) c2) (by rfl) rfl rfl) hHeld ?_
   simp only [Act.put, nrm]
   refine rdy 12 rfl fun K hK => ?_
   go_simp
   refine hK.out _ _ N2 (fun hHeld => ?_)
   clear hK K
   try simp only [Act.put, nrm]
   refine dne ?_
   have HE6 := jh (HE.out.trans N2)
   have HX6 := jh (zaa HX.out N2)
   have HR6 := jh r2
   generalize a2 = ax at HR6 ⊢
   generalize c2 = cx at HR6 ⊢
   clear rt r2 HBR HCR HEB HZB HTB
   generalize m2 = w6 at HE6 HR6 HX6 ⊢
   cases o with
   | none =>
    have HQ := jh (HBAD.out rfl)
    have hae : aErr none = 10 := rfl
    rw [hae]
    clear hae
    go_wp2_with (refine zac rfl _ _ _ rfl (A + 1) (ints .u8 (List.replicate 32 0)) rfl rfl _ _ HX6.out rfl HNI.out (zai _ _) ?_; intro w8 hb7 hg7)
    refine bodyPost_ret (zbq (p := 4) (u := 5) (by rfl) _ (A + 1) _ _ _ (by rfl) hb7 Tryz.underlying23 rfl HNI.out) rfl ⟨by rw [HQ.out.1, HQ.out.2, HNZ.out]; rfl, zae HE6.out hg7 (by have := HLA.out; omega)⟩
   | some q =>
    obtain ⟨q1, q2, q3⟩ := HGOOD.out q rfl
    have HQ : Hid (unwE s b = 0 ∧ unwK s b = q) := jh ⟨q1, q2⟩
    have HqL := jh q3
    have hae : aErr (some q) = 0 := rfl
    rw [hae]
    have HR7 : Hid (Row1 w6 (.slice ax (((some q).getD []).length) cx) (q.map bval)) := HR6
    have hql : ((some q).getD []).length = 32 := q3
    rw [hql] at HR7 ⊢
    clear q1 q2 q3 hae hql HR6
    obtain ⟨B2, o2, rfl, hr2⟩ := row_range HR7.out (by
     intro h
     have h2 := congrArg List.length h
     rw [List.length_map, HqL.out] at h2
     exact absurd h2 (by decide))
    have HR2 := jh hr2
    clear hr2
    have hat := fun w' => run_array_at (P := Tryz.prog) Tryz.underlying23 (some ⟨B2, o2, none⟩) 32 cx (Nat.le_refl _) w'
    have HIq := jh (zaf HqL.out)
    have HLq : Hid ((q.map bval).length = (ints .u8 (List.replicate 32 0)).length) := jh (by rw [List.length_map, zad, HqL.out]; rfl)
    go_wp2_with (first | (refine wpList_load_mid rfl _ _ rfl B2 o2 rfl _ _ HR2.out Tryz.underlying23 rfl HIq.out ?_) | (refine zac rfl _ _ _ rfl (A + 1) (q.map bval) rfl rfl _ _ HX6.out HLq.out HIq.out (zag _) ?_; intro w8 hb7 hg7))
    refine bodyPost_ret (zbq (p := 4) (u := 5) (by rfl) _ (A + 1) _ _ _ (by rfl) hb7 Tryz.underlying23 rfl HIq.out) rfl ⟨by rw [HQ.out.1, HQ.out.2]; rfl, zae HE6.out hg7 (by have := HLA.out; omega)⟩
 ·have h80' : ¬ (b.length : Int) = 80 := by omega
  have HRE := jh (unwE_long (s := s) h80)
  have HRK := jh (unwK_long (s := s) h80)
  clear h80
  go_wp2_with (refine zac rfl _ _ _ rfl (A + 1) (ints .u8 (List.replicate 32 0)) rfl rfl _ _ HX.out rfl HNI.out (zai _ _) ?_; intro w8 hb7 hg7)
  refine bodyPost_ret (zbq (p := 4) (u := 5) (by rfl) _ (A + 1) _ _ _ (by rfl) hb7 Tryz.underlying23 rfl HNI.out) rfl ⟨by rw [HRE.out, HRK.out, HNZ.out]; rfl, zae HE.out hg7 (by have := HLA.out; omega)⟩
theorem wra_num_any (n : Int) (w : World) : Calls Tryz.prog 9 #[.int .i64 n] w fun e w' => e = .returned (.int .i64 n) ∧ w = w' := by
 go_enter Tryz.func9, Tryz.ntmps9
 go_wp2_with fail
 go_ret
 exact ⟨rfl, rfl⟩
theorem wrap_pub (s draw key : List UInt8) (w : World) (hs : s.length = 32) (hd : draw.length = 32) (hk : key.length = 32) (hG : GlobR w) :
  Calls Tryz.prog 7 #[.agg ((pubB s).map bval).toArray, .agg (draw.map bval).toArray, .agg (key.map bval).toArray] w fun e w' => ∃ x, e = .returned (.tuple #[x, .int .i64 0]) ∧ Row1 w' x ((wraB (pubB s) draw key).map bval) ∧ Below w.heap.size w w' := by
 refine (WWrap_num (pubB s) draw key w (zcj _) hd hk hG).mono ?_
 rintro e w' ⟨x, he, hr, hb⟩
 rw [sh_pub hd hs] at he
 rw [wraL_pub key hs hd] at hr
 exact ⟨x, he, hr, hb⟩
theorem unwrap_pub (s draw key : List UInt8) (bv : Value) (w : World) (hs : s.length = 32) (hd : draw.length = 32) (hk : key.length = 32) (hb : Row1 w bv ((wraB (pubB s) draw key).map bval)) (hG : GlobR w) :
  Calls Tryz.prog 10 #[.agg (s.map bval).toArray, bv] w fun e w' => e = .returned (.tuple #[.agg (key.map bval).toArray, .int .i64 0]) ∧ Below w.heap.size w w' := by
 refine (WUnwrap_num s _ bv w hs hb hG).mono ?_
 rintro e w' ⟨he, hb⟩
 rw [unw_wrapK hs hd hk, unw_wrapE hs hd hk] at he
 exact ⟨he, hb⟩
theorem alive_any14 (w : World) (hG : GlobR w) : Calls Tryz.prog 6 #[] w fun e w' => e = .returned (.bool true) ∧ Below w.heap.size w w' := by
 have HG := jh hG
 have HSL : Hid ((smL 1).length = 32) := jh (zcy _)
 have HDL : Hid ((smL 2).length = 32) := jh (zcy _)
 have HKL : Hid ((smL 3).length = 32) := jh (zcy _)
 clear hG
 have HIK := jh (zaf HKL.out)
 have HLK : Hid (((smL 3).map bval).length = (ints .u8 (List.replicate 32 0)).length) := jh (by rw [List.length_map, zad, HKL.out]; rfl)
 have HW0 := jh (fun w hG => wrap_pub (smL 1) (smL 2) (smL 3) w HSL.out HDL.out HKL.out hG)
 have HU0 := jh (fun bv w hb hG => unwrap_pub (smL 1) (smL 2) (smL 3) bv w HSL.out HDL.out HKL.out hb hG)
 have HPN := jh (fun w => LPub_num (smL 1) w HSL.out)
 have HBL := jh (wraB_length (tb := pubB (smL 1)) (draw := smL 2) HKL.out)
 generalize wraB (pubB (smL 1)) (smL 2) (smL 3) = b at *
 generalize pubB (smL 1) = p at *
 go_enter Tryz.func6, Tryz.ntmps6
 go_wp2_with fail
 refine (HPN.out w).mono ?_
 rintro e w1 ⟨rfl, hb⟩
 have HE := jh (show Ext w w1 from hb)
 clear hb HPN
 go_wp2_with fail
 refine (HW0.out w1 (HG.out.ext HE.out)).mono ?_
 rintro e w2 ⟨x, rfl, hr, hb⟩
 obtain ⟨a, c, hx, _⟩ := id hr
 rw [List.length_map, HBL.out] at hx
 subst hx
 have HR := jh hr
 have HE := jh (HE.out.trans hb)
 clear hb hr HW0
 go_wp2_with fail
 refine (HU0.out _ w2 HR.out (HG.out.ext HE.out)).mono ?_
 rintro e w3 ⟨rfl, hb⟩
 have HE := jh (HE.out.trans hb)
 clear hb HU0 HR
 have HZ := jh (Blk.made w3 (ints .u8 (List.replicate 32 0)) 23)
 have HEA := jh (Ext.alloc w3 (.cells (ints .u8 (List.replicate 32 0)).toArray 23))
 go_upto_region 3 with (refine zac rfl _ _ _ rfl w3.heap.size ((smL 3).map bval) rfl rfl _ _ HZ.out HLK.out HIK.out (zag _) ?_; intro w4 hb2 hg2)
 have HX := jh (zae HEA.out hg2 (Nat.le_refl _))
 have HE := jh (HE.out.trans HX.out)
 have HKB := jh hb2
 generalize w3.heap.size = D at *
 clear hb2 hg2 HZ HEA HX
 go_wp2_with fail
 refine (wra_num_any 0 w4).mono ?_
 rintro e w5 ⟨rfl, rfl⟩
 go_wp2_with fail
 refine (wra_num_any 0 w4).mono ?_
 rintro e w5 ⟨rfl, rfl⟩
 go_wp2_with (first | (refine wpList_eql (by rfl) _ _ _ _ _ _ 32 _ (smL 3) (smL 3) true rfl (Or.inl ⟨rfl, decide_eq_true rfl⟩) Tryz.underlying23 Tryz.underlying5 num_info zek num_guard rfl rfl HKL.out HKL.out ?_) | (refine zei (by rfl) _ _ rfl D rfl _ _ _ _ HKB.out Tryz.underlying23 HIK.out ?_))
 go_ret
 exact ⟨rfl, HE.out⟩
theorem Tryz.arr75 : (Tryz.prog.info? 75).map (·.size) = some 16 := by kernel_rfl
theorem carry_any (zs : List Int) (B : Int) (w : World) (hl : zs.length = 16) (hB : ∀ z ∈ zs, -B ≤ z ∧ z ≤ B) (hB0 : 0 ≤ B) (hB1 : B ≤ 576460752303423488) :
  Calls Tryz.prog 84 #[.agg (ints .i64 zs).toArray] w fun e w' => ∃ zs' : List Int, e = .returned (.agg (ints .i64 zs').toArray) ∧ CZ zs zs' B ∧ Below w.heap.size w w' := by
 have HS := jh (CY.start hl hB hB0)
 have hbl0 := jh (Blk.made w (ints .i64 zs) 75)
 clear hl hB
 go_enter Tryz.func84, Tryz.ntmps84
 go_wp2_with fail
 generalize hz : (#[Value.int .i64 0, .int .i64 0, .int .i64 0, .int .i64 0, .int .i64 0, .int .i64 0, .int .i64 0, .int .i64 0, .int .i64 0, .int .i64 0, .int .i64 0, .int .i64 0, .int .i64 0, .int .i64 0, .int .i64 0, .int .i64 0] : Array Value) = Z
 have HZ : Hid (Z = (ints .i64 (List.replicate 16 0)).toArray) := jh (by rw [← hz]; rfl)
 clear hz
 obtain ⟨A, hA⟩ : ∃ A, A = w.heap.size := ⟨_, rfl⟩
 have h1 : Blk ((w.alloc (.cells (ints .i64 zs).toArray 75)).alloc (.cells Z 75)) A (ints .i64 zs) 75 := by
  rw [hA]
  exact hbl0.out.alloc _
 have h2 : Blk ((w.alloc (.cells (ints .i64 zs).toArray 75)).alloc (.cells Z 75)) (A + 1) (ints .i64 (List.replicate 16 0)) 75 := by
  rw [HZ.out]
  have := Blk.made (w.alloc (.cells (ints .i64 zs).toArray 75)) (ints .i64 (List.replicate 16 0)) 75
  rw [hA]
  simpa using this
 have h3 : Below w.heap.size w ((w.alloc (.cells (ints .i64 zs).toArray 75)).alloc (.cells Z 75)) := ((Below.refl _ _).alloc (Nat.le_refl _) _).alloc (by simp) _
 have hA2 : w.heap.size ≤ A := by omega
 rw [← hA]
 generalize (w.alloc (.cells (ints .i64 zs).toArray 75)).alloc (.cells Z 75) = w0 at *
 have H1 := jh h1
 have H2 := jh h2
 have H3 := jh h3
 clear h1 h2 h3 hA HZ
 go_loopw [3] (fun i wr => ∃ (k : Nat) (zs' : List Int), k ≤ 16 ∧ i = .int .i64 k ∧ CS zs zs' B k ∧ Blk wr A (ints .i64 zs') 75 ∧ Blk wr (A + 1) (ints .i64 (List.replicate 16 0)) 75 ∧ Below w.heap.size w wr) (fun i _ => 16 - (intOf i).toNat)
 case atStart => exact ⟨0, zs, by omega, rfl, Or.inl ⟨by omega, HS.out⟩, H1.out, H2.out, H3.out⟩
 case round =>
  clear HS H1 H2 H3 hbl0
  obtain ⟨k, zs', hk, rfl, hcs, hb1, hb2, hbel⟩ := hrel
  have i0' : (0 : Int) ≤ (k : Int) := Int.natCast_nonneg _
  rcases hcs with ⟨hk15, hcy⟩ | ⟨rfl, hcz⟩
  ·have hl16 := hcy.len
   have hh := hcy.here
   have ck := hb1.cell k
   rw [zav (by omega)] at ck
   have fk := hb1.free k
   by_cases hlt : k < 15
   ·have hh2 := hcy.high (k + 1) (by omega) (by omega)
    have ck2 := hb1.cell (k + 1)
    rw [zav (by omega)] at ck2
    have fk2 := hb1.free (k + 1)
    have hst := hcy.step hlt hB0
    generalize zs'.getD k 0 = x at *
    generalize zs'.getD (k + 1) 0 = y at *
    have HST := jh hst
    have HB1 := jh hb1
    have HB2 := jh hb2
    have HBE := jh hbel
    clear hcy hst hb1 hb2 hbel hl16
    go_wp2_with fail
    go_roundw
    case rel =>
     refine ⟨k + 1, _, by omega, by go_num, Or.inl ⟨by omega, HST.out⟩, ?_, (HB2.out.far (by simp) _).far (by simp) _, (HBE.out.setCell hA2 _).setCell hA2 _⟩
     rw [← zcc, ← zcc]
     exact (HB1.out.set k _).set (k + 1) _
    case measure => simp [intOf]; omega
   ·have hk' : k = 15 := by omega
    subst hk'
    have hh2 := hcy.low 0 (by omega)
    have ck2 := hb1.cell 0
    rw [zav (by omega)] at ck2
    have fk2 := hb1.free 0
    have hst := hcy.last hB0
    generalize zs'.getD 15 0 = x at *
    generalize zs'.getD 0 0 = y at *
    have HST := jh hst
    have HB1 := jh hb1
    have HB2 := jh hb2
    have HBE := jh hbel
    clear hcy hst hb1 hb2 hbel hl16
    go_wp2_with fail
    go_roundw
    case rel =>
     refine ⟨16, _, by omega, by go_num, Or.inr ⟨rfl, HST.out⟩, ?_, (HB2.out.far (by simp) _).far (by simp) _, (HBE.out.setCell hA2 _).setCell hA2 _⟩
     rw [← zcc, ← zcc]
     exact (HB1.out.set 15 _).set 0 _
    case measure => simp [intOf]
  ·have HB1 := jh hb1
   have HB2 := jh hb2
   have HBE := jh hbel
   have HCZ := jh hcz
   have hi1 : Hid ((Tryz.prog.info? 75).map (·.size) = some (ints .i64 zs').length) := jh (by rw [zad, hcz.len]; exact Tryz.arr75)
   have hl1 : Hid ((ints .i64 zs').length = (ints .i64 (List.replicate 16 0)).length) := jh (by rw [zad, zad, hcz.len]; rfl)
   clear hb1 hb2 hbel hcz
   go_wp2_with (first | (refine zab rfl _ _ rfl A rfl _ _ _ _ HB1.out Tryz.underlying75 hi1.out ?_) | (refine zac rfl _ _ _ rfl (A + 1) _ rfl rfl _ _ HB2.out hl1.out hi1.out (zai _ _) ?_; intro w5 hb5 hg5))
   exact bodyPost_ret (v := .agg (ints .i64 zs').toArray) (zap (by rfl) _ (A + 1) _ _ _ _ (by rfl) hb5 Tryz.underlying75 hi1.out) rfl ⟨zs', rfl, HCZ.out, HBE.out.grown hg5 HBE.out.size (fun r hr => by cases hr; omega)⟩
/-- in: the digits of a Num. -/
theorem rin_any (l : List UInt8) (w : World) (hl : l.length = 32) :
  Calls Tryz.prog 48 #[.agg (l.map bval).toArray] w fun e w' => ∃ zs : List Int, e = .returned (.agg (ints .i64 zs).toArray) ∧ zs.length = 16 ∧ (∀ z ∈ zs, 0 ≤ z ∧ z ≤ 65535) ∧ dV zs = leN l ∧ Below w.heap.size w w' := by
 have HL := jh hl
 have hbx := boxes3 w (l.map bval) (ints .i64 (List.replicate 16 0)) (ints .i64 (List.replicate 16 0)) 23 75 75
 have HBX := jh hbx
 clear hl hbx
 go_enter Tryz.func48, Tryz.ntmps48
 go_wp2_with fail
 change Code.wp _ _ _ _ (((w.alloc (.cells (l.map bval).toArray 23)).alloc (.cells (ints .i64 (List.replicate 16 0)).toArray 75)).alloc (.cells (ints .i64 (List.replicate 16 0)).toArray 75))
 generalize ((w.alloc (.cells (l.map bval).toArray 23)).alloc (.cells (ints .i64 (List.replicate 16 0)).toArray 75)).alloc (.cells (ints .i64 (List.replicate 16 0)).toArray 75) = w0 at *
 obtain ⟨h1, h2, h3, h4⟩ := HBX.out
 obtain ⟨A, hA⟩ : ∃ A, A = w.heap.size := ⟨_, rfl⟩
 rw [← hA] at h1 h2 h3 ⊢
 have hA2 : w.heap.size ≤ A := by omega
 have H1 := jh h1
 have H2 := jh h2
 have H3 := jh h3
 have H4 := jh h4
 clear h1 h2 h3 h4 HBX hA
 go_loopw [4] (fun i wr => ∃ (k : Nat) (zs : List Int), k ≤ 16 ∧ i = .int .i64 k ∧ InS l zs k ∧ Blk wr A (l.map bval) 23 ∧ Blk wr (A + 1) (ints .i64 (List.replicate 16 0)) 75 ∧ Blk wr (A + 1 + 1) (ints .i64 zs) 75 ∧ Below w.heap.size w wr) (fun i _ => 16 - (intOf i).toNat)
 case atStart => exact ⟨0, _, by omega, rfl, ⟨rfl, fun i hi => by omega⟩, H1.out, H2.out, H3.out, H4.out⟩
 case round =>
  clear H1 H2 H3 H4
  obtain ⟨k, zs, hk, rfl, hin, hb1, hb2, hb3, hbel⟩ := hrel
  have i0' : (0 : Int) ≤ (k : Int) := Int.natCast_nonneg _
  have hl16 := hin.len
  by_cases hlt : k < 16
  ·have hl := HL.out
   have e1 := hb1.cell (2 * k)
   rw [zbb (by omega)] at e1
   have e2 := hb1.cell (2 * k + 1)
   rw [zbb (by omega)] at e2
   have e3 := hb3.cell k
   rw [zav (by omega)] at e3
   have fk := hb3.free k
   have i1 : (k : Int) < 16 := by omega
   have s1 : IntKind.i64.wrap (2 * (k : Int)) = 2 * k := IntWalk.i64_in _ (by omega)
   have s2 : IntKind.i64.wrap (2 * (k : Int) + 1) = 2 * k + 1 := IntWalk.i64_in _ (by omega)
   have s3 : (2 * (k : Int)).toNat = 2 * k := by omega
   have s4 : (2 * (k : Int) + 1).toNat = 2 * k + 1 := by omega
   have s5 : (0 : Int) ≤ 2 * (k : Int) := by omega
   have s6 : (0 : Int) ≤ 2 * (k : Int) + 1 := by omega
   have s7 : 2 * (k : Int) < 32 := by omega
   have s8 : 2 * (k : Int) + 1 < 32 := by omega
   have hx := (l.getD (2 * k) 0).toNat_lt
   have hy := (l.getD (2 * k + 1) 0).toNat_lt
   have hor := or8 (l.getD (2 * k) 0).toNat (l.getD (2 * k + 1) 0).toNat (by simpa using hx) (by simpa using hy)
   have hst := hin.step hlt
   have hpa : pairAt l k = (l.getD (2 * k) 0).toNat + 256 * ((l.getD (2 * k + 1) 0).toNat : Int) := rfl
   rw [hpa, ← hor] at hst
   generalize (l.getD (2 * k) 0).toNat = x at *
   generalize (l.getD (2 * k + 1) 0).toNat = y at *
   have hy2 : y < 256 := by simpa using hy
   have hx2 : x < 256 := by simpa using hx
   have W1 : Hid (wrap64 (x : Int) = x) := jh (by rw [← IntWalk.i64_left]; exact IntWalk.i64_in _ (by omega))
   have W2 : Hid (wrap64 (y : Int) = y) := jh (by rw [← IntWalk.i64_left]; exact IntWalk.i64_in _ (by omega))
   have W3 : Hid (wrap64 ((y : Int) * 256) = y * 256) := jh (by rw [← IntWalk.i64_left]; exact IntWalk.i64_in _ (by omega))
   have HST := jh hst
   have HB1 := jh hb1
   have HB2 := jh hb2
   have HB3 := jh hb3
   have HBE := jh hbel
   clear hin hst hb1 hb2 hb3 hbel hl16 hl hor hpa hx hy hx2 hy2
   go_wp2_with fail
   go_region
   go_wp2_with fail
   go_roundw
   case rel =>
    rw [W1.out, W2.out, W3.out]
    refine ⟨k + 1, _, by omega, by go_num, HST.out, HB1.out.far (by simp; omega) _, HB2.out.far (by simp) _, ?_, (HBE.out.setCell (by simp; omega) _).drew⟩
    rw [← zcc]
    exact HB3.out.set k _
   case measure => simp [intOf]; omega
  ·have hk' : k = 16 := by omega
   subst hk'
   have HB2 := jh hb2
   have HB3 := jh hb3
   have HBE := jh hbel
   have HIN := jh hin
   have hi1 : Hid ((Tryz.prog.info? 75).map (·.size) = some (ints .i64 zs).length) := jh (by rw [zad, hin.len]; exact Tryz.arr75)
   have hl1 : Hid ((ints .i64 zs).length = (ints .i64 (List.replicate 16 0)).length) := jh (by rw [zad, zad, hin.len]; rfl)
   clear hb1 hb2 hb3 hbel hin hl16
   go_wp2_with (first | (refine zab rfl _ _ rfl (A + 1 + 1) rfl _ _ _ _ HB3.out Tryz.underlying75 hi1.out ?_) | (refine zac rfl _ _ _ rfl (A + 1) _ rfl rfl _ _ HB2.out hl1.out hi1.out (zai _ _) ?_; intro w5 hb5 hg5))
   obtain ⟨q1, q2⟩ := HIN.out.done HL.out
   exact bodyPost_ret (v := .agg (ints .i64 zs).toArray) (zap (by rfl) _ (A + 1) _ _ _ _ (by rfl) hb5 Tryz.underlying75 hi1.out) rfl ⟨zs, rfl, HIN.out.len, q1, q2, HBE.out.grown hg5 HBE.out.size (fun r hr => by cases hr; omega)⟩
theorem rsub_any (u v : Value) (x y : Int) (w : World) (hu : IsEl u x) (hv : IsEl v y) :
  Calls Tryz.prog 52 #[u, v] w fun e w' => ∃ r, e = .returned r ∧ IsEl r (x - y) ∧ Below w.heap.size w w' := by
 obtain ⟨xs, rfl, la, ba, qa, va⟩ := hu
 obtain ⟨ys, rfl, lb, bb, qb, vb⟩ := hv
 have HA := jh ba
 have HB := jh bb
 have LA := jh la
 have LB := jh lb
 have VA := jh va
 have VB := jh vb
 have HBX := jh (boxes3 w (ints .i64 xs) (ints .i64 ys) (ints .i64 (List.replicate 16 0)) 75 75 75)
 clear ba bb la lb va vb
 go_enter Tryz.func52, Tryz.ntmps52
 go_wp2_with fail
 change Code.wp _ _ _ _ (((w.alloc (.cells (ints .i64 xs).toArray 75)).alloc (.cells (ints .i64 ys).toArray 75)).alloc (.cells (ints .i64 (List.replicate 16 0)).toArray 75))
 generalize ((w.alloc (.cells (ints .i64 xs).toArray 75)).alloc (.cells (ints .i64 ys).toArray 75)).alloc (.cells (ints .i64 (List.replicate 16 0)).toArray 75) = w0 at *
 obtain ⟨h1, h2, h3, h4⟩ := HBX.out
 obtain ⟨A, hA⟩ : ∃ A, A = w.heap.size := ⟨_, rfl⟩
 rw [← hA] at h1 h2 h3 ⊢
 have hA2 : w.heap.size ≤ A := by omega
 have H1 := jh h1
 have H2 := jh h2
 have H3 := jh h3
 have H4 := jh h4
 clear h1 h2 h3 h4 HBX hA
 go_loopw [5] (fun i wr => ∃ (k : Nat) (zs : List Int), k ≤ 16 ∧ i = .int .i64 k ∧ SubS xs ys zs k ∧ Blk wr A (ints .i64 zs) 75 ∧ Blk wr (A + 1) (ints .i64 ys) 75 ∧ Blk wr (A + 1 + 1) (ints .i64 (List.replicate 16 0)) 75 ∧ Below w.heap.size w wr) (fun i _ => 16 - (intOf i).toNat)
 case atStart => exact ⟨0, xs, by omega, rfl, ⟨LA.out, by simp [dV], fun i _ _ => rfl, fun i hi => by omega⟩, H1.out, H2.out, H3.out, H4.out⟩
 case round =>
  clear H1 H2 H3 H4
  obtain ⟨k, zs, hk, rfl, hin, hb1, hb2, hb3, hbel⟩ := hrel
  have i0' : (0 : Int) ≤ (k : Int) := Int.natCast_nonneg _
  have hl16 := hin.len
  by_cases hlt : k < 16
  ·have e1 := hb1.cell k
   rw [zav (by omega), hin.high k (Nat.le_refl _) hlt] at e1
   have e2 := hb2.cell k
   rw [zav (by have := LB.out; omega)] at e2
   have fk := hb1.free k
   have i1 : (k : Int) < 16 := by omega
   have hst := hin.step hlt HA.out HB.out LA.out LB.out
   have b1 := zce (P := fun z => -131072 ≤ z ∧ z ≤ 131072) HA.out (i := k) (by have := LA.out; omega)
   have b2 := zce (P := fun z => -131072 ≤ z ∧ z ≤ 131072) HB.out (i := k) (by have := LB.out; omega)
   generalize xs.getD k 0 = a at *
   generalize ys.getD k 0 = b at *
   obtain ⟨b11, b12⟩ := b1
   obtain ⟨b21, b22⟩ := b2
   have W1 : Hid (wrap64 (a - b) = a - b) := jh (by rw [← IntWalk.i64_left]; exact IntWalk.i64_in _ (by omega))
   have HST := jh hst
   have HB1 := jh hb1
   have HB2 := jh hb2
   have HB3 := jh hb3
   have HBE := jh hbel
   clear hin hst hb1 hb2 hb3 hbel hl16
   go_wp2_with fail
   go_region
   go_wp2_with fail
   go_roundw
   case rel =>
    try rw [W1.out]
    refine ⟨k + 1, _, by omega, by go_num, HST.out, ?_, HB2.out.far (by simp) _, HB3.out.far (by simp; omega) _, (HBE.out.setCell (by simp; omega) _).drew⟩
    rw [← zcc]
    exact HB1.out.set k _
   case measure => simp [intOf]; omega
  ·have hk' : k = 16 := by omega
   subst hk'
   have hval := hin.val
   rw [List.take_of_length_le (by have := LB.out; omega)] at hval
   have hbd : ∀ z ∈ zs, -262144 ≤ z ∧ z ≤ 262144 := zee (P := fun z => -262144 ≤ z ∧ z ≤ 262144) hl16 (fun i hi => hin.low i hi hi)
   have HB1 := jh hb1
   have HB3 := jh hb3
   have HBE := jh hbel
   have HVAL := jh hval
   have hi1 : Hid ((Tryz.prog.info? 75).map (·.size) = some (ints .i64 zs).length) := jh (by rw [zad, hl16]; exact Tryz.arr75)
   have HC := jh (carry_any zs 262144 wr hl16 hbd (by omega) (by omega))
   clear hb1 hb2 hb3 hbel hin hl16 hval hbd
   go_wp2_with (refine zab rfl _ _ rfl A rfl _ _ _ _ HB1.out Tryz.underlying75 hi1.out ?_)
   refine HC.out.mono ?_
   rintro e w5 ⟨zs', rfl, hcz, hb5⟩
   have HB35 : Hid (Blk w5 (A + 1 + 1) (ints .i64 (List.replicate 16 0)) 75) := jh (HB3.out.same (hb5.block _ HB3.out.lt))
   have HBE5 := jh (HBE.out.trans (hb5.mono HBE.out.size))
   have hi2 : Hid ((Tryz.prog.info? 75).map (·.size) = some (ints .i64 zs').length) := jh (by rw [zad, hcz.len]; exact Tryz.arr75)
   have hl2 : Hid ((ints .i64 zs').length = (ints .i64 (List.replicate 16 0)).length) := jh (by rw [zad, zad, hcz.len]; rfl)
   have HCZ := jh hcz
   clear hb5 hcz
   go_wp2_with (refine zac rfl _ _ _ rfl (A + 1 + 1) _ rfl rfl _ _ HB35.out hl2.out hi2.out (zai _ _) ?_; intro w6 hb6 hg6)
   obtain ⟨q1, q, q2⟩ := HCZ.out.el (by omega)
   refine bodyPost_ret (v := .agg (ints .i64 zs').toArray) (zap (by rfl) _ (A + 1 + 1) _ _ _ _ (by rfl) hb6 Tryz.underlying75 hi2.out) rfl ⟨_, rfl, ⟨zs', rfl, HCZ.out.len, q1, qa - qb + q, ?_⟩, HBE5.out.grown hg6 HBE5.out.size (fun r hr => by cases hr; omega)⟩
   rw [q2, HVAL.out, VA.out, VB.out]
   grind
theorem rone_el (n : Int) (w : World) (h1 : -131072 ≤ n) (h2 : n ≤ 131072) :
  Calls Tryz.prog 49 #[.int .i64 n] w fun e w' => ∃ r, e = .returned r ∧ IsEl r n ∧ Below w.heap.size w w' := by
 have HBX := jh (boxes2 w (ints .i64 (List.replicate 16 0)) (ints .i64 (List.replicate 16 0)) 75 75)
 go_enter Tryz.func49, Tryz.ntmps49
 go_wp2_with (fail)
 refine bodyPost_ret (v := .agg (ints .i64 [n, 0, 0, 0, 0, 0, 0, 0, 0, 0, 0, 0, 0, 0, 0, 0]).toArray) ?_ rfl ⟨_, rfl, ⟨[n, 0, 0, 0, 0, 0, 0, 0, 0, 0, 0, 0, 0, 0, 0, 0], rfl, rfl, fun z hz => ?_, 0, by simp [dV]⟩, ?_⟩
 ·exact zap (by rfl) _ w.heap.size _ _ _ _ (by rfl) ((Blk.made w (ints .i64 [n, 0, 0, 0, 0, 0, 0, 0, 0, 0, 0, 0, 0, 0, 0, 0]) 75).alloc _) Tryz.underlying75 Tryz.arr75
 ·simp at hz
  omega
 ·exact ((Below.refl _ _).alloc (Nat.le_refl _) _).alloc (by simp) _
theorem rmul_any (u v : Value) (x y : Int) (w : World) (hu : IsEl u x) (hv : IsEl v y) :
  Calls Tryz.prog 51 #[u, v] w fun e w' => ∃ r, e = .returned r ∧ IsEl r (x * y) ∧ Below w.heap.size w w' := by
 obtain ⟨xs, rfl, la, ba, qa, va⟩ := hu
 obtain ⟨ys, rfl, lb, bb, qb, vb⟩ := hv
 have HA := jh ba
 have HB := jh bb
 have LA := jh la
 have LB := jh lb
 have VA := jh va
 have VB := jh vb
 have HBX := jh (boxes4 w (ints .i64 xs) (ints .i64 ys) (ints .i64 (List.replicate 16 0)) (ints .i64 (List.replicate 31 0)) 75 75 75 119)
 clear ba bb la lb va vb
 go_enter Tryz.func51, Tryz.ntmps51
 go_wp2_with fail
 change Code.wp _ _ _ _ ((((w.alloc (.cells (ints .i64 xs).toArray 75)).alloc (.cells (ints .i64 ys).toArray 75)).alloc (.cells (ints .i64 (List.replicate 16 0)).toArray 75)).alloc (.cells (ints .i64 (List.replicate 31 0)).toArray 119))
 generalize (((w.alloc (.cells (ints .i64 xs).toArray 75)).alloc (.cells (ints .i64 ys).toArray 75)).alloc (.cells (ints .i64 (List.replicate 16 0)).toArray 75)).alloc (.cells (ints .i64 (List.replicate 31 0)).toArray 119) = w0 at *
 obtain ⟨h1, h2, h3, h4, h5⟩ := HBX.out
 obtain ⟨A, hA⟩ : ∃ A, A = w.heap.size := ⟨_, rfl⟩
 rw [← hA] at h1 h2 h3 h4 ⊢
 have hA2 : w.heap.size ≤ A := by omega
 have H1 := jh h1
 have H2 := jh h2
 have H3 := jh h3
 have H4 := jh h4
 have H5 := jh h5
 clear h1 h2 h3 h4 h5 HBX hA
 go_loopw [6] (fun i wr => ∃ (k : Nat) (T : List Int), k ≤ 16 ∧ i = .int .i64 k ∧ MulS xs ys T k 0 ∧ Blk wr A (ints .i64 xs) 75 ∧ Blk wr (A + 1) (ints .i64 ys) 75 ∧ Blk wr (A + 1 + 1) (ints .i64 (List.replicate 16 0)) 75 ∧ Blk wr (A + 1 + 1 + 1) (ints .i64 T) 119 ∧ Below w.heap.size w wr) (fun i _ => 16 - (intOf i).toNat)
 case atStart => exact ⟨0, _, by omega, rfl, MulS.start, H1.out, H2.out, H3.out, H4.out, H5.out⟩
 case round =>
  clear H1 H2 H3 H4 H5
  obtain ⟨i, T0, hi, rfl, hms0, hb1, hb2, hb3, hb4, hbel⟩ := hrel
  have i0' : (0 : Int) ≤ (i : Int) := Int.natCast_nonneg _
  by_cases hlt : i < 16
  ·have i1 : (i : Int) < 16 := by omega
   have H1 := jh hb1
   have H2 := jh hb2
   have H3 := jh hb3
   have H4 := jh hb4
   have H5 := jh hbel
   have H6 := jh hms0
   clear hb1 hb2 hb3 hb4 hbel hms0
   go_wp2_with fail
   obtain ⟨wo, rfl⟩ : ∃ wo : World, wo = wr := ⟨_, rfl⟩
   go_loopw [7] (fun j wr => ∃ (k : Nat) (T : List Int), k ≤ 16 ∧ j = .int .i64 k ∧ MulS xs ys T i k ∧ Blk wr A (ints .i64 xs) 75 ∧ Blk wr (A + 1) (ints .i64 ys) 75 ∧ Blk wr (A + 1 + 1) (ints .i64 (List.replicate 16 0)) 75 ∧ Blk wr (A + 1 + 1 + 1) (ints .i64 T) 119 ∧ Below w.heap.size w wr) (fun j _ => 16 - (intOf j).toNat)
   case atStart => exact ⟨0, T0, by omega, rfl, H6.out, H1.out, H2.out, H3.out, H4.out, H5.out⟩
   case round =>
    clear H1 H2 H3 H4 H5 H6
    obtain ⟨k, T, hk, rfl, hms, hb1, hb2, hb3, hb4, hbel⟩ := hrel
    have j0' : (0 : Int) ≤ (k : Int) := Int.natCast_nonneg _
    by_cases hlt2 : k < 16
    ·have j1 : (k : Int) < 16 := by omega
     have e1 := hb1.cell i
     rw [zav (by have := LA.out; omega)] at e1
     have e2 := hb2.cell k
     rw [zav (by have := LB.out; omega)] at e2
     have e3 := hb4.cell (i + k)
     rw [zav (by have := hms.len; omega)] at e3
     have f3 := hb4.free (i + k)
     have hst := hms.step hlt hlt2 HA.out HB.out LA.out LB.out
     have b1 := zce (P := fun z => -131072 ≤ z ∧ z ≤ 131072) HA.out (i := i) (by have := LA.out; omega)
     have b2 := zce (P := fun z => -131072 ≤ z ∧ z ≤ 131072) HB.out (i := k) (by have := LB.out; omega)
     have b3 := bound_i64 (by omega) (by omega) (hms.bnd (i + k) (by omega))
     have b4 := prod_bound b1.1 b1.2 b2.1 b2.2
     generalize xs.getD i 0 = a at *
     generalize ys.getD k 0 = b at *
     generalize T.getD (i + k) 0 = t at *
     obtain ⟨b31, b32⟩ := b3
     obtain ⟨b41, b42⟩ := b4
     have s1 : IntKind.i64.wrap ((i : Int) + (k : Int)) = (i : Int) + k := IntWalk.i64_in _ (by omega)
     have s2 : ((i : Int) + (k : Int)).toNat = i + k := by omega
     have s3 : (0 : Int) ≤ (i : Int) + (k : Int) := by omega
     have s4 : (i : Int) + (k : Int) < 31 := by omega
     have W1 : Hid (wrap64 (a * b) = a * b) := jh (by rw [← IntWalk.i64_left]; exact IntWalk.i64_in _ (by omega))
     have W2 : Hid (wrap64 (t + a * b) = t + a * b) := jh (by rw [← IntWalk.i64_left]; exact IntWalk.i64_in _ (by omega))
     have HST := jh hst
     have H1 := jh hb1
     have H2 := jh hb2
     have H3 := jh hb3
     have H4 := jh hb4
     have H5 := jh hbel
     clear hb1 hb2 hb3 hb4 hbel hst hms b1 b2 b31 b32 b41 b42
     go_wp2_with fail
     go_region
     go_wp2_with fail
     go_roundw
     case rel =>
      rw [W1.out, W2.out]
      refine ⟨k + 1, _, by omega, by go_num, HST.out, H1.out.far (by simp; omega) _, H2.out.far (by simp; omega) _, H3.out.far (by simp) _, ?_, (H5.out.setCell (by simp; omega) _).drew⟩
      rw [← zcc]
      exact H4.out.set (i + k) _
     case measure => simp [intOf]; omega
    ·have hk' : k = 16 := by omega
     subst hk'
     have hnx := hms.next hlt LA.out LB.out
     have H1 := jh hb1
     have H2 := jh hb2
     have H3 := jh hb3
     have H4 := jh hb4
     have H5 := jh hbel
     have HNX := jh hnx
     clear hb1 hb2 hb3 hb4 hbel hms hnx
     go_wp2_with fail
     go_roundw
     case rel => exact ⟨i + 1, T, by omega, by go_num, HNX.out, H1.out, H2.out, H3.out, H4.out, H5.out⟩
     case measure => simp [intOf]; omega
  ·have hi' : i = 16 := by omega
   subst hi'
   have hT31 := hms0.len
   have hTb : ∀ j, j < 31 → -4672924418048 ≤ T0.getD j 0 ∧ T0.getD j 0 ≤ 4672924418048 := fun j hj => bound_i64 (i := 16) (k := 0) (by omega) (by omega) (hms0.bnd j hj)
   have hTv := hms0.val
   rw [List.take_of_length_le (l := xs) (by have := LA.out; omega), List.take_zero] at hTv
   simp only [dV, Int.mul_zero, Int.zero_mul, Int.add_zero] at hTv
   have HT31 := jh hT31
   have HTB := jh hTb
   have HTV := jh hTv
   obtain ⟨O, hO⟩ : ∃ O, O = wr.heap.size := ⟨_, rfl⟩
   have hO4 : A + 1 + 1 + 1 < O := by have := hb4.lt; omega
   have HO0 := jh (Blk.made wr (ints .i64 (List.replicate 16 0)) 75)
   rw [← hO] at HO0
   have H3 := jh (hb3.alloc (.cells (ints .i64 (List.replicate 16 0)).toArray 75))
   have H4 := jh (hb4.alloc (.cells (ints .i64 (List.replicate 16 0)).toArray 75))
   have H5 := jh (hbel.alloc hbel.size (.cells (ints .i64 (List.replicate 16 0)).toArray 75))
   clear hb1 hb2 hb3 hb4 hbel hms0 hT31 hTb hTv
   go_wp2_with fail
   rw [← hO]
   change Code.wp _ _ _ _ (wr.alloc (.cells (ints .i64 (List.replicate 16 0)).toArray 75))
   generalize wr.alloc (.cells (ints .i64 (List.replicate 16 0)).toArray 75) = w2 at *
   clear hO
   obtain ⟨wo, rfl⟩ : ∃ wo : World, wo = wr := ⟨_, rfl⟩
   go_loopw [9] (fun j wr => ∃ (k : Nat) (o : List Int), k ≤ 16 ∧ j = .int .i64 k ∧ OutS T0 o k ∧ Blk wr (A + 1 + 1) (ints .i64 (List.replicate 16 0)) 75 ∧ Blk wr (A + 1 + 1 + 1) (ints .i64 T0) 119 ∧ Blk wr O (ints .i64 o) 75 ∧ Below w.heap.size w wr) (fun j _ => 16 - (intOf j).toNat)
   case atStart => exact ⟨0, _, by omega, rfl, ⟨rfl, fun j hj => by omega⟩, H3.out, H4.out, HO0.out, H5.out⟩
   case round =>
    clear H3 H4 H5 HO0
    obtain ⟨k, o, hk, rfl, hos, hb3, hb4, hbo, hbel⟩ := hrel
    have j0' : (0 : Int) ≤ (k : Int) := Int.natCast_nonneg _
    have ho16 := hos.len
    by_cases hlt2 : k < 16
    ·have j1 : (k : Int) < 16 := by omega
     have e1 := hb4.cell k
     rw [zav (by have := HT31.out; omega)] at e1
     have e2 := hbo.cell k
     rw [zav (by omega)] at e2
     have f2 := hbo.free k
     have b1 := HTB.out k (by omega)
     by_cases h15 : k < 15
     ·have e3 := hb4.cell (k + 16)
      rw [zav (by have := HT31.out; omega)] at e3
      have b2 := HTB.out (k + 16) (by omega)
      have hst := hos.step1 h15
      generalize T0.getD k 0 = a at *
      generalize T0.getD (k + 16) 0 = b at *
      obtain ⟨b11, b12⟩ := b1
      obtain ⟨b21, b22⟩ := b2
      have s1 : IntKind.i64.wrap ((k : Int) + 16) = (k : Int) + 16 := IntWalk.i64_in _ (by omega)
      have s2 : ((k : Int) + 16).toNat = k + 16 := by omega
      have s3 : (0 : Int) ≤ (k : Int) + 16 := by omega
      have s4 : (k : Int) + 16 < 31 := by omega
      have j2 : (k : Int) < 15 := by omega
      have W1 : Hid (wrap64 (38 * b) = 38 * b) := jh (by rw [← IntWalk.i64_left]; exact IntWalk.i64_in _ (by omega))
      have W2 : Hid (wrap64 (a + 38 * b) = a + 38 * b) := jh (by rw [← IntWalk.i64_left]; exact IntWalk.i64_in _ (by omega))
      have HST := jh hst
      have H3 := jh hb3
      have H4 := jh hb4
      have H5 := jh hbel
      have HO := jh hbo
      clear hb3 hb4 hbo hbel hst hos b11 b12 b21 b22 ho16
      go_wp2_with fail
      go_region
      go_wp2_with fail
      go_roundw
      case rel =>
       rw [W1.out, W2.out]
       refine ⟨k + 1, _, by omega, by go_num, HST.out, (H3.out.far (by simp; omega) _).far (by simp; omega) _, (H4.out.far (by simp; omega) _).far (by simp; omega) _, ?_, ((H5.out.setCell (by simp; omega) _).setCell (by simp; omega) _).drew⟩
       rw [← zcc, ← zcc]
       exact (HO.out.set k _).set k _
      case measure => simp [intOf]; omega
     ·have hk15 : k = 15 := by omega
      subst hk15
      have hst := hos.step2
      generalize T0.getD 15 0 = a at *
      have HST := jh hst
      have H3 := jh hb3
      have H4 := jh hb4
      have H5 := jh hbel
      have HO := jh hbo
      clear hb3 hb4 hbo hbel hst hos b1 ho16
      go_wp2_with fail
      go_roundw
      case rel =>
       refine ⟨16, _, by omega, by go_num, HST.out, H3.out.far (by simp; omega) _, H4.out.far (by simp; omega) _, ?_, H5.out.setCell (by simp; omega) _⟩
       rw [← zcc]
       exact HO.out.set 15 _
      case measure => simp [intOf]
    ·have hk' : k = 16 := by omega
     subst hk'
     have hdone := hos.done HT31.out
     have hbd := hos.bnd HTB.out
     have H3 := jh hb3
     have H5 := jh hbel
     have HO := jh hbo
     have HD := jh hdone
     have hi1 : Hid ((Tryz.prog.info? 75).map (·.size) = some (ints .i64 o).length) := jh (by rw [zad, ho16]; exact Tryz.arr75)
     have HC := jh (carry_any o 281474976710656 wr ho16 hbd (by omega) (by omega))
     clear hb3 hb4 hbo hbel hos ho16 hdone hbd
     go_wp2_with (refine zab rfl _ _ rfl O rfl _ _ _ _ HO.out Tryz.underlying75 hi1.out ?_)
     refine HC.out.mono ?_
     rintro e w5 ⟨z1, rfl, hz1, hb5⟩
     have hn1 := hz1.near (by omega)
     have hbz1 : ∀ z ∈ z1, -1099511627776 ≤ z ∧ z ≤ 1099511627776 := zee (P := fun z => -1099511627776 ≤ z ∧ z ≤ 1099511627776) hz1.len (fun i hi => by
      obtain ⟨_, ⟨c, c1, c2, _, c4, c5⟩, h3⟩ := hz1
      rcases Nat.eq_zero_or_pos i with rfl | h0
      ·omega
      ·have := h3 i h0 hi
       omega)
     have HC2 := jh (carry_any z1 1099511627776 w5 hz1.len hbz1 (by omega) (by omega))
     have H35 := jh (H3.out.same (hb5.block _ H3.out.lt))
     have H55 := jh (H5.out.trans (hb5.mono H5.out.size))
     have HZ1 := jh hz1
     have HN1 := jh hn1
     clear hb5 hz1 hn1 hbz1
     go_wp2_with fail
     refine HC2.out.mono ?_
     rintro e w6 ⟨z2, rfl, hz2, hb6⟩
     have H36 := jh (H35.out.same (hb6.block _ H35.out.lt))
     have H56 := jh (H55.out.trans (hb6.mono H55.out.size))
     have hi2 : Hid ((Tryz.prog.info? 75).map (·.size) = some (ints .i64 z2).length) := jh (by rw [zad, hz2.len]; exact Tryz.arr75)
     have hl2 : Hid ((ints .i64 z2).length = (ints .i64 (List.replicate 16 0)).length) := jh (by rw [zad, zad, hz2.len]; rfl)
     have HZ2 := jh hz2
     clear hb6 hz2
     go_wp2_with (refine zac rfl _ _ _ rfl (A + 1 + 1) _ rfl rfl _ _ H36.out hl2.out hi2.out (zai _ _) ?_; intro w7 hb7 hg7)
     obtain ⟨_, ⟨c1, _, _, v1, _, _⟩, _⟩ := HZ1.out
     obtain ⟨hlen2, ⟨c2, _, _, v2, _, _⟩, _⟩ := id HZ2.out
     refine bodyPost_ret (v := .agg (ints .i64 z2).toArray) (zap (by rfl) _ (A + 1 + 1) _ _ _ _ (by rfl) hb7 Tryz.underlying75 hi2.out) rfl ⟨_, rfl, ⟨z2, rfl, hlen2, fun z hz => ?_, qa * y + qb * x + qa * qb * pP - 2 * dV (T0.drop 16) - 2 * c1 - 2 * c2, ?_⟩, H56.out.grown hg7 H56.out.size (fun r hr => by cases hr; omega)⟩
     ·have := HZ2.out.sharp (E := 1152921504606846976) (by omega) (by omega) (by have := HN1.out.1; omega) (by have := HN1.out.2; omega) z hz
      omega
     ·rw [v2, v1, HD.out, HTV.out, VA.out, VB.out, bigM_p]
      grind
theorem rout_any (v : Value) (x : Int) (w : World) (hv : IsEl v x) :
  Calls Tryz.prog 53 #[v] w fun e w' => e = .returned (.agg ((bytesN 32 (x % pP).toNat).map bval).toArray) ∧ Below w.heap.size w w' := by
 obtain ⟨xs, rfl, la, ba, qa, va⟩ := hv
 have LA := jh la
 have VA := jh va
 have HBX := jh (boxes2 w (ints .i64 xs) (ints .u8 (List.replicate 32 0)) 75 23)
 have hi0 : Hid ((Tryz.prog.info? 75).map (·.size) = some (ints .i64 xs).length) := jh (by rw [zad, la]; exact Tryz.arr75)
 have HC := jh (carry_any xs 131072 ((w.alloc (.cells (ints .i64 xs).toArray 75)).alloc (.cells (ints .u8 (List.replicate 32 0)).toArray 23)) la ba (by omega) (by omega))
 have BA := jh ba
 clear la ba va
 go_enter Tryz.func53, Tryz.ntmps53
 go_wp2_with (refine zab rfl _ _ rfl w.heap.size rfl _ _ _ _ HBX.out.1 Tryz.underlying75 hi0.out ?_)
 change Calls _ _ _ ((w.alloc (.cells (ints .i64 xs).toArray 75)).alloc (.cells (ints .u8 (List.replicate 32 0)).toArray 23)) _
 generalize (w.alloc (.cells (ints .i64 xs).toArray 75)).alloc (.cells (ints .u8 (List.replicate 32 0)).toArray 23) = w0 at *
 obtain ⟨h1, h2, h3⟩ := HBX.out
 obtain ⟨A, hA⟩ : ∃ A, A = w.heap.size := ⟨_, rfl⟩
 rw [← hA] at h1 h2 ⊢
 have hA2 : w.heap.size ≤ A := by omega
 have H1 := jh h1
 have H2 := jh h2
 have H3 := jh h3
 clear h1 h2 h3 HBX hA
 refine HC.out.mono ?_
 rintro e w1 ⟨z1, rfl, hz1, hb1⟩
 have HC1 := jh (carry_any z1 131072 w1 hz1.len (hz1.el (by omega)).1 (by omega) (by omega))
 have HZ1 := jh hz1
 have HB1 := jh hb1
 clear hz1 hb1
 go_wp2_with fail
 refine HC1.out.mono ?_
 rintro e w2 ⟨z2, rfl, hz2, hb2⟩
 have HC2 := jh (carry_any z2 131072 w2 hz2.len (hz2.el (by omega)).1 (by omega) (by omega))
 have HZ2 := jh hz2
 have HB2 := jh (HB1.out.trans (hb2.mono HB1.out.size))
 clear hz2 hb2
 go_wp2_with fail
 refine HC2.out.mono ?_
 rintro e w3 ⟨z3, rfl, hz3, hb3⟩
 have HC3 := jh (carry_any z3 131072 w3 hz3.len (hz3.el (by omega)).1 (by omega) (by omega))
 have HZ3 := jh hz3
 have HB3 := jh (HB2.out.trans (hb3.mono HB2.out.size))
 clear hz3 hb3
 go_wp2_with fail
 refine HC3.out.mono ?_
 rintro e w4 ⟨z4, rfl, hz4, hb4⟩
 have hbB := HB3.out.trans (hb4.mono HB3.out.size)
 have hOR := OutR.start VA.out HZ1.out HZ2.out HZ3.out hz4
 have H14 := jh (H1.out.same (hbB.block _ H1.out.lt))
 have H24 := jh (H2.out.same (hbB.block _ H2.out.lt))
 have H34 := jh (H3.out.trans (hbB.mono H3.out.size))
 have hi4 : Hid ((Tryz.prog.info? 75).map (·.size) = some (ints .i64 z4).length) := jh (by rw [zad, hz4.len]; exact Tryz.arr75)
 have hl4 : Hid ((ints .i64 z4).length = (ints .i64 xs).length) := jh (by rw [zad, zad, hz4.len, LA.out])
 have HOR := jh hOR
 clear hz4 hb4 hbB hOR
 go_wp2_with (refine zac rfl _ _ _ rfl A _ rfl rfl _ _ H14.out hl4.out hi4.out (zai _ _) ?_; intro w5 hb5 hg5)
 have H15 := jh hb5
 have H25 := jh (H24.out.grown hg5 (by simp))
 have H35 := jh (H34.out.grown hg5 H34.out.size (fun r hr => by cases hr; omega))
 clear hb5 hg5
 go_loopw [3] (fun i wr => ∃ (k : Nat) (zs : List Int), k ≤ 3 ∧ i = .int .i64 k ∧ OutR x zs k ∧ Blk wr A (ints .i64 zs) 75 ∧ Blk wr (A + 1) (ints .u8 (List.replicate 32 0)) 23 ∧ Below w.heap.size w wr) (fun i _ => 3 - (intOf i).toNat)
 case atStart => exact ⟨0, z4, by omega, rfl, HOR.out, H15.out, H25.out, H35.out⟩
 case round =>
  clear H1 H2 H3 HC HB1 HB2 HB3 HZ1 HZ2 HZ3 H14 H24 H34 H15 H25 H35 HC1 HC2 HC3 hi4 hl4 HOR hi0 VA LA BA
  obtain ⟨k, zs, hk, rfl, hor, hb1, hb2, hbel⟩ := hrel
  have i0' : (0 : Int) ≤ (k : Int) := Int.natCast_nonneg _
  by_cases hlt : k < 3
  ·have i1 : (k : Int) < 3 := by omega
   obtain ⟨M, hM⟩ : ∃ M, M = wr.heap.size := ⟨_, rfl⟩
   have hMA : A + 1 < M := by have := hb2.lt; omega
   have hmk := Blk.made wr (ints .i64 ((List.replicate 16 0).set 0 (zs.getD 0 0 - 65517))) 75
   rw [← hM] at hmk
   have e0 : (wr.alloc (.cells #[.int .i64 0, .int .i64 0, .int .i64 0, .int .i64 0, .int .i64 0, .int .i64 0, .int .i64 0, .int .i64 0, .int .i64 0, .int .i64 0, .int .i64 0, .int .i64 0, .int .i64 0, .int .i64 0, .int .i64 0, .int .i64 0] 75)).cell? ⟨A, 0, none⟩ = some (.int .i64 (zs.getD 0 0)) := by
    have := (hb1.alloc (.cells (ints .i64 (List.replicate 16 0)).toArray 75)).cell 0
    rw [zav (by have := hor.len; omega)] at this
    exact this
   have d0 := hor.dig 0 (by omega)
   have hst := SubP.start (m := List.replicate 16 0) rfl hor.len d0
   have H1 := jh (hb1.alloc (.cells (ints .i64 ((List.replicate 16 0).set 0 (zs.getD 0 0 - 65517))).toArray 75))
   have H2 := jh (hb2.alloc (.cells (ints .i64 ((List.replicate 16 0).set 0 (zs.getD 0 0 - 65517))).toArray 75))
   have H3 := jh (hbel.alloc hbel.size (.cells (ints .i64 ((List.replicate 16 0).set 0 (zs.getD 0 0 - 65517))).toArray 75))
   have H4 := jh hmk
   have HST := jh hst
   have HOR := jh hor
   generalize zs.getD 0 0 = a0 at *
   clear hb1 hb2 hbel hmk hst hor
   go_wp2_with fail
   rw [← hM]
   change Code.wp _ _ _ _ (wr.alloc (.cells (ints .i64 ((List.replicate 16 0).set 0 (a0 - 65517))).toArray 75))
   generalize wr.alloc (.cells (ints .i64 ((List.replicate 16 0).set 0 (a0 - 65517))).toArray 75) = w6 at *
   clear hM e0 d0
   obtain ⟨wo, rfl⟩ : ∃ wo : World, wo = wr := ⟨_, rfl⟩
   go_loopw [5] (fun i wr => ∃ (j : Nat) (ms : List Int), j ≤ 14 ∧ i = .int .i64 ((j + 1 : Nat) : Int) ∧ SubP zs ms j ∧ Blk wr A (ints .i64 zs) 75 ∧ Blk wr (A + 1) (ints .u8 (List.replicate 32 0)) 23 ∧ Blk wr M (ints .i64 ms) 75 ∧ Below w.heap.size w wr) (fun i _ => 16 - (intOf i).toNat)
   case atStart => exact ⟨0, _, by omega, rfl, HST.out, H1.out, H2.out, H4.out, H3.out⟩
   case round =>
    clear H1 H2 H3 H4 HST
    obtain ⟨j, ms, hj, rfl, hsp, hb1, hb2, hbm, hbel⟩ := hrel
    have hz16 := HOR.out.len
    have hm16 := hsp.len
    have j0' : (0 : Int) ≤ (j : Int) := Int.natCast_nonneg _
    by_cases hlt2 : j < 14
    ·have e1 := hb1.cell (j + 1)
     rw [zav (by omega)] at e1
     have e2 := hbm.cell j
     rw [zav (by omega)] at e2
     have e3 := hbm.cell (j + 1)
     rw [zav (by omega)] at e3
     have f2 := hbm.free j
     have f3 := hbm.free (j + 1)
     have d1 := HOR.out.dig (j + 1) (by omega)
     have hpL : pL.getD (j + 1) 0 = 65535 := by
      have : ∀ j, j < 14 → pL.getD (j + 1) 0 = 65535 := by decide +kernel
      exact this j hlt2
     have hst := hsp.step (by omega) hz16 d1 hpL (by omega) (by omega)
     have ht := hsp.top
     generalize zs.getD (j + 1) 0 = a at *
     generalize ms.getD j 0 = m at *
     obtain ⟨d11, d12⟩ := d1
     obtain ⟨ht1, ht2⟩ := ht
     have s1 : IntKind.i64.wrap ((j : Int) + 1 - 1) = (j : Int) := IntWalk.i64_in _ (by omega) |>.trans (by omega)
     have s2 : ((j : Int) + 1 - 1) = (j : Int) := by omega
     have s3 : ((j : Int) + 1).toNat = j + 1 := by omega
     have s4 : (0 : Int) ≤ (j : Int) + 1 := by omega
     have s5 : (j : Int) + 1 < 16 := by omega
     have s6 : (j : Int) < 16 := by omega
     have hb01 : bits .and .i64 (m / 65536) 1 = -(m / 65536) := and1 (by omega)
     have W1 : Hid (wrap64 (a - 65535 - bits .and .i64 (m / 65536) 1) = a - 65535 - bits .and .i64 (m / 65536) 1) := jh (by rw [← IntWalk.i64_left]; exact IntWalk.i64_in _ (by rw [hb01]; omega))
     have HST := jh hst
     have H1 := jh hb1
     have H2 := jh hb2
     have H3 := jh hbel
     have H4 := jh hbm
     clear hb1 hb2 hbel hbm hst hsp hpL hz16 hm16 hb01
     go_wp2_with fail
     go_region
     go_wp2_with fail
     go_roundw
     case rel =>
      rw [W1.out]
      refine ⟨j + 1, _, by omega, by go_num, HST.out, (H1.out.far (by simp; omega) _).far (by simp; omega) _, (H2.out.far (by simp; omega) _).far (by simp; omega) _, ?_, ((H3.out.setCell (by simp; omega) _).setCell (by simp; omega) _).drew⟩
      rw [← zcc, ← zcc]
      exact (H4.out.set (j + 1) _).set j _
     case measure => simp [intOf]; omega
    ·have hj' : j = 14 := by omega
     subst hj'
     have e1 := hb1.cell 15
     rw [zav (by omega)] at e1
     have e2 := hbm.cell 14
     rw [zav (by omega)] at e2
     have e3 := hbm.cell 15
     rw [zav (by omega)] at e3
     have f2 := hbm.free 14
     have f3 := hbm.free 15
     have d1 := HOR.out.dig 15 (by omega)
     have hst := hsp.step (by omega) hz16 d1 (P := 32767) rfl (by omega) (by omega)
     have ht := hsp.top
     generalize zs.getD 15 0 = a at *
     generalize ms.getD 14 0 = m at *
     obtain ⟨d11, d12⟩ := d1
     obtain ⟨ht1, ht2⟩ := ht
     have hb01 : bits .and .i64 (m / 65536) 1 = -(m / 65536) := and1 (by omega)
     have b0 : 0 ≤ bits .and .i64 (m / 65536) 1 := by rw [hb01]; omega
     have b1 : bits .and .i64 (m / 65536) 1 ≤ 1 := by rw [hb01]; omega
     have hdone := hst.done hz16
     have hlen := hst.len
     have h15 : ((ms.set 15 (a - 32767 - bits .and .i64 (m / 65536) 1)).set 14 (bits .and .i64 m 65535)).getD 15 0 = a - 32767 - bits .and .i64 (m / 65536) 1 := by
      rw [zah (by omega), zan (by omega)]
     simp only [Nat.reduceAdd] at hdone hlen
     rw [h15] at hdone
     obtain ⟨v1, v2, v3⟩ := hdone
     have H1 := jh hb1
     have H2 := jh hb2
     have H3 := jh hbel
     have H4 := jh hbm
     have V1 := jh v1
     have V2 := jh v2
     have V3 := jh v3
     have HLEN := jh hlen
     have Z16 := jh hz16
     clear hb1 hb2 hbel hbm hst hsp hz16 hm16 hb01 h15 v1 v2 v3 hlen
     have HM2 : Hid (Blk ((wr.setCell ⟨M, 15, none⟩ (.int .i64 (a - 32767 - bits .and .i64 (m / 65536) 1))).setCell ⟨M, 14, none⟩ (.int .i64 (bits .and .i64 m 65535))) M (ints .i64 ((ms.set 15 (a - 32767 - bits .and .i64 (m / 65536) 1)).set 14 (bits .and .i64 m 65535))) 75) := jh (by
      rw [← zcc, ← zcc]
      exact (H4.out.set 15 _).set 14 _)
     have HA2 := jh ((H1.out.far (a := ⟨M, 15, none⟩) (by simp; omega) (.int .i64 (a - 32767 - bits .and .i64 (m / 65536) 1))).far (a := ⟨M, 14, none⟩) (by simp; omega) (.int .i64 (bits .and .i64 m 65535)))
     have HN2 := jh ((H2.out.far (a := ⟨M, 15, none⟩) (by simp; omega) (.int .i64 (a - 32767 - bits .and .i64 (m / 65536) 1))).far (a := ⟨M, 14, none⟩) (by simp; omega) (.int .i64 (bits .and .i64 m 65535)))
     have HBE2 : Hid (Below w.heap.size w ((wr.setCell ⟨M, 15, none⟩ (.int .i64 (a - 32767 - bits .and .i64 (m / 65536) 1))).setCell ⟨M, 14, none⟩ (.int .i64 (bits .and .i64 m 65535)))) := jh ((H3.out.setCell (by simp; omega) _).setCell (by simp; omega) _)
     have hiN : Hid ((Tryz.prog.info? 75).map (·.size) = some (ints .i64 ((ms.set 15 (a - 32767 - bits .and .i64 (m / 65536) 1)).set 14 (bits .and .i64 m 65535))).length) := jh (by rw [zad, HLEN.out]; exact Tryz.arr75)
     have hlN : Hid ((ints .i64 ((ms.set 15 (a - 32767 - bits .and .i64 (m / 65536) 1)).set 14 (bits .and .i64 m 65535))).length = (ints .i64 zs).length) := jh (by rw [zad, zad, HLEN.out, Z16.out])
     by_cases hge : 0 ≤ a - 32767 - bits .and .i64 (m / 65536) 1
     ·have hge2 : bits .and .i64 (m / 65536) 1 ≤ a - 32767 := by omega
      go_wp2_with (first | (refine zab rfl _ _ rfl M rfl _ _ _ _ HM2.out Tryz.underlying75 hiN.out ?_) | (refine zac rfl _ _ _ rfl A _ rfl rfl _ _ HA2.out hlN.out hiN.out (zai _ _) ?_; intro w7 hb7 hg7))
      go_roundw
      case rel => exact ⟨k + 1, _, by omega, by go_num, HOR.out.less hlt HLEN.out (V3.out hge) V1.out (V2.out.1 hge), hb7, HN2.out.grown hg7 (by simp), HBE2.out.grown hg7 HBE2.out.size (fun r hr => by cases hr; omega)⟩
      case measure => simp [intOf]; omega
     ·have hlt3 : a - 32767 - bits .and .i64 (m / 65536) 1 < 0 := by omega
      go_wp2_with fail
      go_roundw
      case rel => exact ⟨k + 1, zs, by omega, by go_num, HOR.out.keep hlt (fun h => hge (V2.out.2 h)), HA2.out, HN2.out, HBE2.out⟩
      case measure => simp [intOf]; omega
  ·have hk' : k = 3 := by omega
   subst hk'
   obtain ⟨N, hN⟩ : ∃ N, N = wr.heap.size := ⟨_, rfl⟩
   have hNA : A + 1 < N := by have := hb2.lt; omega
   have hmk := Blk.made wr (ints .u8 (List.replicate 32 0)) 23
   rw [← hN] at hmk
   have H1 := jh (hb1.alloc (.cells (ints .u8 (List.replicate 32 0)).toArray 23))
   have H2 := jh (hb2.alloc (.cells (ints .u8 (List.replicate 32 0)).toArray 23))
   have H3 := jh (hbel.alloc hbel.size (.cells (ints .u8 (List.replicate 32 0)).toArray 23))
   have H4 := jh hmk
   have HOR := jh hor
   clear hb1 hb2 hbel hmk hor
   go_wp2_with fail
   rw [← hN]
   change Code.wp _ _ _ _ (wr.alloc (.cells (ints .u8 (List.replicate 32 0)).toArray 23))
   generalize wr.alloc (.cells (ints .u8 (List.replicate 32 0)).toArray 23) = w6 at *
   clear hN
   obtain ⟨wo, rfl⟩ : ∃ wo : World, wo = wr := ⟨_, rfl⟩
   go_loopw [7] (fun i wr => ∃ (j : Nat) (bs : List Int), j ≤ 16 ∧ i = .int .i64 j ∧ OutB zs bs j ∧ Blk wr A (ints .i64 zs) 75 ∧ Blk wr (A + 1) (ints .u8 (List.replicate 32 0)) 23 ∧ Blk wr N (ints .u8 bs) 23 ∧ Below w.heap.size w wr) (fun i _ => 16 - (intOf i).toNat)
   case atStart => exact ⟨0, _, by omega, rfl, ⟨rfl, fun j hj => by omega⟩, H1.out, H2.out, H4.out, H3.out⟩
   case round =>
    clear H1 H2 H3 H4
    obtain ⟨j, bs, hj, rfl, hob, hb1, hb2, hbn, hbel⟩ := hrel
    have hz16 := HOR.out.len
    have hb32 := hob.len
    have j0' : (0 : Int) ≤ (j : Int) := Int.natCast_nonneg _
    by_cases hlt2 : j < 16
    ·have e1 := hb1.cell j
     rw [zav (by omega)] at e1
     have e2 := hbn.cell (2 * j)
     rw [zav (by omega)] at e2
     have e3 := hbn.cell (2 * j + 1)
     rw [zav (by omega)] at e3
     have f2 := hbn.free (2 * j)
     have f3 := hbn.free (2 * j + 1)
     have j1 : (j : Int) < 16 := by omega
     have s3 : (2 * (j : Int)).toNat = 2 * j := by omega
     have s4 : (2 * (j : Int) + 1).toNat = 2 * j + 1 := by omega
     have s5 : (0 : Int) ≤ 2 * (j : Int) := by omega
     have s6 : (0 : Int) ≤ 2 * (j : Int) + 1 := by omega
     have s7 : 2 * (j : Int) < 32 := by omega
     have s8 : 2 * (j : Int) + 1 < 32 := by omega
     have hst := hob.step hlt2
     generalize zs.getD j 0 = a at *
     have HST := jh hst
     have H1 := jh hb1
     have H2 := jh hb2
     have H3 := jh hbel
     have H4 := jh hbn
     clear hb1 hb2 hbel hbn hst hob hz16 hb32
     go_wp2_with fail
     go_roundw
     case rel =>
      refine ⟨j + 1, _, by omega, by go_num, HST.out, (H1.out.far (by simp; omega) _).far (by simp; omega) _, (H2.out.far (by simp; omega) _).far (by simp; omega) _, ?_, (H3.out.setCell (by simp; omega) _).setCell (by simp; omega) _⟩
      rw [← zcc, ← zcc]
      exact (H4.out.set (2 * j) _).set (2 * j + 1) _
     case measure => simp [intOf]; omega
    ·have hj' : j = 16 := by omega
     subst hj'
     have hfin := hob.done HOR.out
     have hi1 : Hid ((Tryz.prog.info? 23).map (·.size) = some (ints .u8 bs).length) := jh (by rw [zad, hb32]; exact Tryz.arr23)
     have hl1 : Hid ((ints .u8 bs).length = (ints .u8 (List.replicate 32 0)).length) := jh (by rw [zad, zad, hb32]; rfl)
     have H2 := jh hb2
     have H3 := jh hbel
     have H4 := jh hbn
     have HF := jh hfin
     clear hb1 hb2 hbel hbn hob hz16 hb32 hfin
     go_wp2_with (first | (refine zab rfl _ _ rfl N rfl _ _ _ _ H4.out Tryz.underlying23 hi1.out ?_) | (refine zac rfl _ _ _ rfl (A + 1) _ rfl rfl _ _ H2.out hl1.out hi1.out (zai _ _) ?_; intro w7 hb7 hg7))
     exact bodyPost_ret (v := .agg (ints .u8 bs).toArray) (zap (by rfl) _ (A + 1) _ _ _ _ (by rfl) hb7 Tryz.underlying23 hi1.out) rfl ⟨by rw [HF.out], H3.out.grown hg7 H3.out.size (fun r hr => by cases hr; omega)⟩
theorem rpow_any (u : Value) (x : Int) (l : List UInt8) (w : World) (hu : IsEl u x) (hl : l.length = 32) :
  Calls Tryz.prog 85 #[u, .agg (l.map bval).toArray] w fun e w' => ∃ r, e = .returned r ∧ IsEl r (x ^ leN l) ∧ Below w.heap.size w w' := by
 have HU := jh hu
 obtain ⟨xs, rfl, la, ba, qa, va⟩ := hu
 have HL := jh hl
 have LA := jh la
 have HBX := jh (boxes3 w (ints .i64 xs) (l.map bval) (ints .i64 (List.replicate 16 0)) 75 23 75)
 have HONE := jh (rone_el 1 (((w.alloc (.cells (ints .i64 xs).toArray 75)).alloc (.cells (l.map bval).toArray 23)).alloc (.cells (ints .i64 (List.replicate 16 0)).toArray 75)) (by omega) (by omega))
 clear la ba va hl
 go_enter Tryz.func85, Tryz.ntmps85
 go_wp2_with fail
 change Calls _ _ _ (((w.alloc (.cells (ints .i64 xs).toArray 75)).alloc (.cells (l.map bval).toArray 23)).alloc (.cells (ints .i64 (List.replicate 16 0)).toArray 75)) _
 generalize ((w.alloc (.cells (ints .i64 xs).toArray 75)).alloc (.cells (l.map bval).toArray 23)).alloc (.cells (ints .i64 (List.replicate 16 0)).toArray 75) = w0 at *
 obtain ⟨h1, h2, h3, h4⟩ := HBX.out
 obtain ⟨A, hA⟩ : ∃ A, A = w.heap.size := ⟨_, rfl⟩
 rw [← hA] at h1 h2 h3 ⊢
 have hA2 : w.heap.size ≤ A := by omega
 have H1 := jh h1
 have H2 := jh h2
 have H3 := jh h3
 have H4 := jh h4
 clear h1 h2 h3 h4 HBX hA
 refine HONE.out.mono ?_
 rintro e w1 ⟨r1, rfl, hr1, hb1⟩
 obtain ⟨z1, rfl, lz1, bz1, qz1, vz1⟩ := id hr1
 obtain ⟨X, hX⟩ : ∃ X, X = w1.heap.size := ⟨_, rfl⟩
 have h11 := H1.out.same (hb1.block _ H1.out.lt)
 have h21 := H2.out.same (hb1.block _ H2.out.lt)
 have h31 := H3.out.same (hb1.block _ H3.out.lt)
 have hXA : A + 1 + 1 < X := by have := h31.lt; omega
 have hmk := Blk.made w1 (ints .i64 (List.replicate 16 0)) 75
 have hbel := H4.out.trans (hb1.mono H4.out.size)
 have K1 := jh (h11.alloc (.cells (ints .i64 (List.replicate 16 0)).toArray 75))
 have K2 := jh (h21.alloc (.cells (ints .i64 (List.replicate 16 0)).toArray 75))
 have K3 := jh (h31.alloc (.cells (ints .i64 (List.replicate 16 0)).toArray 75))
 have K4 := jh (hbel.alloc hbel.size (.cells (ints .i64 (List.replicate 16 0)).toArray 75))
 have K5 := jh hmk
 have hi1 : Hid ((Tryz.prog.info? 75).map (·.size) = some (ints .i64 z1).length) := jh (by rw [zad, lz1]; exact Tryz.arr75)
 have hl1 : Hid ((ints .i64 z1).length = (ints .i64 (List.replicate 16 0)).length) := jh (by rw [zad, zad, lz1]; rfl)
 have HR1 := jh hr1
 clear hb1 h11 h21 h31 hmk hbel lz1 bz1 vz1 hr1
 go_wp2_with (refine zac rfl _ _ _ rfl w1.heap.size (ints .i64 z1) rfl rfl _ _ K5.out hl1.out hi1.out (zai _ _) ?_; intro w5 hb5 hg5)
 rw [← hX] at hb5 hg5 ⊢
 have J1 := jh (K1.out.grown hg5 (by simp; omega))
 have J2 := jh (K2.out.grown hg5 (by simp; omega))
 have J3 := jh (K3.out.grown hg5 (by simp; omega))
 have J4 := jh (K4.out.grown hg5 K4.out.size (fun r hr => by cases hr; omega))
 have J5 := jh hb5
 have hE : leN l < 2 ^ 256 := by
  have := leN_lt l
  rw [HL.out] at this
  have e : (256 : Nat) ^ 32 = 2 ^ 256 := by decide +kernel
  rw [e] at this
  exact this
 have HE := jh hE
 clear hb5 hg5 hX K1 K2 K3 K4 K5 H1 H2 H3 H4 hl1 hi1 HONE hE
 go_loopw [6] (fun i wr => ∃ (k : Nat) (zs : List Int), k ≤ 256 ∧ i = .int .i64 (255 - (k : Int)) ∧ IsEl (.agg (ints .i64 zs).toArray) (x ^ (leN l / 2 ^ (256 - k))) ∧ Blk wr A (ints .i64 xs) 75 ∧ Blk wr (A + 1) (l.map bval) 23 ∧ Blk wr (A + 1 + 1) (ints .i64 (List.replicate 16 0)) 75 ∧ Blk wr X (ints .i64 zs) 75 ∧ Below w.heap.size w wr) (fun i _ => (intOf i + 1).toNat)
 case atStart => exact ⟨0, z1, by omega, rfl, by rw [Nat.sub_zero, Nat.div_eq_of_lt HE.out, Int.pow_zero]; exact HR1.out, J1.out, J2.out, J3.out, J5.out, J4.out⟩
 case round =>
  clear J1 J2 J3 J4 J5 HR1
  obtain ⟨k, zs, hk, rfl, hel, hb1, hb2, hb3, hbx, hbel⟩ := hrel
  have i0' : (0 : Int) ≤ (k : Int) := Int.natCast_nonneg _
  by_cases hlt : k < 256
  ·have i1 : (0 : Int) ≤ 255 - (k : Int) := by omega
   have i2 : (k : Int) ≤ 255 := by omega
   have hsq := rmul_any _ _ _ _ wr hel hel
   have hzl : zs.length = 16 := by
    obtain ⟨zs', e, h, _⟩ := hel
    have := congrArg (fun v : Value => match v with | .agg c => c.size | _ => 0) e
    simp [ints] at this
    omega
   have e1 := hb2.cell ((255 - k) / 8)
   rw [zbb (by have := HL.out; omega)] at e1
   have H1 := jh hb1
   have H2 := jh hb2
   have H3 := jh hb3
   have HX := jh hbx
   have HB := jh hbel
   have HEL := jh hel
   have HSQ := jh hsq
   have hiz : Hid ((Tryz.prog.info? 75).map (·.size) = some (ints .i64 zs).length) := jh (by rw [zad, hzl]; exact Tryz.arr75)
   clear hb1 hb2 hb3 hbx hbel hel hsq
   go_wp2_with (refine zab rfl _ _ rfl X rfl _ _ _ _ HX.out Tryz.underlying75 hiz.out ?_)
   refine HSQ.out.mono ?_
   rintro e w6 ⟨r6, rfl, hr6, hb6⟩
   obtain ⟨z6, rfl, lz6, bz6, qz6, vz6⟩ := id hr6
   have e16 := hb6.cell (p := ⟨A + 1, (255 - k) / 8, none⟩) (H2.out.lt)
   rw [e1] at e16
   have K1 := jh (H1.out.same (hb6.block _ H1.out.lt))
   have K2 := jh (H2.out.same (hb6.block _ H2.out.lt))
   have K3 := jh (H3.out.same (hb6.block _ H3.out.lt))
   have KX := jh (HX.out.same (hb6.block _ HX.out.lt))
   have KB := jh (HB.out.trans (hb6.mono HB.out.size))
   have hi6 : Hid ((Tryz.prog.info? 75).map (·.size) = some (ints .i64 z6).length) := jh (by rw [zad, lz6]; exact Tryz.arr75)
   have hl6 : Hid ((ints .i64 z6).length = (ints .i64 zs).length) := jh (by rw [zad, zad, lz6, hzl])
   have HR6 := jh hr6
   clear hb6 lz6 bz6 vz6 hr6 e1 H1 H2 H3 HX HB hzl
   generalize hbt : (l.getD ((255 - k) / 8) 0).toNat = bt at *
   have HBT := jh hbt
   clear hbt
   have s1 : ((255 - (k : Int)) / 8).toNat = (255 - k) / 8 := by omega
   have s2 : (0 : Int) ≤ (255 - (k : Int)) / 8 := by omega
   have s3 : (255 - (k : Int)) / 8 < 32 := by omega
   have s4 : (0 : Int) ≤ (255 - (k : Int)) % 8 := by omega
   have s5 : (255 - (k : Int)) % 8 < 8 := by omega
   have hsplit := half_step (E := leN l) hlt
   have hbit := leN_bit l (255 - k) (by have := HL.out; omega)
   rw [HBT.out] at hbit
   have hcast : (bt : Int) / 2 ^ ((255 - k) % 8) = ((bt / 2 ^ ((255 - k) % 8) : Nat) : Int) := by
    rw [Int.natCast_ediv, Int.natCast_pow]
    rfl
   have e255 : 256 - (k + 1) = 255 - k := by omega
   by_cases hb1 : leN l / 2 ^ (255 - k) % 2 = 1
   ·have hq : (bits .and .u8 ((bt : Int) / 2 ^ ((255 - k) % 8)) 1 == 1) = true := by
     rw [hcast, andU1, ← hbit, hb1]
     rfl
    have hgoal : Hid (x ^ (leN l / 2 ^ (256 - (k + 1))) = x ^ (leN l / 2 ^ (256 - k)) * x ^ (leN l / 2 ^ (256 - k)) * x) := jh (by
     rw [e255, hsplit, hb1, Int.pow_succ, Nat.two_mul, Int.pow_add])
    have hiX : Hid ((Tryz.prog.info? 75).map (·.size) = some (ints .i64 xs).length) := jh (by rw [zad, LA.out]; exact Tryz.arr75)
    clear hsplit hbit hcast e255 hb1
    go_wp2_with (first | (refine zac rfl _ _ _ rfl X (ints .i64 z6) rfl rfl _ _ KX.out hl6.out hi6.out (zai _ _) ?_; intro w7 hb7 hg7; have e7 := (hg7.cell_far ⟨A + 1, (255 - k) / 8, none⟩ (K2.out.lt) (by simp; omega)).trans e16; have k7 := K1.out.grown hg7 (by simp; omega)) | (refine zab rfl _ _ rfl X rfl _ _ _ _ hb7 Tryz.underlying75 hi6.out ?_) | (refine zab rfl _ _ rfl A rfl _ _ _ _ k7 Tryz.underlying75 hiX.out ?_))
    have L2 := jh (K2.out.grown hg7 (by simp; omega))
    have L3 := jh (K3.out.grown hg7 (by simp; omega))
    have LB := jh (KB.out.grown hg7 KB.out.size (fun r hr => by cases hr; omega))
    have LX := jh hb7
    have L1 := jh k7
    have HM := jh (rmul_any _ _ _ _ w7 HR6.out HU.out)
    clear hb7 hg7 e7 k7 e16
    refine HM.out.mono ?_
    rintro e w8 ⟨r8, rfl, hr8, hb8⟩
    obtain ⟨z8, rfl, lz8, bz8, qz8, vz8⟩ := id hr8
    have M1 := jh (L1.out.same (hb8.block _ L1.out.lt))
    have M2 := jh (L2.out.same (hb8.block _ L2.out.lt))
    have M3 := jh (L3.out.same (hb8.block _ L3.out.lt))
    have MX := jh (LX.out.same (hb8.block _ LX.out.lt))
    have MB := jh (LB.out.trans (hb8.mono LB.out.size))
    have hi8 : Hid ((Tryz.prog.info? 75).map (·.size) = some (ints .i64 z8).length) := jh (by rw [zad, lz8]; exact Tryz.arr75)
    have hl8 : Hid ((ints .i64 z8).length = (ints .i64 z6).length) := jh (by rw [zad, zad, lz8, el_len HR6.out])
    have HR8 := jh hr8
    clear hb8 lz8 bz8 vz8 hr8
    go_wp2_with (refine zac rfl _ _ _ rfl X (ints .i64 z8) rfl rfl _ _ MX.out hl8.out hi8.out (zai _ _) ?_; intro w9 hb9 hg9)
    go_roundw
    case rel => exact ⟨k + 1, z8, by omega, by go_num, by rw [hgoal.out]; exact HR8.out, M1.out.grown hg9 (by simp; omega), M2.out.grown hg9 (by simp; omega), M3.out.grown hg9 (by simp; omega), hb9, MB.out.grown hg9 MB.out.size (fun r hr => by cases hr; omega)⟩
    case measure => simp [intOf]; omega
   ·have hb0 : leN l / 2 ^ (255 - k) % 2 = 0 := by omega
    have hq : (bits .and .u8 ((bt : Int) / 2 ^ ((255 - k) % 8)) 1 == 1) = false := by
     rw [hcast, andU1, ← hbit, hb0]
     rfl
    have hgoal : Hid (x ^ (leN l / 2 ^ (256 - (k + 1))) = x ^ (leN l / 2 ^ (256 - k)) * x ^ (leN l / 2 ^ (256 - k))) := jh (by
     rw [e255, hsplit, hb0, Nat.add_zero, Nat.two_mul, Int.pow_add])
    clear hsplit hbit hcast e255 hb1 hb0
    go_wp2_with (refine zac rfl _ _ _ rfl X (ints .i64 z6) rfl rfl _ _ KX.out hl6.out hi6.out (zai _ _) ?_; intro w7 hb7 hg7; have e7 := (hg7.cell_far ⟨A + 1, (255 - k) / 8, none⟩ (K2.out.lt) (by simp; omega)).trans e16)
    go_roundw
    case rel => exact ⟨k + 1, z6, by omega, by go_num, by rw [hgoal.out]; exact HR6.out, K1.out.grown hg7 (by simp; omega), K2.out.grown hg7 (by simp; omega), K3.out.grown hg7 (by simp; omega), hb7, KB.out.grown hg7 KB.out.size (fun r hr => by cases hr; omega)⟩
    case measure => simp [intOf]; omega
  ·have hk' : k = 256 := by omega
   subst hk'
   have hzl := el_len hel
   have HX := jh hbx
   have H3 := jh hb3
   have HB := jh hbel
   have HEL : Hid (IsEl (.agg (ints .i64 zs).toArray) (x ^ leN l)) := jh (by simpa using hel)
   have hiz : Hid ((Tryz.prog.info? 75).map (·.size) = some (ints .i64 zs).length) := jh (by rw [zad, hzl]; exact Tryz.arr75)
   have hlz : Hid ((ints .i64 zs).length = (ints .i64 (List.replicate 16 0)).length) := jh (by rw [zad, zad, hzl]; rfl)
   clear hb1 hb2 hb3 hbx hbel hel hzl
   go_wp2_with (first | (refine zab rfl _ _ rfl X rfl _ _ _ _ HX.out Tryz.underlying75 hiz.out ?_) | (refine zac rfl _ _ _ rfl (A + 1 + 1) _ rfl rfl _ _ H3.out hlz.out hiz.out (zai _ _) ?_; intro w7 hb7 hg7))
   exact bodyPost_ret (v := .agg (ints .i64 zs).toArray) (zap (by rfl) _ (A + 1 + 1) _ _ _ _ (by rfl) hb7 Tryz.underlying75 hiz.out) rfl ⟨_, rfl, HEL.out, HB.out.grown hg7 HB.out.size (fun r hr => by cases hr; omega)⟩
theorem rin_el (l : List UInt8) (w : World) (hl : l.length = 32) :
  Calls Tryz.prog 48 #[.agg (l.map bval).toArray] w fun e w' => ∃ r, e = .returned r ∧ IsEl r (leN l) ∧ Below w.heap.size w w' := by
 refine (rin_any l w hl).mono ?_
 rintro e w' ⟨zs, rfl, h1, h2, h3, h4⟩
 exact ⟨_, rfl, ⟨zs, rfl, h1, fun z hz => by have := h2 z hz; omega, 0, by rw [h3]; omega⟩, h4⟩
theorem rmost_any (w : World) : Calls Tryz.prog 86 #[.int .i64 21] w fun e w' => e = .returned (.agg ((bytesN 32 (pP - 2).toNat).map bval).toArray) ∧ Below w.heap.size w w' := by
 have HBX := jh (boxes2 w (ints .u8 (List.replicate 32 0)) (ints .u8 (List.replicate 32 0)) 23 23)
 go_enter Tryz.func86, Tryz.ntmps86
 go_wp2_with fail
 change Code.wp _ _ _ _ ((w.alloc (.cells (ints .u8 (List.replicate 32 0)).toArray 23)).alloc (.cells (ints .u8 (List.replicate 32 0)).toArray 23))
 generalize (w.alloc (.cells (ints .u8 (List.replicate 32 0)).toArray 23)).alloc (.cells (ints .u8 (List.replicate 32 0)).toArray 23) = w0 at *
 obtain ⟨h1, h2, h3⟩ := HBX.out
 obtain ⟨A, hA⟩ : ∃ A, A = w.heap.size := ⟨_, rfl⟩
 rw [← hA] at h1 h2 ⊢
 have hA2 : w.heap.size ≤ A := by omega
 have H1 := jh h1
 have H2 := jh h2
 have H3 := jh h3
 clear h1 h2 h3 HBX hA
 go_loopw [4] (fun i wr => ∃ (k : Nat) (bs : List Int), k ≤ 32 ∧ i = .int .i64 k ∧ FullB bs k ∧ Blk wr A (ints .u8 (List.replicate 32 0)) 23 ∧ Blk wr (A + 1) (ints .u8 bs) 23 ∧ Below w.heap.size w wr) (fun i _ => 32 - (intOf i).toNat)
 case atStart => exact ⟨0, _, by omega, rfl, ⟨rfl, fun j hj => by omega⟩, H1.out, H2.out, H3.out⟩
 case round =>
  clear H1 H2 H3
  obtain ⟨k, bs, hk, rfl, hfb, hb1, hb2, hbel⟩ := hrel
  have i0' : (0 : Int) ≤ (k : Int) := Int.natCast_nonneg _
  have hlen := hfb.len
  by_cases hlt : k < 32
  ·have i1 : (k : Int) < 32 := by omega
   have e1 := hb2.cell k
   rw [zav (by omega)] at e1
   have f1 := hb2.free k
   have hst := hfb.step hlt
   have HST := jh hst
   have H1 := jh hb1
   have H2 := jh hb2
   have H3 := jh hbel
   clear hb1 hb2 hbel hfb hst hlen
   go_wp2_with fail
   go_roundw
   case rel =>
    refine ⟨k + 1, _, by omega, by go_num, HST.out, H1.out.far (by simp) _, ?_, H3.out.setCell (by simp; omega) _⟩
    rw [← zcc]
    exact H2.out.set k _
   case measure => simp [intOf]; omega
  ·have hk' : k = 32 := by omega
   subst hk'
   have hd := hfb.done
   subst hd
   have e1 : wr.cell? ⟨A + 1, 31, none⟩ = some (.int .u8 255) := by rw [hb2.cell 31]; rfl
   have e2 : wr.cell? ⟨A + 1, 0, none⟩ = some (.int .u8 255) := by rw [hb2.cell 0]; rfl
   have f1 := hb2.free 31
   have f2 := hb2.free 0
   have hb3 := (hb2.set 31 (.int .u8 127)).set 0 (.int .u8 235)
   have hb4 := (hb1.far (a := ⟨A + 1, 31, none⟩) (by simp) (.int .u8 127)).far (a := ⟨A + 1, 0, none⟩) (by simp) (.int .u8 235)
   rw [zcc, zcc] at hb3
   have e3 : ints .u8 (((List.replicate 32 255).set 31 127).set 0 235) = (bytesN 32 (pP - 2).toNat).map bval := by kernel_rfl
   rw [e3] at hb3
   have hb5 : Below w.heap.size w ((wr.setCell ⟨A + 1, 31, none⟩ (.int .u8 127)).setCell ⟨A + 1, 0, none⟩ (.int .u8 235)) := (hbel.setCell (by simp; omega) _).setCell (by simp; omega) _
   have H3 := jh hb3
   have H4 := jh hb4
   have H5 := jh hb5
   have hi1 : Hid ((Tryz.prog.info? 23).map (·.size) = some ((bytesN 32 (pP - 2).toNat).map bval).length) := jh (by rw [List.length_map, zaz]; exact Tryz.arr23)
   have hl1 : Hid (((bytesN 32 (pP - 2).toNat).map bval).length = (ints .u8 (List.replicate 32 0)).length) := jh (by rw [List.length_map, zaz]; rfl)
   clear hb1 hb2 hb3 hb4 hb5 hbel hfb hlen e3
   go_wp2_with (first | (refine zab rfl _ _ rfl (A + 1) rfl _ _ _ _ H3.out Tryz.underlying23 hi1.out ?_) | (refine zac rfl _ _ _ rfl A _ rfl rfl _ _ H4.out hl1.out hi1.out (zag _) ?_; intro w7 hb7 hg7))
   exact bodyPost_ret (v := .agg ((bytesN 32 (pP - 2).toNat).map bval).toArray) (zap (by rfl) _ A _ _ _ _ (by rfl) hb7 Tryz.underlying23 hi1.out) rfl ⟨rfl, H5.out.grown hg7 H5.out.size (fun r hr => by cases hr; omega)⟩
theorem rinv_any (u : Value) (x : Int) (w : World) (hu : IsEl u x) :
  Calls Tryz.prog 54 #[u] w fun e w' => ∃ r, e = .returned r ∧ IsEl r (x ^ (pP - 2).toNat) ∧ Below w.heap.size w w' := by
 have HUE := jh hu
 obtain ⟨xs, rfl, la, ba, qa, va⟩ := hu
 have hu := Tryz.underlying75
 have hi1 : (Tryz.prog.info? 75).map (·.size) = some (ints .i64 xs).length := by rw [zad, la]; exact Tryz.arr75
 have HU := jh hu
 have HI1 := jh hi1
 have HBX := jh (boxes2 w (ints .i64 xs) (ints .i64 (List.replicate 16 0)) 75 75)
 clear la ba va hu hi1
 go_enter Tryz.func54, Tryz.ntmps54
 go_wp2_with fail
 change Code.wp _ _ _ _ ((w.alloc (.cells (ints .i64 xs).toArray 75)).alloc (.cells (ints .i64 (List.replicate 16 0)).toArray 75))
 generalize (w.alloc (.cells (ints .i64 xs).toArray 75)).alloc (.cells (ints .i64 (List.replicate 16 0)).toArray 75) = w0 at *
 obtain ⟨h1, h2, h4⟩ := HBX.out
 obtain ⟨A, hA⟩ : ∃ A, A = w.heap.size := ⟨_, rfl⟩
 rw [← hA] at h1 h2 ⊢
 have hA2 : w.heap.size ≤ A := by omega
 have H1 := jh h1
 have H3 := jh h2
 have H4 := jh h4
 clear h1 h2 h4 HBX hA
 have hi1 := HI1.out
 have hu := HU.out
 have B0 : Below w0.heap.size w0 w0.drew := (Below.refl _ _).drew
 refine wp_region_held_drew (S := fun w' => w'.rangeAt A 0 (ints .i64 xs)) (by kernel_rfl) (zbl H1.out B0) (fun hHeld => ?_)
 refine tke 0 (.agg (ints .i64 xs).toArray) rfl (yieldsIf_load_mid (by rfl) _ _ rfl A 0 rfl _ _ (fun w h => h) hu rfl hi1) hHeld ?_
 try simp only [Act.put, nrm]
 refine rdy 1 rfl fun K hK => ?_
 go_simp
 refine (rmost_any _).mono ?_
 rintro e w1 ⟨rfl, b1⟩
 have B1 := B0.trans (b1.mono B0.size)
 refine hK.out _ _ (zbl H1.out B1) (fun hHeld => ?_)
 clear hK K hHeld
 try simp only [Act.put, nrm]
 refine rdy 2 rfl fun K hK => ?_
 go_simp
 refine (rpow_any _ _ _ _ HUE.out (zaz 32 (pP - 2).toNat)).mono ?_
 rintro e w2 ⟨r2, rfl, e2, b2⟩
 rw [fld_leN_p2] at e2
 obtain ⟨z2, rfl, lz2, bz2, qz2, vz2⟩ := id e2
 have B2 := B1.trans (b2.mono B1.size)
 refine hK.out _ _ (zbl H1.out B2) (fun hHeld => ?_)
 clear hK K hHeld
 try simp only [Act.put, nrm]
 refine rdy 3 rfl fun K hK => ?_
 have hi2 : (Tryz.prog.info? 75).map (·.size) = some (ints .i64 z2).length := by rw [zad, lz2]; exact Tryz.arr75
 rw [if_pos (by rfl)]
 refine zau _ _ _ rfl (A + 1) (ints .i64 z2) rfl rfl _ _ (bl_blk H3.out B2) (by rw [zad, zad, lz2]; rfl) hi2 (zai _ _) ?_
 intro w5 hb5 hg5
 refine hK.out _ _ ((bl_blk H1.out B2).grown hg5 (by simp)).range (fun hHeld => ?_)
 clear hK K hHeld
 refine dne ?_
 have HB5 := jh ((H4.out.trans (B2.mono H4.out.size)).grown hg5 (Nat.le_trans H4.out.size B2.size) (fun r hr => by cases hr; omega))
 have HI2 := jh hi2
 have HBB := jh hb5
 have HE2 := jh e2
 clear hi1 hu hi2 hb5 hg5 e2 vz2 bz2 lz2
 go_wp2_with fail
 exact bodyPost_ret (v := .agg (ints .i64 z2).toArray) (zap (by rfl) _ (A + 1) _ _ _ _ (by rfl) HBB.out HU.out HI2.out) rfl ⟨_, rfl, HE2.out, HB5.out⟩
theorem radd_any (u v : Value) (x y : Int) (w : World) (hu : IsEl u x) (hv : IsEl v y) :
  Calls Tryz.prog 50 #[u, v] w fun e w' => ∃ r, e = .returned r ∧ IsEl r (x + y) ∧ Below w.heap.size w w' := by
 obtain ⟨xs, rfl, la, ba, qa, va⟩ := hu
 obtain ⟨ys, rfl, lb, bb, qb, vb⟩ := hv
 have HA := jh ba
 have HB := jh bb
 have LA := jh la
 have LB := jh lb
 have VA := jh va
 have VB := jh vb
 have HBX := jh (boxes3 w (ints .i64 xs) (ints .i64 ys) (ints .i64 (List.replicate 16 0)) 75 75 75)
 clear ba bb la lb va vb
 go_enter Tryz.func50, Tryz.ntmps50
 go_wp2_with fail
 change Code.wp _ _ _ _ (((w.alloc (.cells (ints .i64 xs).toArray 75)).alloc (.cells (ints .i64 ys).toArray 75)).alloc (.cells (ints .i64 (List.replicate 16 0)).toArray 75))
 generalize ((w.alloc (.cells (ints .i64 xs).toArray 75)).alloc (.cells (ints .i64 ys).toArray 75)).alloc (.cells (ints .i64 (List.replicate 16 0)).toArray 75) = w0 at *
 obtain ⟨h1, h2, h3, h4⟩ := HBX.out
 obtain ⟨A, hA⟩ : ∃ A, A = w.heap.size := ⟨_, rfl⟩
 rw [← hA] at h1 h2 h3 ⊢
 have hA2 : w.heap.size ≤ A := by omega
 have H1 := jh h1
 have H2 := jh h2
 have H3 := jh h3
 have H4 := jh h4
 clear h1 h2 h3 h4 HBX hA
 go_loopw [5] (fun i wr => ∃ (k : Nat) (zs : List Int), k ≤ 16 ∧ i = .int .i64 k ∧ AddS xs ys zs k ∧ Blk wr A (ints .i64 zs) 75 ∧ Blk wr (A + 1) (ints .i64 ys) 75 ∧ Blk wr (A + 1 + 1) (ints .i64 (List.replicate 16 0)) 75 ∧ Below w.heap.size w wr) (fun i _ => 16 - (intOf i).toNat)
 case atStart => exact ⟨0, xs, by omega, rfl, ⟨LA.out, by simp [dV], fun i _ _ => rfl, fun i hi => by omega⟩, H1.out, H2.out, H3.out, H4.out⟩
 case round =>
  clear H1 H2 H3 H4
  obtain ⟨k, zs, hk, rfl, hin, hb1, hb2, hb3, hbel⟩ := hrel
  have i0' : (0 : Int) ≤ (k : Int) := Int.natCast_nonneg _
  have hl16 := hin.len
  by_cases hlt : k < 16
  ·have e1 := hb1.cell k
   rw [zav (by omega), hin.high k (Nat.le_refl _) hlt] at e1
   have e2 := hb2.cell k
   rw [zav (by have := LB.out; omega)] at e2
   have fk := hb1.free k
   have i1 : (k : Int) < 16 := by omega
   have hst := hin.step hlt HA.out HB.out LA.out LB.out
   have b1 := zce (P := fun z => -131072 ≤ z ∧ z ≤ 131072) HA.out (i := k) (by have := LA.out; omega)
   have b2 := zce (P := fun z => -131072 ≤ z ∧ z ≤ 131072) HB.out (i := k) (by have := LB.out; omega)
   generalize xs.getD k 0 = a at *
   generalize ys.getD k 0 = b at *
   obtain ⟨b11, b12⟩ := b1
   obtain ⟨b21, b22⟩ := b2
   have W1 : Hid (wrap64 (a + b) = a + b) := jh (by rw [← IntWalk.i64_left]; exact IntWalk.i64_in _ (by omega))
   have HST := jh hst
   have HB1 := jh hb1
   have HB2 := jh hb2
   have HB3 := jh hb3
   have HBE := jh hbel
   clear hin hst hb1 hb2 hb3 hbel hl16
   go_wp2_with fail
   go_region
   go_wp2_with fail
   go_roundw
   case rel =>
    try rw [W1.out]
    refine ⟨k + 1, _, by omega, by go_num, HST.out, ?_, HB2.out.far (by simp) _, HB3.out.far (by simp; omega) _, (HBE.out.setCell (by simp; omega) _).drew⟩
    rw [← zcc]
    exact HB1.out.set k _
   case measure => simp [intOf]; omega
  ·have hk' : k = 16 := by omega
   subst hk'
   have hval := hin.val
   rw [List.take_of_length_le (by have := LB.out; omega)] at hval
   have hbd : ∀ z ∈ zs, -262144 ≤ z ∧ z ≤ 262144 := zee (P := fun z => -262144 ≤ z ∧ z ≤ 262144) hl16 (fun i hi => hin.low i hi hi)
   have HB1 := jh hb1
   have HB3 := jh hb3
   have HBE := jh hbel
   have HVAL := jh hval
   have hi1 : Hid ((Tryz.prog.info? 75).map (·.size) = some (ints .i64 zs).length) := jh (by rw [zad, hl16]; exact Tryz.arr75)
   have HC := jh (carry_any zs 262144 wr hl16 hbd (by omega) (by omega))
   clear hb1 hb2 hb3 hbel hin hl16 hval hbd
   go_wp2_with (refine zab rfl _ _ rfl A rfl _ _ _ _ HB1.out Tryz.underlying75 hi1.out ?_)
   refine HC.out.mono ?_
   rintro e w5 ⟨zs', rfl, hcz, hb5⟩
   have HB35 : Hid (Blk w5 (A + 1 + 1) (ints .i64 (List.replicate 16 0)) 75) := jh (HB3.out.same (hb5.block _ HB3.out.lt))
   have HBE5 := jh (HBE.out.trans (hb5.mono HBE.out.size))
   have hi2 : Hid ((Tryz.prog.info? 75).map (·.size) = some (ints .i64 zs').length) := jh (by rw [zad, hcz.len]; exact Tryz.arr75)
   have hl2 : Hid ((ints .i64 zs').length = (ints .i64 (List.replicate 16 0)).length) := jh (by rw [zad, zad, hcz.len]; rfl)
   have HCZ := jh hcz
   clear hb5 hcz
   go_wp2_with (refine zac rfl _ _ _ rfl (A + 1 + 1) _ rfl rfl _ _ HB35.out hl2.out hi2.out (zai _ _) ?_; intro w6 hb6 hg6)
   obtain ⟨q1, q, q2⟩ := HCZ.out.el (by omega)
   refine bodyPost_ret (v := .agg (ints .i64 zs').toArray) (zap (by rfl) _ (A + 1 + 1) _ _ _ _ (by rfl) hb6 Tryz.underlying75 hi2.out) rfl ⟨_, rfl, ⟨zs', rfl, HCZ.out.len, q1, qa + qb + q, ?_⟩, HBE5.out.grown hg6 HBE5.out.size (fun r hr => by cases hr; omega)⟩
   rw [q2, HVAL.out, VA.out, VB.out]
   grind
theorem radd_f {u v : Value} {a b : Fp} (w : World) (hu : ElF u a) (hv : ElF v b) : Calls Tryz.prog 50 #[u, v] w fun e w' => ∃ r, e = .returned r ∧ ElF r (a + b) ∧ Below w.heap.size w w' := by
 obtain ⟨x, hx, rfl⟩ := hu
 obtain ⟨y, hy, rfl⟩ := hv
 refine (radd_any u v x y w hx hy).mono ?_
 rintro e w' ⟨r, rfl, hr, hb⟩
 exact ⟨r, rfl, ⟨_, hr, fp_add x y⟩, hb⟩
theorem rsub_f {u v : Value} {a b : Fp} (w : World) (hu : ElF u a) (hv : ElF v b) : Calls Tryz.prog 52 #[u, v] w fun e w' => ∃ r, e = .returned r ∧ ElF r (a - b) ∧ Below w.heap.size w w' := by
 obtain ⟨x, hx, rfl⟩ := hu
 obtain ⟨y, hy, rfl⟩ := hv
 refine (rsub_any u v x y w hx hy).mono ?_
 rintro e w' ⟨r, rfl, hr, hb⟩
 exact ⟨r, rfl, ⟨_, hr, fp_sub x y⟩, hb⟩
theorem zco {u v : Value} {a b : Fp} (w : World) (hu : ElF u a) (hv : ElF v b) : Calls Tryz.prog 51 #[u, v] w fun e w' => ∃ r, e = .returned r ∧ ElF r (a * b) ∧ Below w.heap.size w w' := by
 obtain ⟨x, hx, rfl⟩ := hu
 obtain ⟨y, hy, rfl⟩ := hv
 refine (rmul_any u v x y w hx hy).mono ?_
 rintro e w' ⟨r, rfl, hr, hb⟩
 exact ⟨r, rfl, ⟨_, hr, fp_mul x y⟩, hb⟩
theorem rone_f (n : Int) (w : World) (h1 : -131072 ≤ n) (h2 : n ≤ 131072) : Calls Tryz.prog 49 #[.int .i64 n] w fun e w' => ∃ r, e = .returned r ∧ ElF r (fp n) ∧ Below w.heap.size w w' := by
 refine (rone_el n w h1 h2).mono ?_
 rintro e w' ⟨r, rfl, hr, hb⟩
 exact ⟨r, rfl, ⟨_, hr, rfl⟩, hb⟩
theorem rin_f (l : List UInt8) (w : World) (hl : l.length = 32) : Calls Tryz.prog 48 #[.agg (l.map bval).toArray] w fun e w' => ∃ r, e = .returned r ∧ ElF r (fp (leN l)) ∧ Below w.heap.size w w' := by
 refine (rin_el l w hl).mono ?_
 rintro e w' ⟨r, rfl, hr, hb⟩
 exact ⟨r, rfl, ⟨_, hr, rfl⟩, hb⟩
theorem rinv_f {u : Value} {a : Fp} (w : World) (hu : ElF u a) : Calls Tryz.prog 54 #[u] w fun e w' => ∃ r, e = .returned r ∧ ElF r (fi a) ∧ Below w.heap.size w w' := by
 obtain ⟨x, hx, rfl⟩ := hu
 refine (rinv_any u x w hx).mono ?_
 rintro e w' ⟨r, rfl, hr, hb⟩
 refine ⟨r, rfl, ⟨_, hr, ?_⟩, hb⟩
 rw [fi_fp]
 congr 2
theorem rout_f {u : Value} {a : Fp} (w : World) (hu : ElF u a) : Calls Tryz.prog 53 #[u] w fun e w' => e = .returned (.agg ((nbF a).map bval).toArray) ∧ Below w.heap.size w w' := by
 obtain ⟨x, hx, rfl⟩ := hu
 exact rout_any u x w hx
theorem zam {zs : List Int} (h : zs.length = 16) : (Tryz.prog.info? 75).map (·.size) = some (ints .i64 zs).length := by rw [zad, h]; exact Tryz.arr75
def ElB (w : World) (c : Nat) (f : Fp) : Prop := ∃ zs : List Int, zs.length = 16 ∧ Blk w c (ints .i64 zs) 75 ∧ ElF (.agg (ints .i64 zs).toArray) f
theorem ElB.ext {w w' : World} {c : Nat} {f : Fp} (h : ElB w c f) (hb : Ext w w') : ElB w' c f := by
 obtain ⟨zs, h1, h2, h3⟩ := h
 exact ⟨zs, h1, zaa h2 hb, h3⟩
theorem ElB.lt {w : World} {c : Nat} {f : Fp} (h : ElB w c f) : c < w.heap.size := by
 obtain ⟨zs, h1, h2, h3⟩ := h
 exact h2.lt
theorem ElB.grown {w w' : World} {c g : Nat} {f : Fp} (h : ElB w c f) (hg : w.grownBy w' (some g)) (hc : some g ≠ some c) : ElB w' c f := by
 obtain ⟨zs, h1, h2, h3⟩ := h
 exact ⟨zs, h1, h2.grown hg hc, h3⟩
theorem rclamped_any (kb : List UInt8) (w : World) (hk : kb.length = 32) : Calls Tryz.prog 47 #[.agg (kb.map bval).toArray] w fun e w' => e = .returned (.agg ((clampB kb).map bval).toArray) ∧ Below w.heap.size w w' := by
 have HB := jh (boxes2 w (kb.map bval) (ints .u8 (List.replicate 32 0)) 23 23)
 have HKL := jh hk
 clear hk
 go_enter Tryz.func47, Tryz.ntmps47
 go_upto_region 1 with (fail)
 obtain ⟨H1, H2, HE⟩ := HB.out
 change Code.wp _ _ _ _ ((w.alloc (.cells (kb.map bval).toArray 23)).alloc (.cells (ints .u8 (List.replicate 32 0)).toArray 23))
 generalize (w.alloc (.cells (kb.map bval).toArray 23)).alloc (.cells (ints .u8 (List.replicate 32 0)).toArray 23) = wa at *
 obtain ⟨A, hA⟩ : ∃ A, A = w.heap.size := ⟨_, rfl⟩
 have HAW : Hid (w.heap.size ≤ A) := jh (by omega)
 rw [← hA] at H1 H2 ⊢
 have H1 := jh H1
 have H2 := jh H2
 have HE : Hid (Ext w wa) := jh HE
 clear hA HB
 obtain ⟨k1, hk1⟩ : ∃ k1, k1 = kb.set 0 (kb.getD 0 0 &&& 248) := ⟨_, rfl⟩
 have HX1 : Hid ((kb.map bval).set 0 (.int .u8 (bits .and .u8 ((kb.getD 0 0).toNat : Int) 248)) = k1.map bval) := jh (by
  have e1 := u8_and (kb.getD 0 0) 248
  rw [show (248 : Int) = ((248 : UInt8).toNat : Int) from rfl, e1, u8_set, hk1])
 have HL1 : Hid (k1.length = 32) := jh (by rw [hk1, List.length_set, HKL.out])
 have HX2 : Hid ((k1.map bval).set 31 (.int .u8 (bits .or .u8 (bits .and .u8 ((k1.getD 31 0).toNat : Int) 127) 64)) = (clampB kb).map bval) := jh (by
  have e1 := u8_and (k1.getD 31 0) 127
  have e2 := u8_or (k1.getD 31 0 &&& 127) 64
  rw [show (127 : Int) = ((127 : UInt8).toNat : Int) from rfl, show (64 : Int) = ((64 : UInt8).toNat : Int) from rfl, e1, e2, u8_set, hk1]
  rfl)
 have HCL := jh (zdf HKL.out)
 obtain ⟨cl, hcl⟩ : ∃ cl, cl = clampB kb := ⟨_, rfl⟩
 rw [← hcl] at HCL HX2
 have HCE := jh hcl
 clear hcl
 clear hk1
 have c1 := H1.out.cell 0
 rw [zbb (by rw [HKL.out]; omega)] at c1
 have f1 := H1.out.free 0
 generalize ((kb.getD 0 0).toNat : Int) = q1 at *
 go_upto_region 2 with (fail)
 have HM := jh (H1.out.set 0 (.int .u8 (bits .and .u8 q1 248)))
 rw [HX1.out] at HM
 have H2 := jh (H2.out.far (a := ⟨A, 0, none⟩) (by simp) (.int .u8 (bits .and .u8 q1 248)))
 have HE := jh (Below.setCell HE.out (p := ⟨A, 0, none⟩) (by have := HAW.out; simp; omega) (.int .u8 (bits .and .u8 q1 248)))
 generalize bits .and .u8 q1 248 = v1 at *
 generalize wa.setCell ⟨A, 0, none⟩ (.int .u8 v1) = wb at *
 clear c1 f1 HX1 H1
 have c1 := HM.out.cell 31
 rw [zbb (by rw [HL1.out]; omega)] at c1
 have f1 := HM.out.free 31
 generalize ((k1.getD 31 0).toNat : Int) = q2 at *
 go_upto_region 3 with (fail)
 have HM2 := jh (HM.out.set 31 (.int .u8 (bits .or .u8 (bits .and .u8 q2 127) 64)))
 rw [HX2.out] at HM2
 have H2 := jh (H2.out.far (a := ⟨A, 31, none⟩) (by simp) (.int .u8 (bits .or .u8 (bits .and .u8 q2 127) 64)))
 have HE := jh (Below.setCell HE.out (p := ⟨A, 31, none⟩) (by have := HAW.out; simp; omega) (.int .u8 (bits .or .u8 (bits .and .u8 q2 127) 64)))
 generalize bits .or .u8 (bits .and .u8 q2 127) 64 = v2 at *
 generalize wb.setCell ⟨A, 31, none⟩ (.int .u8 v2) = wc at *
 clear c1 f1 HX2 HM
 have HE : Hid (Ext w wc) := jh HE.out
 have HI : Hid ((Tryz.prog.info? 23).map (·.size) = some (cl.map bval).length) := jh (zaf HCL.out)
 have HLo : Hid ((cl.map bval).length = (ints .u8 (List.replicate 32 0)).length) := jh (by rw [List.length_map, HCL.out, zad, List.length_replicate])
 go_wp2_with (first | (refine zab rfl _ _ rfl A rfl _ _ _ _ HM2.out Tryz.underlying23 HI.out ?_) | (refine zac rfl _ _ _ rfl (A + 1) (cl.map bval) rfl rfl _ _ H2.out HLo.out HI.out (zag _) ?_; intro w5 hb5 hg5))
 refine bodyPost_ret (zap rfl _ (A + 1) _ _ _ _ rfl hb5 Tryz.underlying23 HI.out) rfl ?_
 exact ⟨by rw [HCE.out], zae HE.out hg5 (by have := HAW.out; omega)⟩
end Go.Proofs.YtimmnieopifcbaaGreatDoor
