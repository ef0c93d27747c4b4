/- Texts that belong together, one behind the other; each says in its own first remark what it shows. -/
import Derived.Test.YtflefkmpllbeeaaAll2
import Derived.Test.YtflefkmpllbeeaaAll3
import Derived.Test.YtflefkmpllbeeaaAll1
import Derived.Lib.SlBytesConst

/- The walks of package aead's tagOf, Seal and Open. Laid by wip/gen/gaeacode.py. Each theorem names its own conditions. -/
namespace Go.Proofs.Ytflefkmpllbeeaa
open Go.RowKit
set_option linter.unusedVariables false
set_option linter.unusedSimpArgs false

/-- The error's number. -/
def aErr (o : Option (List UInt8)) : Int := if o.isSome then 0 else 10

theorem PSum_valA (kb : List UInt8) (v : Value) (ls : List (List UInt8)) (m : List UInt8) (w : World) (hk : kb.length = 32) (hv : RowB w v ls) (hf : ls.flatten = m) (hm : m.length ≤ 1099511627776) :
    Calls Try.prog 16 #[.agg (kb.map bval).toArray, v] w fun e w' => e = .returned (.agg ((polyTag kb m).map bval).toArray) ∧ Below w.heap.size w w' := by
  subst hf
  exact PSum_num kb v ls w hk hv hm
theorem same_true (av bv : Value) (a b : List UInt8) (w : World) (ha : Row1 w av (a.map bval)) (hb : Row1 w bv (b.map bval)) (h : a = b) :
    Calls Try.prog 20 #[av, bv] w fun e w' => e = .returned (.bool true) ∧ Below w.heap.size w w' := by
  have hh := MacSame_num av bv a b w ha hb
  rw [decide_eq_true h] at hh
  exact hh
theorem same_false (av bv : Value) (a b : List UInt8) (w : World) (ha : Row1 w av (a.map bval)) (hb : Row1 w bv (b.map bval)) (h : ¬ a = b) :
    Calls Try.prog 20 #[av, bv] w fun e w' => e = .returned (.bool false) ∧ Below w.heap.size w w' := by
  have hh := MacSame_num av bv a b w ha hb
  rw [decide_eq_false h] at hh
  exact hh
theorem range_take {w : World} {c : Nat} {cs : List Value} {t : TypeId} (h : Blk w c cs t) (n : Nat) : w.rangeAt c 0 (cs.take n) := fun j v hj => by
  rw [List.getElem?_take] at hj
  split at hj
  · rw [Nat.zero_add, h.cell]
    exact hj
  · cases hj
/-- A slice as an array: where it stands. -/
theorem run_array_at {P : Program} {arr e : TypeId} {n : Nat} (hu : P.underlying arr = some (.array n e)) (a : Option Addr) (len cap : Nat) (h : n ≤ len) (w : World) :
    (Instr.arrayAt arr (.slice a len cap)).run P w = .ok (.pointer a) w := by
  unfold Instr.arrayAt
  simp [run_underlying hu, show ¬ len < n by omega]
/-- Two rows laid behind one another, in a slice that was just made. -/
theorem Concat_two (x y : Value) (l m : List UInt8) (w : World) (hx : Row1 w x (l.map bval)) (hy : Row1 w y (m.map bval)) (hl : (l ++ m).length ≤ 1099511627776) :
    Calls Try.prog 19 #[.slice (some ⟨w.heap.size, 0, none⟩) 2 2] (w.alloc (.cells #[x, y] 26)) fun e w' => ∃ z, e = .returned z ∧ w'.ownsRow w.heap.size 5 1 z (l ++ m).length ((l ++ m).map bval) ∧ Ext w w' := by
  have he := Ext.alloc w (.cells #[x, y] 26)
  have h := stdConcat_any _ [l, m] _ (rowB2 (Row1.made w #[x, y] 26 _ 2 [x, y] rfl rfl rfl (by unfold maxLen; omega)) (hx.below he) (hy.below he)) (by simpa using hl)
  refine h.mono fun e w' hh => ?_
  obtain ⟨z, h1, h2, h3⟩ := hh
  rw [show [l, m].flatten = l ++ m from by simp] at h2
  exact ⟨z, h1, own_mono h2 he.size, he.trans h3⟩

set_option maxRecDepth 100000 in
set_option maxHeartbeats 8000000 in
theorem atagOf_any (kb nb c s : List UInt8) (cv sv : Value) (w : World) (hk : kb.length = 32) (hn : nb.length = 12) (hc : Row1 w cv (c.map bval)) (hs : Row1 w sv (s.map bval)) (hcl : c.length ≤ 1000000000) (hsl : s.length ≤ 1000000000) :
    Calls Try.prog 18 #[.agg (kb.map bval).toArray, .agg (nb.map bval).toArray, cv, sv] w fun e w' => e = .returned (.agg ((aeaTag kb nb c s).map bval).toArray) ∧ Below w.heap.size w w' := by
  obtain ⟨iq, hq0, hq1, hq2⟩ := info_two (P := Try.prog) (t := 26) (z := .slice none 0 0) (n := 1) (by kernel_rfl)
  have HQ0 := Lib.hid hq0
  have HQ1 := Lib.hid hq1
  have HQ2 := Lib.hid hq2
  have HC0 := Lib.hid hc
  have HS0 := Lib.hid hs
  obtain ⟨ac, capc, hcv, c1, c2, _⟩ := id hc
  obtain ⟨ad, caps, hsv, s1, s2, _⟩ := id hs
  rw [List.length_map] at hcv c1 hsv s1
  subst hcv hsv
  unfold maxLen at c2 s2
  have HCL := Lib.hid hcl
  have HSL := Lib.hid hsl
  have HB := Lib.hid (boxes3 w (kb.map bval) (nb.map bval) (ints .u8 (List.replicate 16 0)) 23 25 43)
  have HIK : Hid ((Try.prog.info? 23).map (·.size) = some (kb.map bval).length) := Lib.hid (num_size hk)
  have HIN : Hid ((Try.prog.info? 25).map (·.size) = some (nb.map bval).length) := Lib.hid (nonce_size hn)
  have HKL := Lib.hid hk
  have HNL := Lib.hid hn
  clear hq0 hq1 hq2 hc hs hk hn
  go_enter Try.func18, Try.ntmps18
  go_upto_region 1 with (fail)
  obtain ⟨H1, H2, H3, HE⟩ := HB.out
  change Code.wp _ _ _ _ (((w.alloc (.cells (kb.map bval).toArray 23)).alloc (.cells (nb.map bval).toArray 25)).alloc (.cells (ints .u8 (List.replicate 16 0)).toArray 43))
  generalize ((w.alloc (.cells (kb.map bval).toArray 23)).alloc (.cells (nb.map bval).toArray 25)).alloc (.cells (ints .u8 (List.replicate 16 0)).toArray 43) = wa at *
  obtain ⟨A, hA⟩ : ∃ A, A = w.heap.size := ⟨_, rfl⟩
  have HLA : Hid (w.heap.size ≤ A + 1 + 1) := Lib.hid (by omega)
  rw [← hA] at H1 H2 H3 ⊢
  have H1 := Lib.hid H1
  have H2 := Lib.hid H2
  have H3 := Lib.hid H3
  have HE : Hid (Ext w wa) := Lib.hid HE
  clear hA HB
  go_wp2_with (first | (refine wpList_load_blk rfl _ _ rfl A rfl _ _ _ _ H1.out Try.underlying23 HIK.out ?_) | (refine wpList_load_blk rfl _ _ rfl (A + 1) rfl _ _ _ _ H2.out Try.underlying25 HIN.out ?_))
  refine (CBlock_num kb nb 0 wa HKL.out HNL.out (by decide) (by decide)).mono ?_
  rintro e w1 ⟨rfl, hb⟩
  have H3 := Lib.hid (ext_blk H3.out hb)
  have HE := Lib.hid (HE.out.trans hb)
  clear hb H1 H2
  have HOK : Hid (oneKey kb nb = (chaBlock kb (BitVec.ofInt 32 0) nb).take 32) := Lib.hid rfl
  have HBL := Lib.hid (chaBlock_length kb (BitVec.ofInt 32 0) nb)
  generalize chaBlock kb (BitVec.ofInt 32 0) nb = k at *
  have HZ := Lib.hid (Blk.made w1 (ints .u8 (List.replicate 64 0)) 39)
  have HEA := Lib.hid (Ext.alloc w1 (.cells (ints .u8 (List.replicate 64 0)).toArray 39))
  have HIS : Hid ((Try.prog.info? 39).map (·.size) = some (k.map bval).length) := Lib.hid (sig_size HBL.out)
  have HLo : Hid ((k.map bval).length = (ints .u8 (List.replicate 64 0)).length) := Lib.hid (by rw [List.length_map, HBL.out, ints_length, List.length_replicate])
  go_upto_region 2 with (refine wpList_store_blk rfl _ _ _ rfl w1.heap.size (k.map bval) rfl rfl _ _ HZ.out HLo.out HIS.out (bval_one _) ?_; intro w2 hb2 hg2)
  have HE4 := Lib.hid (ext_grown HEA.out hg2 (Nat.le_refl _))
  have H3 := Lib.hid (ext_blk H3.out HE4.out)
  have HE := Lib.hid (HE.out.trans HE4.out)
  obtain ⟨S, hS⟩ : ∃ S, S = w1.heap.size := ⟨_, rfl⟩
  rw [← hS] at hb2 ⊢
  have H4 := Lib.hid (range_take hb2 32)
  clear hb2 hg2 HZ HEA HE4 HLo hS
  rw [← List.map_take, ← HOK.out] at H4
  have HOL : Hid ((oneKey kb nb).length = 32) := Lib.hid (oneKey_length kb nb)
  have HIO : Hid ((Try.prog.info? 23).map (·.size) = some ((oneKey kb nb).map bval).length) := Lib.hid (num_size HOL.out)
  have HTG : Hid (aeaTag kb nb c s = polyTag (oneKey kb nb) (aeaMsg c s)) := Lib.hid rfl
  clear HOK
  generalize oneKey kb nb = ok at *
  have HZ := Lib.hid (Blk.made w2 zero32 23)
  have HEA := Lib.hid (Ext.alloc w2 (.cells zero32.toArray 23))
  have HLo : Hid ((ok.map bval).length = zero32.length) := Lib.hid (by rw [List.length_map, HOL.out]; rfl)
  have hat := run_array_at (P := Try.prog) Try.underlying23 (some ⟨S, 0, none⟩) 32 64 (Nat.le_refl _) w2
  have H3L := Lib.hid H3.out.lt
  go_upto_region 3 with (first | (refine wpList_load_mid rfl _ _ rfl S 0 rfl _ _ H4.out Try.underlying23 rfl HIO.out ?_) | (refine wpList_store_blk rfl _ _ _ rfl w2.heap.size (ok.map bval) rfl rfl _ _ HZ.out HLo.out HIO.out (bval_one _) ?_; intro w3 hb3 hg3))
  have HE4 := Lib.hid (ext_grown HEA.out hg3 (Nat.le_refl _))
  have H3 := Lib.hid (ext_blk H3.out HE4.out)
  have HE := Lib.hid (HE.out.trans HE4.out)
  obtain ⟨O, hO⟩ : ∃ O, O = w2.heap.size := ⟨_, rfl⟩
  have hOS : A + 1 + 1 < O := by rw [hO]; exact H3L.out
  rw [← hO] at hb3 ⊢
  have H5 := Lib.hid hb3
  clear hb3 hg3 HZ HEA HE4 HLo hO H4 hat
  have HO : Hid (A + 1 + 1 < O) := Lib.hid (by have := hOS; omega)
  clear hOS
  have HS3 := Lib.hid (HS0.out.below HE.out)
  have HC3 := Lib.hid (HC0.out.below HE.out)
  obtain ⟨m, hm⟩ : ∃ m, m = aeaMsg c s := ⟨_, rfl⟩
  have HFL : Hid ([s, z16 s.length, c, z16 c.length, bytesN 8 s.length, bytesN 8 c.length].flatten = m) := Lib.hid (by rw [hm]; unfold aeaMsg; simp [List.append_assoc])
  have HML : Hid (m.length ≤ 1099511627776) := Lib.hid (by rw [hm]; have := aeaMsg_length c s; have := HCL.out; have := HSL.out; omega)
  rw [← hm] at HTG
  clear hm
  have B0 : Ext w3 w3.drew := Ext.drew _
  refine wp_region_held_drew (S := fun w' => Far (A + 1 + 1) w3 w') (by kernel_rfl) (fars_ext B0) (fun hHeld => ?_)
  refine wpAnyH_take (i := 0) (v := .agg ((ok).map bval).toArray) rfl (by kernel_rfl) (by kernel_rfl) (by kernel_rfl) (fun _ _ _ h => h) (yieldsIf_load_mid (by rfl) _ _ rfl O 0 rfl _ _ (fun w h => fars_range H5.out (by have := HO.out; omega) h) Try.underlying23 rfl HIO.out) hHeld ?_
  simp only [Act.put, List.getElem_toArray, List.getElem_cons_zero, List.getElem_cons_succ, List.setIfInBounds_toArray, List.set_cons_zero, List.set_cons_succ]
  refine wpAnyH_take (i := 1) (v := .slice ad s.length caps) rfl (by kernel_rfl) (by kernel_rfl) (by kernel_rfl) (fun _ _ _ h => h) (yi_move _ (.slice ad s.length caps) (by rfl) rfl rfl) hHeld ?_
  simp only [Act.put, List.getElem_toArray, List.getElem_cons_zero, List.getElem_cons_succ, List.setIfInBounds_toArray, List.set_cons_zero, List.set_cons_succ]
  refine wpAnyH_take (i := 2) (v := .slice ad s.length caps) rfl (by kernel_rfl) (by kernel_rfl) (by kernel_rfl) (fun _ _ _ h => h) (yi_move _ (.slice ad s.length caps) (by rfl) rfl rfl) hHeld ?_
  simp only [Act.put, List.getElem_toArray, List.getElem_cons_zero, List.getElem_cons_succ, List.setIfInBounds_toArray, List.set_cons_zero, List.set_cons_succ]
  refine wpAnyH_take (i := 4) (v := .slice ac c.length capc) rfl (by kernel_rfl) (by kernel_rfl) (by kernel_rfl) (fun _ _ _ h => h) (yi_move _ (.slice ac c.length capc) (by rfl) rfl rfl) hHeld ?_
  simp only [Act.put, List.getElem_toArray, List.getElem_cons_zero, List.getElem_cons_succ, List.setIfInBounds_toArray, List.set_cons_zero, List.set_cons_succ]
  refine wpAnyH_take (i := 5) (v := .slice ac c.length capc) rfl (by kernel_rfl) (by kernel_rfl) (by kernel_rfl) (fun _ _ _ h => h) (yi_move _ (.slice ac c.length capc) (by rfl) rfl rfl) hHeld ?_
  simp only [Act.put, List.getElem_toArray, List.getElem_cons_zero, List.getElem_cons_succ, List.setIfInBounds_toArray, List.set_cons_zero, List.set_cons_succ]
  refine wpAnyH_take (i := 7) (v := .slice ad s.length caps) rfl (by kernel_rfl) (by kernel_rfl) (by kernel_rfl) (fun _ _ _ h => h) (yi_move _ (.slice ad s.length caps) (by rfl) rfl rfl) hHeld ?_
  simp only [Act.put, List.getElem_toArray, List.getElem_cons_zero, List.getElem_cons_succ, List.setIfInBounds_toArray, List.set_cons_zero, List.set_cons_succ]
  refine wpAnyH_take (i := 9) (v := .slice ac c.length capc) rfl (by kernel_rfl) (by kernel_rfl) (by kernel_rfl) (fun _ _ _ h => h) (yi_move _ (.slice ac c.length capc) (by rfl) rfl rfl) hHeld ?_
  simp only [Act.put, List.getElem_toArray, List.getElem_cons_zero, List.getElem_cons_succ, List.setIfInBounds_toArray, List.set_cons_zero, List.set_cons_succ]
  refine wpAnyH_ready (rs := [3]) (by kernel_rfl) (by simp) (AllReadyH.cons rfl (fun K hK => ?_) AllReadyH.nil)
  go_simp
  refine (afilling_any _ s w3.drew ((HS3.out).below B0)).mono ?_
  rintro e m1 ⟨x1, rfl, o1, b1⟩
  have r1 : Row1 m1 x1 ((z16 s.length).map bval) := Row1.of_own o1
  obtain ⟨a1, c1, hx1, _⟩ := id r1
  rw [show ((z16 s.length).map bval).length = (z16 s.length).length from by rw [List.length_map]] at hx1
  subst hx1
  have N1 : Ext w3 m1 := B0.trans b1
  refine hK.out _ _ (fars_ext N1) (fun hHeld => ?_)
  clear hK K
  try simp only [Act.put, List.getElem_toArray, List.getElem_cons_zero, List.getElem_cons_succ, List.setIfInBounds_toArray, List.set_cons_zero, List.set_cons_succ]
  refine wpAnyH_ready (rs := [6]) (by kernel_rfl) (by simp) (AllReadyH.cons rfl (fun K hK => ?_) AllReadyH.nil)
  go_simp
  refine (afilling_any _ c m1 ((HC3.out).below N1)).mono ?_
  rintro e m2 ⟨x2, rfl, o2, b2⟩
  have r1 := r1.below b2
  have r2 : Row1 m2 x2 ((z16 c.length).map bval) := Row1.of_own o2
  obtain ⟨a2, c2, hx2, _⟩ := id r2
  rw [show ((z16 c.length).map bval).length = (z16 c.length).length from by rw [List.length_map]] at hx2
  subst hx2
  have N2 : Ext w3 m2 := N1.trans b2
  refine hK.out _ _ (fars_ext N2) (fun hHeld => ?_)
  clear hK K
  try simp only [Act.put, List.getElem_toArray, List.getElem_cons_zero, List.getElem_cons_succ, List.setIfInBounds_toArray, List.set_cons_zero, List.set_cons_succ]
  refine wpAnyH_ready (rs := [8]) (by kernel_rfl) (by simp) (AllReadyH.cons rfl (fun K hK => ?_) AllReadyH.nil)
  go_simp
  refine (alength_any _ s m2 ((HS3.out).below N2)).mono ?_
  rintro e m3 ⟨x3, rfl, o3, b3⟩
  have r1 := r1.below b3
  have r2 := r2.below b3
  have r3 : Row1 m3 x3 ((bytesN 8 s.length).map bval) := Row1.of_own o3
  obtain ⟨a3, c3, hx3, _⟩ := id r3
  rw [show ((bytesN 8 s.length).map bval).length = 8 from by rw [List.length_map, bytesN_length]] at hx3
  subst hx3
  have N3 : Ext w3 m3 := N2.trans b3
  refine hK.out _ _ (fars_ext N3) (fun hHeld => ?_)
  clear hK K
  try simp only [Act.put, List.getElem_toArray, List.getElem_cons_zero, List.getElem_cons_succ, List.setIfInBounds_toArray, List.set_cons_zero, List.set_cons_succ]
  refine wpAnyH_ready (rs := [10]) (by kernel_rfl) (by simp) (AllReadyH.cons rfl (fun K hK => ?_) AllReadyH.nil)
  go_simp
  refine (alength_any _ c m3 ((HC3.out).below N3)).mono ?_
  rintro e m4 ⟨x4, rfl, o4, b4⟩
  have r1 := r1.below b4
  have r2 := r2.below b4
  have r3 := r3.below b4
  have r4 : Row1 m4 x4 ((bytesN 8 c.length).map bval) := Row1.of_own o4
  obtain ⟨a4, c4, hx4, _⟩ := id r4
  rw [show ((bytesN 8 c.length).map bval).length = 8 from by rw [List.length_map, bytesN_length]] at hx4
  subst hx4
  have N4 : Ext w3 m4 := N3.trans b4
  refine hK.out _ _ (fars_ext N4) (fun hHeld => ?_)
  clear hK K
  try simp only [Act.put, List.getElem_toArray, List.getElem_cons_zero, List.getElem_cons_succ, List.setIfInBounds_toArray, List.set_cons_zero, List.set_cons_succ]
  refine wpAnyH_ready (rs := [11]) (by kernel_rfl) (by simp) (AllReadyH.cons rfl (fun K hK => ?_) AllReadyH.nil)
  refine step_wp (by rfl) ?_
  refine wp_buildSlice_d (some 28) _ _ _ _ rfl rfl #[.slice ad s.length caps, .slice a1 ((z16 s.length).length) c1, .slice ac c.length capc, .slice a2 ((z16 c.length).length) c2, .slice a3 (8) c3, .slice a4 (8) c4] iq (.slice none 0 0) Try.underlying56 HQ0.out HQ1.out (by rw [HQ2.out]; decide) (by rw [HQ2.out]; decide) (by rw [HQ2.out]; kernel_rfl) ?_
  obtain ⟨m5, hm5⟩ : ∃ wNew, wNew = World.alloc m4 (.cells #[.slice ad s.length caps, .slice a1 ((z16 s.length).length) c1, .slice ac c.length capc, .slice a2 ((z16 c.length).length) c2, .slice a3 (8) c3, .slice a4 (8) c4] 26) := ⟨_, rfl⟩
  rw [← hm5]
  have b5 : Ext m4 m5 := by rw [hm5]; exact Ext.alloc _ _
  obtain ⟨g5, hg5⟩ : ∃ gNew, gNew = (m4).heap.size := ⟨_, rfl⟩
  rw [← hg5]
  have r1 := r1.below b5
  have r2 := r2.below b5
  have r3 := r3.below b5
  have r4 := r4.below b5
  have r5 : Row1 m5 (.slice (some ⟨g5, 0, none⟩) 6 6) [.slice ad s.length caps, .slice a1 ((z16 s.length).length) c1, .slice ac c.length capc, .slice a2 ((z16 c.length).length) c2, .slice a3 (8) c3, .slice a4 (8) c4] := by rw [hm5, hg5]; exact Row1.made _ _ _ _ _ _ rfl rfl rfl (by unfold maxLen; omega)
  clear hm5 hg5
  have N5 : Ext w3 m5 := N4.trans b5
  refine hK.out _ _ (fars_ext N5) (fun hHeld => ?_)
  clear hK K
  try simp only [Act.put, List.getElem_toArray, List.getElem_cons_zero, List.getElem_cons_succ, List.setIfInBounds_toArray, List.set_cons_zero, List.set_cons_succ]
  refine wpAnyH_ready (rs := [12]) (by kernel_rfl) (by simp) (AllReadyH.cons rfl (fun K hK => ?_) AllReadyH.nil)
  go_simp
  refine (PSum_valA ok (.slice (some ⟨g5, 0, none⟩) 6 6) _ m _ HOL.out (rowB6 r5 ((HS3.out).below N5) r1 ((HC3.out).below N5) r2 r3 r4) HFL.out HML.out).mono ?_
  rintro e m6 ⟨rfl, b6⟩
  have r1 := r1.below b6
  have r2 := r2.below b6
  have r3 := r3.below b6
  have r4 := r4.below b6
  have r5 := r5.below b6
  have N6 : Ext w3 m6 := N5.trans b6
  refine hK.out _ _ (fars_ext N6) (fun hHeld => ?_)
  clear hK K
  try simp only [Act.put, List.getElem_toArray, List.getElem_cons_zero, List.getElem_cons_succ, List.setIfInBounds_toArray, List.set_cons_zero, List.set_cons_succ]
  refine wpAnyH_ready (rs := [13]) (by kernel_rfl) (by simp) (AllReadyH.cons rfl (fun K hK => ?_) AllReadyH.nil)
  refine step_wp (by rfl) ?_
  refine wp_store_blk _ _ _ rfl (A + 1 + 1) ((polyTag ok m).map bval) rfl rfl _ _ (ext_blk H3.out N6) (by rw [List.length_map, polyTag_length, ints_length]; rfl) (tag_size (polyTag_length _ _)) (bval_one _) ?_
  intro m7 hb7 hg7
  refine hK.out _ _ (fars_put N6 hg7) (fun hHeld => ?_)
  clear hK K
  try simp only [Act.put, List.getElem_toArray, List.getElem_cons_zero, List.getElem_cons_succ, List.setIfInBounds_toArray, List.set_cons_zero, List.set_cons_succ]
  refine wpAnyH_done (by kernel_rfl) ?_ _
  have hfin := hb7
  have hNN := ext_grown (HE.out.trans N6) hg7 HLA.out
  generalize m7 = w11 at hfin hNN ⊢
  have HIo : Hid ((Try.prog.info? 43).map (·.size) = some ((polyTag ok m).map bval).length) := Lib.hid (tag_size (polyTag_length _ _))
  go_wp2_with fail
  refine bodyPost_ret (result_blk rfl _ (A + 1 + 1) _ _ _ _ rfl hfin Try.underlying43 HIo.out) rfl ?_
  exact ⟨by rw [HTG.out], hNN⟩

set_option maxRecDepth 100000 in
set_option maxHeartbeats 4000000 in
theorem ASeal_num (kb nb p s : List UInt8) (pv sv : Value) (w : World) (hk : kb.length = 32) (hn : nb.length = 12) (hp : Row1 w pv (p.map bval)) (hs : Row1 w sv (s.map bval)) (hpl : p.length ≤ 1000000000) (hsl : s.length ≤ 1000000000) :
    Calls Try.prog 9 #[.agg (kb.map bval).toArray, .agg (nb.map bval).toArray, pv, sv] w fun e w' => ∃ x, e = .returned x ∧ w'.ownsRow w.heap.size 5 1 x (p.length + 16) ((sealB kb nb p s).map bval) ∧ Below w.heap.size w w' := by
  have HP0 := Lib.hid hp
  have HS0 := Lib.hid hs
  have HPL := Lib.hid hpl
  have HSL := Lib.hid hsl
  have HB := Lib.hid (boxes2 w (kb.map bval) (nb.map bval) 23 25)
  have HIK : Hid ((Try.prog.info? 23).map (·.size) = some (kb.map bval).length) := Lib.hid (num_size hk)
  have HIN : Hid ((Try.prog.info? 25).map (·.size) = some (nb.map bval).length) := Lib.hid (nonce_size hn)
  have HKL := Lib.hid hk
  have HNL := Lib.hid hn
  clear hp hs hk hn hpl hsl
  go_enter Try.func9, Try.ntmps9
  go_upto_region 1 with (fail)
  obtain ⟨H1, H2, HE⟩ := HB.out
  change Code.wp _ _ _ _ ((w.alloc (.cells (kb.map bval).toArray 23)).alloc (.cells (nb.map bval).toArray 25))
  generalize (w.alloc (.cells (kb.map bval).toArray 23)).alloc (.cells (nb.map bval).toArray 25) = wa at *
  obtain ⟨A, hA⟩ : ∃ A, A = w.heap.size := ⟨_, rfl⟩
  rw [← hA] at H1 H2 ⊢
  have H1 := Lib.hid H1
  have H2 := Lib.hid H2
  have HE : Hid (Ext w wa) := Lib.hid HE
  have HA := Lib.hid hA
  clear hA HB
  go_wp2_with (first | (refine wpList_load_blk rfl _ _ rfl A rfl _ _ _ _ H1.out Try.underlying23 HIK.out ?_) | (refine wpList_load_blk rfl _ _ rfl (A + 1) rfl _ _ _ _ H2.out Try.underlying25 HIN.out ?_))
  refine (aturned_any kb nb p _ wa HKL.out HNL.out (HP0.out.below HE.out) (by have := HPL.out; omega)).mono ?_
  rintro e w1 ⟨x1, rfl, ho1, hb1⟩
  have HO1 : Hid (w1.ownsRow w.heap.size 5 1 x1 p.length ((chaTurn kb 1 nb p).map bval)) := Lib.hid (own_mono ho1 HE.out.size)
  have H1 := Lib.hid (ext_blk H1.out hb1)
  have H2 := Lib.hid (ext_blk H2.out hb1)
  have HE := Lib.hid (HE.out.trans hb1)
  clear ho1 hb1
  have HCL := Lib.hid (chaTurn_length kb 1 nb p)
  have HSB : Hid (sealB kb nb p s = chaTurn kb 1 nb p ++ aeaTag kb nb (chaTurn kb 1 nb p) s) := Lib.hid rfl
  generalize chaTurn kb 1 nb p = c at *
  go_wp2_with (first | (refine wpList_load_blk rfl _ _ rfl A rfl _ _ _ _ H1.out Try.underlying23 HIK.out ?_) | (refine wpList_load_blk rfl _ _ rfl (A + 1) rfl _ _ _ _ H2.out Try.underlying25 HIN.out ?_))
  refine (atagOf_any kb nb c s _ _ w1 HKL.out HNL.out (Row1.of_own HO1.out) (HS0.out.below HE.out) (by rw [HCL.out]; exact HPL.out) HSL.out).mono ?_
  rintro e w2 ⟨rfl, hb⟩
  have HE := Lib.hid (HE.out.trans hb)
  have HO2 := Lib.hid (own_below HO1.out hb)
  clear hb HO1 H1 H2
  have HTL := Lib.hid (aeaTag_length kb nb c s)
  generalize aeaTag kb nb c s = tg at *
  have HZ := Lib.hid (Blk.made w2 (ints .u8 (List.replicate 16 0)) 43)
  have HEA := Lib.hid (Ext.alloc w2 (.cells (ints .u8 (List.replicate 16 0)).toArray 43))
  have HIT : Hid ((Try.prog.info? 43).map (·.size) = some (tg.map bval).length) := Lib.hid (tag_size HTL.out)
  have HLo : Hid ((tg.map bval).length = (ints .u8 (List.replicate 16 0)).length) := Lib.hid (by rw [List.length_map, HTL.out, ints_length, List.length_replicate])
  go_upto_region 3 with (refine wpList_store_blk rfl _ _ _ rfl w2.heap.size (tg.map bval) rfl rfl _ _ HZ.out HLo.out HIT.out (bval_one _) ?_; intro w3 hb3 hg3)
  have HE4 := Lib.hid (ext_grown HEA.out hg3 (Nat.le_refl _))
  have HO3 := Lib.hid (own_below HO2.out HE4.out)
  have HE := Lib.hid (HE.out.trans HE4.out)
  obtain ⟨T, hT⟩ : ∃ T, T = w2.heap.size := ⟨_, rfl⟩
  rw [← hT] at hb3 ⊢
  have HTR := Lib.hid (blk_row (n := 16) hb3 (by rw [List.length_map, HTL.out]) (by unfold maxLen; omega))
  clear hb3 hg3 HZ HEA HE4 HLo hT HO2
  have HR1 := Lib.hid (Row1.of_own HO3.out)
  obtain ⟨a1, c1, hx1, _⟩ := id HR1.out
  rw [List.length_map, HCL.out] at hx1
  subst hx1
  have HF : Hid ((c ++ tg).length = p.length + 16) := Lib.hid (by rw [List.length_append, HTL.out, HCL.out])
  clear HO3
  go_wp2_with fail
  refine (Concat_two _ _ c tg w3 HR1.out HTR.out (by rw [HF.out]; have := HPL.out; omega)).mono ?_
  rintro e w4 ⟨z, rfl, ho, hb⟩
  have HO4 := Lib.hid (own_mono ho HE.out.size)
  have HE4 := Lib.hid (HE.out.trans hb)
  clear ho hb
  go_wp2_with fail
  go_ret
  exact ⟨_, rfl, own_eq HO4.out HF.out (by rw [HSB.out]), HE4.out⟩

set_option maxRecDepth 100000 in
set_option maxHeartbeats 8000000 in
theorem AOpen_num (kb nb b s : List UInt8) (bv sv : Value) (w : World) (hk : kb.length = 32) (hn : nb.length = 12) (hb : Row1 w bv (b.map bval)) (hs : Row1 w sv (s.map bval)) (hbl : b.length ≤ 1000000000) (hsl : s.length ≤ 1000000000) :
    Calls Try.prog 10 #[.agg (kb.map bval).toArray, .agg (nb.map bval).toArray, bv, sv] w fun e w' => ∃ x, e = .returned (.tuple #[x, .int .i64 (aErr (openB kb nb b s))]) ∧ Row1 w' x (((openB kb nb b s).getD []).map bval) ∧ Below w.heap.size w w' := by
  have HB0 := Lib.hid hb
  have HS0 := Lib.hid hs
  have HBL := Lib.hid hbl
  have HSL := Lib.hid hsl
  obtain ⟨ab, capb, hbv, r1, r2, _⟩ := id hb
  rw [List.length_map] at hbv r1
  subst hbv
  obtain ⟨ad, caps, hsv, _⟩ := id hs
  subst hsv
  unfold maxLen at r2
  have HB := Lib.hid (boxes2 w (kb.map bval) (nb.map bval) 23 25)
  have HIK : Hid ((Try.prog.info? 23).map (·.size) = some (kb.map bval).length) := Lib.hid (num_size hk)
  have HIN : Hid ((Try.prog.info? 25).map (·.size) = some (nb.map bval).length) := Lib.hid (nonce_size hn)
  have HKL := Lib.hid hk
  have HNL := Lib.hid hn
  have hb0 : (0 : Int) ≤ (b.length : Int) := Int.natCast_nonneg _
  clear hb hs hk hn hsl
  go_enter Try.func10, Try.ntmps10
  go_upto_region 1 with (fail)
  obtain ⟨H1, H2, HE⟩ := HB.out
  change Code.wp _ _ _ _ ((w.alloc (.cells (kb.map bval).toArray 23)).alloc (.cells (nb.map bval).toArray 25))
  generalize (w.alloc (.cells (kb.map bval).toArray 23)).alloc (.cells (nb.map bval).toArray 25) = wa at *
  obtain ⟨A, hA⟩ : ∃ A, A = w.heap.size := ⟨_, rfl⟩
  rw [← hA] at H1 H2 ⊢
  have H1 := Lib.hid H1
  have H2 := Lib.hid H2
  have HE : Hid (Ext w wa) := Lib.hid HE
  clear hA HB
  by_cases h16 : b.length < 16
  · have h16' : (b.length : Int) - 16 < 0 := by omega
    have h17' : (b.length : Int) < 16 := by omega
    have HON := Lib.hid (openB_short kb nb s h16)
    go_wp2_with fail
    refine bodyPost_ret (res_two rfl _ _) rfl ?_
    exact ⟨_, by rw [HON.out]; rfl, by rw [HON.out]; exact Row1.nil _, HE.out⟩
  · obtain ⟨q, hq⟩ : ∃ q, q = b.length - 16 := ⟨_, rfl⟩
    have q1 : (b.length : Int) - 16 = (q : Int) := by omega
    have q0 : (0 : Int) ≤ (q : Int) := Int.natCast_nonneg _
    have q2 : ¬ (q : Int) < 0 := by omega
    have hql : q ≤ (b.map bval).length := by rw [List.length_map]; omega
    have HQL : Hid (q ≤ 1000000000) := Lib.hid (by omega)
    have HQT : Hid ((b.take q).length ≤ 1099511627776) := Lib.hid (by rw [List.length_take]; omega)
    have HOP : Hid (openB kb nb b s = if aeaTag kb nb (b.take q) s = b.drop q then some (chaTurn kb 1 nb (b.take q)) else none) := Lib.hid (by
      unfold openB
      rw [if_neg h16, ← hq])
    have HBR := Lib.hid (HB0.out.below HE.out)
    obtain ⟨vt, ht, st⟩ := row_upto Try.underlying26 Try.sizeOf5 HBR.out q hql
    obtain ⟨at1, nt1, ct1, rfl⟩ := row_form2 ht
    rw [← List.map_take] at ht
    have HTR := Lib.hid ht
    have HST := Lib.hid st
    obtain ⟨vh, hh, sh⟩ := row_cut Try.underlying26 Try.sizeOf5 HBR.out q hql
    obtain ⟨ah, nh, ch, rfl⟩ := row_form2 hh
    rw [← List.map_drop] at hh
    have HHR := Lib.hid hh
    have HSH := Lib.hid sh
    have hqcap : (q : Int) ≤ (capb : Int) := by rw [List.length_map] at hql; omega
    have HSR := Lib.hid (HS0.out.below HE.out)
    clear ht hh st sh hbl hq h16 hql
    have HTL := Lib.hid (aeaTag_length kb nb (b.take q) s)
    have HIT : Hid ((Try.prog.info? 43).map (·.size) = some ((aeaTag kb nb (b.take q) s).map bval).length) := Lib.hid (tag_size HTL.out)
    have HLo : Hid (((aeaTag kb nb (b.take q) s).map bval).length = (ints .u8 (List.replicate 16 0)).length) := Lib.hid (by rw [List.length_map, HTL.out, ints_length, List.length_replicate])
    have HCT : Hid (∀ wx, Ext wa wx → Calls Try.prog 18 #[.agg (kb.map bval).toArray, .agg (nb.map bval).toArray, .slice at1 nt1 ct1, .slice ad (s.map bval).length caps] wx fun e w' => e = .returned (.agg ((aeaTag kb nb (b.take q) s).map bval).toArray) ∧ Below wx.heap.size wx w') := Lib.hid (fun wx hx => atagOf_any kb nb (b.take q) s _ _ wx HKL.out HNL.out (HTR.out.below hx) (HSR.out.below hx) (by rw [List.length_take]; have := HQL.out; omega) HSL.out)
    obtain ⟨tg, htg⟩ : ∃ tg, tg = aeaTag kb nb (b.take q) s := ⟨_, rfl⟩
    rw [← htg] at HTL HIT HLo HCT HOP
    clear htg
    generalize (s.map bval).length = sl at *
    go_upto_region 4 with (fail)
    refine wp_region_from 7 2 8 rfl (by kernel_rfl) (by kernel_rfl) (fun d v c a w h => by cases d <;> exact h) (by kernel_rfl) ?_
    refine det_load _ _ A (kb.map bval) _ (by rfl) rfl rfl (fun w hw => ext_range H1.out hw) Try.underlying23 rfl HIK.out ?_
    simp only [Act.put, List.getElem_toArray, List.getElem_cons_zero, List.getElem_cons_succ, List.setIfInBounds_toArray, List.set_cons_zero, List.set_cons_succ]
    refine det_load _ _ (A + 1) (nb.map bval) _ (by rfl) rfl rfl (fun w hw => ext_range H2.out hw) Try.underlying25 rfl HIN.out ?_
    simp only [Act.put, List.getElem_toArray, List.getElem_cons_zero, List.getElem_cons_succ, List.setIfInBounds_toArray, List.set_cons_zero, List.set_cons_succ]
    refine det_move _ (.slice ab b.length capb) (by rfl) rfl rfl ?_
    simp only [Act.put, List.getElem_toArray, List.getElem_cons_zero, List.getElem_cons_succ, List.setIfInBounds_toArray, List.set_cons_zero, List.set_cons_succ]
    refine det_move _ (.int .i64 ((q : Nat) : Int)) (by rfl) rfl rfl ?_
    simp only [Act.put, List.getElem_toArray, List.getElem_cons_zero, List.getElem_cons_succ, List.setIfInBounds_toArray, List.set_cons_zero, List.set_cons_succ]
    refine det_val (.slice at1 nt1 ct1) (by rfl) (fun w hw => by have st := HST.out; unfold execOp; simp only [Act.eval, Sem.run_bind, Option.map_some, Option.map_none]; go_simp) ?_
    simp only [Act.put, List.getElem_toArray, List.getElem_cons_zero, List.getElem_cons_succ, List.setIfInBounds_toArray, List.set_cons_zero, List.set_cons_succ]
    refine det_move _ (.slice ad sl caps) (by rfl) rfl rfl ?_
    simp only [Act.put, List.getElem_toArray, List.getElem_cons_zero, List.getElem_cons_succ, List.setIfInBounds_toArray, List.set_cons_zero, List.set_cons_succ]
    refine det_call _ _ _ [.agg (kb.map bval).toArray, .agg (nb.map bval).toArray, .slice at1 nt1 ct1, .slice ad sl caps] (.agg (tg.map bval).toArray) (by rfl) rfl Try.call18 rfl (fun w hw => HCT.out w hw) ?_
    simp only [Act.put, List.getElem_toArray, List.getElem_cons_zero, List.getElem_cons_succ, List.setIfInBounds_toArray, List.set_cons_zero, List.set_cons_succ]
    refine det_nil (end_var (k := 7) _ 11 (.tmp 23) (ints .u8 (List.replicate 16 0)) (tg.map bval) rfl rfl (by kernel_rfl) (by kernel_rfl) (by kernel_rfl) (by kernel_rfl) (by kernel_rfl) rfl rfl rfl rfl Try.zeroValue43 rfl (by simp) (fun p => rfl) HLo.out HIT.out (bval_one _) (fun p7 w7 hp7 hb7 he7 => ?_))
    simp only [Act.put, List.getElem_toArray, List.getElem_cons_zero, List.getElem_cons_succ, List.setIfInBounds_toArray, List.set_cons_zero, List.set_cons_succ]
    have H1 := Lib.hid (ext_blk H1.out he7)
    have H2 := Lib.hid (ext_blk H2.out he7)
    have H7 := Lib.hid hb7
    have HB7 := Lib.hid (HBR.out.below he7)
    have HT7 := Lib.hid (HTR.out.below he7)
    have HH7 := Lib.hid (HHR.out.below he7)
    have HE := Lib.hid (HE.out.trans he7)
    clear hb7 he7 hp7 HCT HSR HBR HTR HHR HLo
    go_upto_region 5 with (fail)
    by_cases heq : tg = b.drop q
    · have HOS : Hid (openB kb nb b s = some (chaTurn kb 1 nb (b.take q))) := Lib.hid (by rw [HOP.out, if_pos heq])
      have rb := HH7.out
      have B0 : Ext w7 w7.drew := Ext.drew _
      refine wp_region_held_drew (S := fun w' => Ext w7 w') (by kernel_rfl) B0 (fun hHeld => ?_)
      have rb := rb.below (Ext.drew _)
      refine wpAnyH_take (i := 0) (v := .slice (some ⟨p7, 0, none⟩) 16 16) rfl (by kernel_rfl) (by kernel_rfl) (by kernel_rfl) (fun _ _ _ h => h) (yi_slice _ _ _ _ (.pointer (some ⟨p7, 0, none⟩)) (.slice (some ⟨p7, 0, none⟩) 16 16) none none (by rfl) rfl rfl rfl rfl (fun w => cut_whole Try.underlying43 Try.sizeOf5 (by omega) _ w)) hHeld ?_
      simp only [Act.put, List.getElem_toArray, List.getElem_cons_zero, List.getElem_cons_succ, List.setIfInBounds_toArray, List.set_cons_zero, List.set_cons_succ]
      refine wpAnyH_take (i := 1) (v := .slice ab b.length capb) rfl (by kernel_rfl) (by kernel_rfl) (by kernel_rfl) (fun _ _ _ h => h) (yi_move _ (.slice ab b.length capb) (by rfl) rfl rfl) hHeld ?_
      simp only [Act.put, List.getElem_toArray, List.getElem_cons_zero, List.getElem_cons_succ, List.setIfInBounds_toArray, List.set_cons_zero, List.set_cons_succ]
      refine wpAnyH_take (i := 2) (v := .int .i64 ((q : Nat) : Int)) rfl (by kernel_rfl) (by kernel_rfl) (by kernel_rfl) (fun _ _ _ h => h) (yi_move _ (.int .i64 ((q : Nat) : Int)) (by rfl) rfl rfl) hHeld ?_
      simp only [Act.put, List.getElem_toArray, List.getElem_cons_zero, List.getElem_cons_succ, List.setIfInBounds_toArray, List.set_cons_zero, List.set_cons_succ]
      refine wpAnyH_take (i := 3) (v := .slice ah nh ch) rfl (by kernel_rfl) (by kernel_rfl) (by kernel_rfl) (fun _ _ _ h => h) (yi_slice _ _ _ _ (.slice ab b.length capb) (.slice ah nh ch) (some (.int .i64 ((q : Nat) : Int))) none (by rfl) rfl rfl rfl rfl HSH.out) hHeld ?_
      simp only [Act.put, List.getElem_toArray, List.getElem_cons_zero, List.getElem_cons_succ, List.setIfInBounds_toArray, List.set_cons_zero, List.set_cons_succ]
      refine wpAnyH_ready (rs := [4]) (by kernel_rfl) (by simp) (AllReadyH.cons rfl (fun K hK => ?_) AllReadyH.nil)
      go_simp
      refine (same_true (.slice (some ⟨p7, 0, none⟩) 16 16) (.slice ah nh ch) tg (b.drop q) w7.drew ((blk_row (n := 16) H7.out (by rw [List.length_map]; exact HTL.out) (by unfold maxLen; omega)).below B0) rb heq).mono ?_
      rintro e m1 ⟨rfl, b1⟩
      have rb := rb.below b1
      have N1 : Ext w7 m1 := B0.trans b1
      refine hK.out _ _ N1 (fun hHeld => ?_)
      clear hK K
      try simp only [Act.put, List.getElem_toArray, List.getElem_cons_zero, List.getElem_cons_succ, List.setIfInBounds_toArray, List.set_cons_zero, List.set_cons_succ]
      refine wpAnyH_take (i := 5) (v := .bool false) rfl (by kernel_rfl) (by kernel_rfl) (by kernel_rfl) (fun _ _ _ h => h) (yi_not _ _ true (by rfl) rfl rfl) hHeld ?_
      simp only [Act.put, List.getElem_toArray, List.getElem_cons_zero, List.getElem_cons_succ, List.setIfInBounds_toArray, List.set_cons_zero, List.set_cons_succ]
      refine wpAnyH_done (by kernel_rfl) ?_ _
      have HN8 : Hid (Ext w7 m1) := Lib.hid N1
      generalize m1 = w8 at HN8 ⊢
      have H1 := Lib.hid (ext_blk H1.out HN8.out)
      have H2 := Lib.hid (ext_blk H2.out HN8.out)
      have HB8 := Lib.hid (HB7.out.below HN8.out)
      have HT8 := Lib.hid (HT7.out.below HN8.out)
      have HE := Lib.hid (HE.out.trans HN8.out)
      clear HOP heq
      go_upto_region 7 with (fail)
      have rt := HT8.out
      have B0 : Ext w8 w8.drew := Ext.drew _
      refine wp_region_held_drew (S := fun w' => Ext w8 w') (by kernel_rfl) B0 (fun hHeld => ?_)
      have rt := rt.below (Ext.drew _)
      refine wpAnyH_take (i := 0) (v := .agg ((kb).map bval).toArray) rfl (by kernel_rfl) (by kernel_rfl) (by kernel_rfl) (fun _ _ _ h => h) (yieldsIf_load_mid (by rfl) _ _ rfl A 0 rfl _ _ (fun w h => bl_range H1.out h) Try.underlying23 rfl HIK.out) hHeld ?_
      simp only [Act.put, List.getElem_toArray, List.getElem_cons_zero, List.getElem_cons_succ, List.setIfInBounds_toArray, List.set_cons_zero, List.set_cons_succ]
      refine wpAnyH_take (i := 1) (v := .agg ((nb).map bval).toArray) rfl (by kernel_rfl) (by kernel_rfl) (by kernel_rfl) (fun _ _ _ h => h) (yieldsIf_load_mid (by rfl) _ _ rfl (A + 1) 0 rfl _ _ (fun w h => bl_range H2.out h) Try.underlying25 rfl HIN.out) hHeld ?_
      simp only [Act.put, List.getElem_toArray, List.getElem_cons_zero, List.getElem_cons_succ, List.setIfInBounds_toArray, List.set_cons_zero, List.set_cons_succ]
      refine wpAnyH_take (i := 2) (v := .slice ab b.length capb) rfl (by kernel_rfl) (by kernel_rfl) (by kernel_rfl) (fun _ _ _ h => h) (yi_move _ (.slice ab b.length capb) (by rfl) rfl rfl) hHeld ?_
      simp only [Act.put, List.getElem_toArray, List.getElem_cons_zero, List.getElem_cons_succ, List.setIfInBounds_toArray, List.set_cons_zero, List.set_cons_succ]
      refine wpAnyH_take (i := 3) (v := .int .i64 ((q : Nat) : Int)) rfl (by kernel_rfl) (by kernel_rfl) (by kernel_rfl) (fun _ _ _ h => h) (yi_move _ (.int .i64 ((q : Nat) : Int)) (by rfl) rfl rfl) hHeld ?_
      simp only [Act.put, List.getElem_toArray, List.getElem_cons_zero, List.getElem_cons_succ, List.setIfInBounds_toArray, List.set_cons_zero, List.set_cons_succ]
      refine wpAnyH_take (i := 4) (v := .slice at1 nt1 ct1) rfl (by kernel_rfl) (by kernel_rfl) (by kernel_rfl) (fun _ _ _ h => h) (yi_slice _ _ _ _ (.slice ab b.length capb) (.slice at1 nt1 ct1) none (some (.int .i64 ((q : Nat) : Int))) (by rfl) rfl rfl rfl rfl HST.out) hHeld ?_
      simp only [Act.put, List.getElem_toArray, List.getElem_cons_zero, List.getElem_cons_succ, List.setIfInBounds_toArray, List.set_cons_zero, List.set_cons_succ]
      refine wpAnyH_ready (rs := [5]) (by kernel_rfl) (by simp) (AllReadyH.cons rfl (fun K hK => ?_) AllReadyH.nil)
      go_simp
      refine (aturned_any kb nb (b.take q) _ w8.drew HKL.out HNL.out rt HQT.out).mono ?_
      rintro e m1 ⟨x1, rfl, o1, b1⟩
      have rt := rt.below b1
      have r1 : Row1 m1 x1 ((chaTurn kb 1 nb (b.take q)).map bval) := Row1.of_own o1
      obtain ⟨a1, c1, hx1, _⟩ := id r1
      rw [show ((chaTurn kb 1 nb (b.take q)).map bval).length = (chaTurn kb 1 nb (b.take q)).length from by rw [List.length_map]] at hx1
      subst hx1
      have N1 : Ext w8 m1 := B0.trans b1
      refine hK.out _ _ N1 (fun hHeld => ?_)
      clear hK K
      try simp only [Act.put, List.getElem_toArray, List.getElem_cons_zero, List.getElem_cons_succ, List.setIfInBounds_toArray, List.set_cons_zero, List.set_cons_succ]
      refine wpAnyH_take (i := 6) (v := .slice a1 ((chaTurn kb 1 nb (b.take q)).length) c1) rfl (by kernel_rfl) (by kernel_rfl) (by kernel_rfl) (fun _ _ _ h => h) (yi_assign _ (.slice a1 ((chaTurn kb 1 nb (b.take q)).length) c1) (by rfl) rfl rfl) hHeld ?_
      simp only [Act.put, List.getElem_toArray, List.getElem_cons_zero, List.getElem_cons_succ, List.setIfInBounds_toArray, List.set_cons_zero, List.set_cons_succ]
      refine wpAnyH_ready (rs := [7]) (by kernel_rfl) (by simp) (AllReadyH.cons rfl (fun K hK => ?_) AllReadyH.nil)
      go_simp
      refine hK.out _ _ N1 (fun hHeld => ?_)
      clear hK K
      try simp only [Act.put, List.getElem_toArray, List.getElem_cons_zero, List.getElem_cons_succ, List.setIfInBounds_toArray, List.set_cons_zero, List.set_cons_succ]
      refine wpAnyH_done (by kernel_rfl) ?_ _
      go_wp2_with fail
      refine bodyPost_ret (res_two rfl _ _) rfl ?_
      exact ⟨_, by rw [HOS.out]; rfl, by rw [HOS.out]; exact r1, HE.out.trans N1⟩
    · have HOS : Hid (openB kb nb b s = none) := Lib.hid (by rw [HOP.out, if_neg heq])
      have rb := HH7.out
      have B0 : Ext w7 w7.drew := Ext.drew _
      refine wp_region_held_drew (S := fun w' => Ext w7 w') (by kernel_rfl) B0 (fun hHeld => ?_)
      have rb := rb.below (Ext.drew _)
      refine wpAnyH_take (i := 0) (v := .slice (some ⟨p7, 0, none⟩) 16 16) rfl (by kernel_rfl) (by kernel_rfl) (by kernel_rfl) (fun _ _ _ h => h) (yi_slice _ _ _ _ (.pointer (some ⟨p7, 0, none⟩)) (.slice (some ⟨p7, 0, none⟩) 16 16) none none (by rfl) rfl rfl rfl rfl (fun w => cut_whole Try.underlying43 Try.sizeOf5 (by omega) _ w)) hHeld ?_
      simp only [Act.put, List.getElem_toArray, List.getElem_cons_zero, List.getElem_cons_succ, List.setIfInBounds_toArray, List.set_cons_zero, List.set_cons_succ]
      refine wpAnyH_take (i := 1) (v := .slice ab b.length capb) rfl (by kernel_rfl) (by kernel_rfl) (by kernel_rfl) (fun _ _ _ h => h) (yi_move _ (.slice ab b.length capb) (by rfl) rfl rfl) hHeld ?_
      simp only [Act.put, List.getElem_toArray, List.getElem_cons_zero, List.getElem_cons_succ, List.setIfInBounds_toArray, List.set_cons_zero, List.set_cons_succ]
      refine wpAnyH_take (i := 2) (v := .int .i64 ((q : Nat) : Int)) rfl (by kernel_rfl) (by kernel_rfl) (by kernel_rfl) (fun _ _ _ h => h) (yi_move _ (.int .i64 ((q : Nat) : Int)) (by rfl) rfl rfl) hHeld ?_
      simp only [Act.put, List.getElem_toArray, List.getElem_cons_zero, List.getElem_cons_succ, List.setIfInBounds_toArray, List.set_cons_zero, List.set_cons_succ]
      refine wpAnyH_take (i := 3) (v := .slice ah nh ch) rfl (by kernel_rfl) (by kernel_rfl) (by kernel_rfl) (fun _ _ _ h => h) (yi_slice _ _ _ _ (.slice ab b.length capb) (.slice ah nh ch) (some (.int .i64 ((q : Nat) : Int))) none (by rfl) rfl rfl rfl rfl HSH.out) hHeld ?_
      simp only [Act.put, List.getElem_toArray, List.getElem_cons_zero, List.getElem_cons_succ, List.setIfInBounds_toArray, List.set_cons_zero, List.set_cons_succ]
      refine wpAnyH_ready (rs := [4]) (by kernel_rfl) (by simp) (AllReadyH.cons rfl (fun K hK => ?_) AllReadyH.nil)
      go_simp
      refine (same_false (.slice (some ⟨p7, 0, none⟩) 16 16) (.slice ah nh ch) tg (b.drop q) w7.drew ((blk_row (n := 16) H7.out (by rw [List.length_map]; exact HTL.out) (by unfold maxLen; omega)).below B0) rb heq).mono ?_
      rintro e m1 ⟨rfl, b1⟩
      have rb := rb.below b1
      have N1 : Ext w7 m1 := B0.trans b1
      refine hK.out _ _ N1 (fun hHeld => ?_)
      clear hK K
      try simp only [Act.put, List.getElem_toArray, List.getElem_cons_zero, List.getElem_cons_succ, List.setIfInBounds_toArray, List.set_cons_zero, List.set_cons_succ]
      refine wpAnyH_take (i := 5) (v := .bool true) rfl (by kernel_rfl) (by kernel_rfl) (by kernel_rfl) (fun _ _ _ h => h) (yi_not _ _ false (by rfl) rfl rfl) hHeld ?_
      simp only [Act.put, List.getElem_toArray, List.getElem_cons_zero, List.getElem_cons_succ, List.setIfInBounds_toArray, List.set_cons_zero, List.set_cons_succ]
      refine wpAnyH_done (by kernel_rfl) ?_ _
      have HN8 : Hid (Ext w7 m1) := Lib.hid N1
      generalize m1 = w8 at HN8 ⊢
      have HE := Lib.hid (HE.out.trans HN8.out)
      clear HOP heq
      go_wp2_with fail
      refine bodyPost_ret (res_two rfl _ _) rfl ?_
      exact ⟨_, by rw [HOS.out]; rfl, by rw [HOS.out]; exact Row1.nil _, HE.out⟩

end Go.Proofs.Ytflefkmpllbeeaa

/- The walk of what every law of chapter 11 begins with: alive. Each theorem names its own conditions. -/
namespace Go.Proofs.Ytflefkmpllbeeaa
open Go.RowKit
set_option linter.unusedVariables false
set_option linter.unusedSimpArgs false

theorem build_noncea (w : World) : (Instr.build 25 #[]).run Try.prog w = .ok (.agg ((zB 12).map bval).toArray) w := by
  simp [Instr.build, Try.zeroValue25]
  rfl
theorem asize_alloc (w : World) (o : Obj) : (w.alloc o).heap.size = w.heap.size + 1 := by simp
theorem num_any (n : Int) (w : World) : Calls Try.prog 12 #[.int .i64 n] w fun e w' => e = .returned (.int .i64 n) ∧ w = w' := by
  go_enter Try.func12, Try.ntmps12
  go_wp2_with fail
  go_ret
  exact ⟨rfl, rfl⟩
def al1 : List UInt8 := sealB (smL 1) (zB 12) [120] [121]
theorem al_open : openB (smL 1) (zB 12) al1 [121] = some [120] := open_seal _ _ _ _
theorem al_other : openB (smL 1) (zB 12) al1 [] = none := by decide +kernel
theorem al1_length : al1.length = 17 := sealB_length _ _ _ _

set_option maxRecDepth 100000 in
set_option maxHeartbeats 4000000 in
theorem alive_any11 (w : World) : Calls Try.prog 8 #[] w fun e w' => e = .returned (.bool true) ∧ Below w.heap.size w w' := by
  have kb1 := build_one
  have kbn := build_noncea
  have kc := fun (w : World) (C : Array Value) (n c : Nat) => Lib.run_convert_bytes_const (P := Try.prog) w 26 5 C n c Try.underlying26 Try.underlying5
  have kc2 := fun (w : World) (D C : Array Value) (fr : Nat × Nat) (n c : Nat) => kc (w.alloc (.cells D 5 fr)) C n c
  simp only [asize_alloc] at kc2
  go_enter Try.func8, Try.ntmps8
  go_wp2_with fail
  refine (ASeal_num (smL 1) (zB 12) [] [] _ _ w (smL_length _) (zB_length _) (Row1.nil w) (Row1.nil w) (by decide) (by decide)).mono ?_
  rintro e w1 ⟨x1, rfl, ho1, hb1⟩
  obtain ⟨a1, cp1, hx1, _⟩ := id (Row1.of_own ho1)
  rw [List.length_map, sealB_length] at hx1
  subst hx1
  have HE := Lib.hid (show Ext w w1 from hb1)
  clear ho1 hb1
  go_wp2_with fail
  have hx0 : Row1 (w1.alloc (.cells #[.int .u8 120] 5 (1, 2))) (.slice (some ⟨w1.heap.size, 0, none⟩) 1 1) (([120] : List UInt8).map bval) := Row1.made_mark w1 _ _ _ _ _ _ rfl rfl rfl (by unfold maxLen; omega)
  have HX := Lib.hid (hx0.below (Ext.alloc (w1.alloc (.cells #[.int .u8 120] 5 (1, 2))) (.cells #[.int .u8 121] 5 (1, 2))))
  have HY : Hid (Row1 ((w1.alloc (.cells #[.int .u8 120] 5 (1, 2))).alloc (.cells #[.int .u8 121] 5 (1, 2))) (.slice (some ⟨w1.heap.size + 1, 0, none⟩) 1 1) (([121] : List UInt8).map bval)) := Lib.hid (by
    rw [← asize_alloc w1 (.cells #[.int .u8 120] 5 (1, 2))]
    exact Row1.made_mark _ _ _ _ _ _ _ rfl rfl rfl (by unfold maxLen; omega))
  clear hx0
  have HE := Lib.hid (HE.out.trans ((Ext.alloc w1 (.cells #[.int .u8 120] 5 (1, 2))).trans (Ext.alloc _ (.cells #[.int .u8 121] 5 (1, 2)))))
  generalize (w1.alloc (.cells #[.int .u8 120] 5 (1, 2))).alloc (.cells #[.int .u8 121] 5 (1, 2)) = w2 at *
  refine (ASeal_num (smL 1) (zB 12) [120] [121] _ _ w2 (smL_length _) (zB_length _) HX.out HY.out (by decide) (by decide)).mono ?_
  rintro e w3 ⟨x3, rfl, ho3, hb3⟩
  obtain ⟨a3, cp3, hx3, _⟩ := id (Row1.of_own ho3)
  rw [List.length_map, sealB_length] at hx3
  subst hx3
  have HC := Lib.hid (show Row1 w3 (.slice a3 ([120].length + 16) cp3) (al1.map bval) from Row1.of_own ho3)
  have HE := Lib.hid (HE.out.trans hb3)
  clear ho3 hb3 HX HY
  go_wp2_with fail
  have HY : Hid (Row1 (w3.alloc (.cells #[.int .u8 121] 5 (1, 2))) (.slice (some ⟨w3.heap.size, 0, none⟩) 1 1) (([121] : List UInt8).map bval)) := Lib.hid (Row1.made_mark w3 _ _ _ _ _ _ rfl rfl rfl (by unfold maxLen; omega))
  have HE := Lib.hid (HE.out.trans (Ext.alloc w3 (.cells #[.int .u8 121] 5 (1, 2))))
  have HC := Lib.hid (HC.out.below (Ext.alloc w3 (.cells #[.int .u8 121] 5 (1, 2))))
  generalize w3.alloc (.cells #[.int .u8 121] 5 (1, 2)) = w4 at *
  refine (AOpen_num (smL 1) (zB 12) al1 [121] _ _ w4 (smL_length _) (zB_length _) HC.out HY.out (by rw [al1_length]; omega) (by decide)).mono ?_
  rintro e w5 ⟨x5, rfl, hr5, hb5⟩
  rw [al_open] at hr5
  have HAO := Lib.hid al_open
  rw [HAO.out]
  obtain ⟨a5, cp5, hx5, _⟩ := id hr5
  rw [List.length_map] at hx5
  subst hx5
  have HP := Lib.hid hr5
  have HE := Lib.hid (HE.out.trans hb5)
  have HC := Lib.hid (HC.out.below hb5)
  clear hr5 hb5 HY
  simp only [aErr, Option.isSome_some, if_true]
  go_wp2_with fail
  refine (AOpen_num (smL 1) (zB 12) al1 [] _ _ w5 (smL_length _) (zB_length _) HC.out (Row1.nil w5) (by rw [al1_length]; omega) (by decide)).mono ?_
  rintro e w6 ⟨x6, rfl, hr6, hb6⟩
  have HAN := Lib.hid al_other
  rw [HAN.out]
  have HP := Lib.hid (HP.out.below hb6)
  have HE := Lib.hid (HE.out.trans hb6)
  clear hr6 hb6 HC
  simp only [aErr, Option.isSome_none]
  go_wp2_with fail
  refine (num_any 0 w6).mono ?_
  rintro e w7 ⟨rfl, rfl⟩
  have kp := fun (w : World) (h : Row1 w (.slice a5 1 cp5) (([120] : List UInt8).map bval)) => run_string_row _ _ 5 Try.underlying26 Try.underlying5 Try.underlying9 h
  have kp6 := kp w6 HP.out
  go_wp2_with fail
  refine (num_any 10 _).mono ?_
  rintro e w8 ⟨rfl, rfl⟩
  go_wp2_with fail
  go_ret
  exact ⟨rfl, HE.out⟩

end Go.Proofs.Ytflefkmpllbeeaa

/- The walk of AeadSeals. Each theorem names its own conditions. -/
namespace Go.Proofs.Ytflefkmpllbeeaa
open Go.RowKit
set_option linter.unusedVariables false
set_option linter.unusedSimpArgs false

theorem str_row {w : World} {a : Option Addr} {n c : Nat} {l : List UInt8} (h : Row1 w (.slice a n c) (l.map bval)) : (convert 26 9 (.slice a n c)).run Try.prog w = .ok (.string ⟨l.toArray⟩) w :=
  run_string_row _ _ 5 Try.underlying26 Try.underlying5 Try.underlying9 h

theorem num_b (n : Int) (w : World) : Calls Try.prog 12 #[.int .i64 n] w fun e w' => e = .returned (.int .i64 n) ∧ Below w.heap.size w w' :=
  (num_any n w).mono fun e w' h => ⟨h.1, by rw [← h.2]; exact Below.refl _ _⟩
theorem rSeal_b (kb nb p s b : List UInt8) (pv sv : Value) (w : World) (hk : kb.length = 32) (hn : nb.length = 12) (hp : Row1 w pv (p.map bval)) (hs : Row1 w sv (s.map bval)) (hpl : p.length ≤ 1000000000) (hsl : s.length ≤ 1000000000) (hb : b = sealB kb nb p s) :
    Calls Try.prog 11 #[.agg (kb.map bval).toArray, .agg (nb.map bval).toArray, pv, sv] w fun e w' => ∃ x, e = .returned x ∧ w'.ownsRow w.heap.size 5 1 x (p.length + 16) (b.map bval) ∧ Below w.heap.size w w' := by
  rw [hb]
  exact rSeal_any kb nb p s pv sv w hk hn hp hs hpl hsl

set_option maxRecDepth 100000 in
set_option maxHeartbeats 8000000 in
theorem aeadSeals_any (kb nb p s : List UInt8) (pv sv : Value) (w : World) (hk : kb.length = 32) (hn : nb.length = 12) (hp : Row1 w pv (p.map bval)) (hs : Row1 w sv (s.map bval)) :
    Calls Try.prog 3 #[.agg (kb.map bval).toArray, .agg (nb.map bval).toArray, pv, sv] w fun e w' => e = .returned (.bool true) ∧ Below w.heap.size w w' := by
  have HP0 := Lib.hid hp
  have HS0 := Lib.hid hs
  obtain ⟨ap, capp, hpv, p1, p2, _⟩ := id hp
  obtain ⟨ad, capd, hsv, s1, s2, _⟩ := id hs
  rw [List.length_map] at hpv p1 hsv s1
  subst hpv hsv
  unfold maxLen at p2 s2
  have HB := Lib.hid (boxes2 w (kb.map bval) (nb.map bval) 23 25)
  have HIK : Hid ((Try.prog.info? 23).map (·.size) = some (kb.map bval).length) := Lib.hid (num_size hk)
  have HIN : Hid ((Try.prog.info? 25).map (·.size) = some (nb.map bval).length) := Lib.hid (nonce_size hn)
  have HKL := Lib.hid hk
  have HNL := Lib.hid hn
  clear hp hs hk hn
  go_enter Try.func3, Try.ntmps3
  go_upto_region 1 with (fail)
  obtain ⟨H1, H2, HE⟩ := HB.out
  change Code.wp _ _ _ _ ((w.alloc (.cells (kb.map bval).toArray 23)).alloc (.cells (nb.map bval).toArray 25))
  generalize (w.alloc (.cells (kb.map bval).toArray 23)).alloc (.cells (nb.map bval).toArray 25) = wa at *
  obtain ⟨A, hA⟩ : ∃ A, A = w.heap.size := ⟨_, rfl⟩
  rw [← hA] at H1 H2 ⊢
  have H1 := Lib.hid H1
  have H2 := Lib.hid H2
  have HE : Hid (Ext w wa) := Lib.hid HE
  clear hA HB
  go_wp2_with fail
  refine (alive_any11 wa).mono ?_
  rintro e w1 ⟨rfl, hb⟩
  have H1 := Lib.hid (ext_blk H1.out hb)
  have H2 := Lib.hid (ext_blk H2.out hb)
  have HE := Lib.hid (HE.out.trans hb)
  clear hb
  by_cases h1 : 1000 < p.length
  · have h1' : (1000 : Int) < (p.length : Int) := by omega
    go_wp2_with fail
    go_ret
    exact ⟨rfl, HE.out⟩
  · have h1' : decide ((1000 : Int) < (p.length : Int)) = false := decide_eq_false (by omega)
    have HPL : Hid (p.length ≤ 1000) := Lib.hid (by omega)
    clear h1
    by_cases h2 : 500 < s.length
    · have h2' : (500 : Int) < (s.length : Int) := by omega
      go_wp2_with fail
      go_ret
      exact ⟨rfl, HE.out⟩
    · have h2' : decide ((500 : Int) < (s.length : Int)) = false := decide_eq_false (by omega)
      have HSL : Hid (s.length ≤ 500) := Lib.hid (by omega)
      clear h2
      go_wp2_with (first | (refine wpList_load_blk rfl _ _ rfl A rfl _ _ _ _ H1.out Try.underlying23 HIK.out ?_) | (refine wpList_load_blk rfl _ _ rfl (A + 1) rfl _ _ _ _ H2.out Try.underlying25 HIN.out ?_))
      refine (ASeal_num kb nb p s _ _ w1 HKL.out HNL.out (HP0.out.below HE.out) (HS0.out.below HE.out) (by have := HPL.out; omega) (by have := HSL.out; omega)).mono ?_
      rintro e w2 ⟨x2, rfl, ho2, hb2⟩
      have hr2 := Row1.of_own ho2
      have HBL : Hid ((sealB kb nb p s).length ≤ 1016) := Lib.hid (by rw [sealB_length]; have := HPL.out; omega)
      have HOP := Lib.hid (open_seal kb nb p s)
      obtain ⟨b, hbb⟩ : ∃ b, b = sealB kb nb p s := ⟨_, rfl⟩
      rw [← hbb] at hr2 HBL HOP
      have HBB := Lib.hid hbb
      obtain ⟨a2, c2, n2, rfl⟩ := row_form2 hr2
      have HR2 := Lib.hid hr2
      have H1 := Lib.hid (ext_blk H1.out hb2)
      have H2 := Lib.hid (ext_blk H2.out hb2)
      have HE := Lib.hid (HE.out.trans hb2)
      clear ho2 hb2 hr2 hbb
      go_wp2_with (first | (refine wpList_load_blk rfl _ _ rfl A rfl _ _ _ _ H1.out Try.underlying23 HIK.out ?_) | (refine wpList_load_blk rfl _ _ rfl (A + 1) rfl _ _ _ _ H2.out Try.underlying25 HIN.out ?_))
      refine (AOpen_num kb nb b s _ _ w2 HKL.out HNL.out HR2.out (HS0.out.below HE.out) (by have := HBL.out; omega) (by have := HSL.out; omega)).mono ?_
      rintro e w3 ⟨x3, rfl, hr3, hb3⟩
      rw [HOP.out] at hr3 ⊢
      obtain ⟨a3, c3, n3, rfl⟩ := row_form2 hr3
      have HR3 := Lib.hid (show Row1 w3 _ (p.map bval) from hr3)
      have HR2 := Lib.hid (HR2.out.below hb3)
      have H1 := Lib.hid (ext_blk H1.out hb3)
      have H2 := Lib.hid (ext_blk H2.out hb3)
      have HE := Lib.hid (HE.out.trans hb3)
      clear hr3 hb3
      simp only [aErr, Option.isSome_some, if_true]
      have HP3 := Lib.hid (HP0.out.below HE.out)
      have HS3 := Lib.hid (HS0.out.below HE.out)
      go_upto_region 6 with (fail)
      have B0 : Ext w3 w3.drew := Ext.drew _
      refine wp_region_held_drew (S := fun w' => Ext w3 w') (by kernel_rfl) B0 (fun hHeld => ?_)
      refine wpAnyH_take (i := 0) (v := .slice a2 c2 n2) rfl (by kernel_rfl) (by kernel_rfl) (by kernel_rfl) (fun _ _ _ h => h) (yi_move _ (.slice a2 c2 n2) (by rfl) rfl rfl) hHeld ?_
      simp only [Act.put, List.getElem_toArray, List.getElem_cons_zero, List.getElem_cons_succ, List.setIfInBounds_toArray, List.set_cons_zero, List.set_cons_succ]
      refine wpAnyH_take (i := 1) (v := .string ⟨(b).toArray⟩) rfl (by kernel_rfl) (by kernel_rfl) (by kernel_rfl) (fun _ _ _ h => h) (yi_conv _ _ _ (.slice a2 c2 n2) _ (by rfl) rfl rfl (fun w h => run_string_row _ _ 5 Try.underlying26 Try.underlying5 Try.underlying9 ((HR2.out).below h))) hHeld ?_
      simp only [Act.put, List.getElem_toArray, List.getElem_cons_zero, List.getElem_cons_succ, List.setIfInBounds_toArray, List.set_cons_zero, List.set_cons_succ]
      refine wpAnyH_take (i := 2) (v := .agg ((kb).map bval).toArray) rfl (by kernel_rfl) (by kernel_rfl) (by kernel_rfl) (fun _ _ _ h => h) (yieldsIf_load_mid (by rfl) _ _ rfl A 0 rfl _ _ (fun w h => bl_range H1.out h) Try.underlying23 rfl HIK.out) hHeld ?_
      simp only [Act.put, List.getElem_toArray, List.getElem_cons_zero, List.getElem_cons_succ, List.setIfInBounds_toArray, List.set_cons_zero, List.set_cons_succ]
      refine wpAnyH_take (i := 3) (v := .agg ((nb).map bval).toArray) rfl (by kernel_rfl) (by kernel_rfl) (by kernel_rfl) (fun _ _ _ h => h) (yieldsIf_load_mid (by rfl) _ _ rfl (A + 1) 0 rfl _ _ (fun w h => bl_range H2.out h) Try.underlying25 rfl HIN.out) hHeld ?_
      simp only [Act.put, List.getElem_toArray, List.getElem_cons_zero, List.getElem_cons_succ, List.setIfInBounds_toArray, List.set_cons_zero, List.set_cons_succ]
      refine wpAnyH_take (i := 4) (v := .slice ap p.length capp) rfl (by kernel_rfl) (by kernel_rfl) (by kernel_rfl) (fun _ _ _ h => h) (yi_move _ (.slice ap p.length capp) (by rfl) rfl rfl) hHeld ?_
      simp only [Act.put, List.getElem_toArray, List.getElem_cons_zero, List.getElem_cons_succ, List.setIfInBounds_toArray, List.set_cons_zero, List.set_cons_succ]
      refine wpAnyH_take (i := 5) (v := .slice ad s.length capd) rfl (by kernel_rfl) (by kernel_rfl) (by kernel_rfl) (fun _ _ _ h => h) (yi_move _ (.slice ad s.length capd) (by rfl) rfl rfl) hHeld ?_
      simp only [Act.put, List.getElem_toArray, List.getElem_cons_zero, List.getElem_cons_succ, List.setIfInBounds_toArray, List.set_cons_zero, List.set_cons_succ]
      refine wpAnyH_ready (rs := [6]) (by kernel_rfl) (by simp) (AllReadyH.cons rfl (fun K hK => ?_) AllReadyH.nil)
      go_simp
      refine (rSeal_b kb nb p s b _ _ _ HKL.out HNL.out ((HP3.out).below B0) ((HS3.out).below B0) (by have := HPL.out; omega) (by have := HSL.out; omega) HBB.out).mono ?_
      rintro e m1 ⟨x1, rfl, o1, b1⟩
      have r1 : Row1 m1 x1 ((b).map bval) := Row1.of_own o1
      obtain ⟨a1, c1, hx1, _⟩ := id r1
      rw [show ((b).map bval).length = b.length from by rw [List.length_map]] at hx1
      subst hx1
      have N1 : Ext w3 m1 := B0.trans b1
      refine hK.out _ _ N1 (fun hHeld => ?_)
      clear hK K
      try simp only [Act.put, List.getElem_toArray, List.getElem_cons_zero, List.getElem_cons_succ, List.setIfInBounds_toArray, List.set_cons_zero, List.set_cons_succ]
      refine wpAnyH_ready (rs := [7]) (by kernel_rfl) (by simp) (AllReadyH.cons rfl (fun K hK => ?_) AllReadyH.nil)
      refine step_wp (by rfl) ?_
      refine wp_conv_d (some 47) _ _ _ _ _ (m1) rfl rfl rfl (run_string_row 26 9 5 Try.underlying26 Try.underlying5 Try.underlying9 r1) ?_
      refine hK.out _ _ N1 (fun hHeld => ?_)
      clear hK K
      try simp only [Act.put, List.getElem_toArray, List.getElem_cons_zero, List.getElem_cons_succ, List.setIfInBounds_toArray, List.set_cons_zero, List.set_cons_succ]
      refine wpAnyH_take (i := 8) (v := .bool true) rfl (by kernel_rfl) (by kernel_rfl) (by kernel_rfl) (fun _ _ _ h => h) (yi_eqt _ _ _ _ (b) (b) true (decide_eq_true (rfl)) (by rfl) rfl rfl rfl) hHeld ?_
      simp only [Act.put, List.getElem_toArray, List.getElem_cons_zero, List.getElem_cons_succ, List.setIfInBounds_toArray, List.set_cons_zero, List.set_cons_succ]
      refine wpAnyH_take (i := 9) (v := .bool true) rfl (by kernel_rfl) (by kernel_rfl) (by kernel_rfl) (fun _ _ _ h => h) (yi_move _ (.bool true) (by rfl) rfl rfl) hHeld ?_
      simp only [Act.put, List.getElem_toArray, List.getElem_cons_zero, List.getElem_cons_succ, List.setIfInBounds_toArray, List.set_cons_zero, List.set_cons_succ]
      refine wpAnyH_take (i := 10) (v := .int .i64 0) rfl (by kernel_rfl) (by kernel_rfl) (by kernel_rfl) (fun _ _ _ h => h) (yi_move _ (.int .i64 0) (by rfl) rfl rfl) hHeld ?_
      simp only [Act.put, List.getElem_toArray, List.getElem_cons_zero, List.getElem_cons_succ, List.setIfInBounds_toArray, List.set_cons_zero, List.set_cons_succ]
      refine wpAnyH_ready (rs := [11]) (by kernel_rfl) (by simp) (AllReadyH.cons rfl (fun K hK => ?_) AllReadyH.nil)
      go_simp
      refine (num_b 0 _).mono ?_
      rintro e m2 ⟨rfl, b2⟩
      have r1 := r1.below b2
      have N2 : Ext w3 m2 := N1.trans b2
      refine hK.out _ _ N2 (fun hHeld => ?_)
      clear hK K
      try simp only [Act.put, List.getElem_toArray, List.getElem_cons_zero, List.getElem_cons_succ, List.setIfInBounds_toArray, List.set_cons_zero, List.set_cons_succ]
      refine wpAnyH_take (i := 12) (v := .bool true) rfl (by kernel_rfl) (by kernel_rfl) (by kernel_rfl) (fun _ _ _ h => h) (yi_eqi .i64 _ _ _ _ _ _ true (decide_eq_true (rfl)) (by rfl) rfl rfl rfl) hHeld ?_
      simp only [Act.put, List.getElem_toArray, List.getElem_cons_zero, List.getElem_cons_succ, List.setIfInBounds_toArray, List.set_cons_zero, List.set_cons_succ]
      refine wpAnyH_take (i := 13) (v := .bool true) rfl (by kernel_rfl) (by kernel_rfl) (by kernel_rfl) (fun _ _ _ h => h) (yi_pick _ _ _ true _ (by rfl) rfl rfl rfl) hHeld ?_
      simp only [Act.put, List.getElem_toArray, List.getElem_cons_zero, List.getElem_cons_succ, List.setIfInBounds_toArray, List.set_cons_zero, List.set_cons_succ]
      refine wpAnyH_take (i := 14) (v := .bool true) rfl (by kernel_rfl) (by kernel_rfl) (by kernel_rfl) (fun _ _ _ h => h) (yi_move _ (.bool true) (by rfl) rfl rfl) hHeld ?_
      simp only [Act.put, List.getElem_toArray, List.getElem_cons_zero, List.getElem_cons_succ, List.setIfInBounds_toArray, List.set_cons_zero, List.set_cons_succ]
      refine wpAnyH_take (i := 15) (v := .slice a3 c3 n3) rfl (by kernel_rfl) (by kernel_rfl) (by kernel_rfl) (fun _ _ _ h => h) (yi_move _ (.slice a3 c3 n3) (by rfl) rfl rfl) hHeld ?_
      simp only [Act.put, List.getElem_toArray, List.getElem_cons_zero, List.getElem_cons_succ, List.setIfInBounds_toArray, List.set_cons_zero, List.set_cons_succ]
      refine wpAnyH_take (i := 16) (v := .string ⟨(p).toArray⟩) rfl (by kernel_rfl) (by kernel_rfl) (by kernel_rfl) (fun _ _ _ h => h) (yi_conv _ _ _ (.slice a3 c3 n3) _ (by rfl) rfl rfl (fun w h => run_string_row _ _ 5 Try.underlying26 Try.underlying5 Try.underlying9 ((HR3.out).below h))) hHeld ?_
      simp only [Act.put, List.getElem_toArray, List.getElem_cons_zero, List.getElem_cons_succ, List.setIfInBounds_toArray, List.set_cons_zero, List.set_cons_succ]
      refine wpAnyH_take (i := 17) (v := .slice ap p.length capp) rfl (by kernel_rfl) (by kernel_rfl) (by kernel_rfl) (fun _ _ _ h => h) (yi_move _ (.slice ap p.length capp) (by rfl) rfl rfl) hHeld ?_
      simp only [Act.put, List.getElem_toArray, List.getElem_cons_zero, List.getElem_cons_succ, List.setIfInBounds_toArray, List.set_cons_zero, List.set_cons_succ]
      refine wpAnyH_take (i := 18) (v := .string ⟨(p).toArray⟩) rfl (by kernel_rfl) (by kernel_rfl) (by kernel_rfl) (fun _ _ _ h => h) (yi_conv _ _ _ (.slice ap p.length capp) _ (by rfl) rfl rfl (fun w h => run_string_row _ _ 5 Try.underlying26 Try.underlying5 Try.underlying9 ((HP3.out).below h))) hHeld ?_
      simp only [Act.put, List.getElem_toArray, List.getElem_cons_zero, List.getElem_cons_succ, List.setIfInBounds_toArray, List.set_cons_zero, List.set_cons_succ]
      refine wpAnyH_take (i := 19) (v := .bool true) rfl (by kernel_rfl) (by kernel_rfl) (by kernel_rfl) (fun _ _ _ h => h) (yi_eqt _ _ _ _ (p) (p) true (decide_eq_true (rfl)) (by rfl) rfl rfl rfl) hHeld ?_
      simp only [Act.put, List.getElem_toArray, List.getElem_cons_zero, List.getElem_cons_succ, List.setIfInBounds_toArray, List.set_cons_zero, List.set_cons_succ]
      refine wpAnyH_take (i := 20) (v := .bool true) rfl (by kernel_rfl) (by kernel_rfl) (by kernel_rfl) (fun _ _ _ h => h) (yi_pick _ _ _ true _ (by rfl) rfl rfl rfl) hHeld ?_
      simp only [Act.put, List.getElem_toArray, List.getElem_cons_zero, List.getElem_cons_succ, List.setIfInBounds_toArray, List.set_cons_zero, List.set_cons_succ]
      refine wpAnyH_ready (rs := [21]) (by kernel_rfl) (by simp) (AllReadyH.cons rfl (fun K hK => ?_) AllReadyH.nil)
      go_simp
      refine hK.out _ _ N2 (fun hHeld => ?_)
      clear hK K
      try simp only [Act.put, List.getElem_toArray, List.getElem_cons_zero, List.getElem_cons_succ, List.setIfInBounds_toArray, List.set_cons_zero, List.set_cons_succ]
      refine wpAnyH_done (by kernel_rfl) ?_ _
      go_wp2_with fail
      go_ret
      exact ⟨rfl, HE.out.trans N2⟩

end Go.Proofs.Ytflefkmpllbeeaa

/- The walk of AeadMade. Laid by wip/gen/gaea6.py. Each theorem names its own conditions. -/
namespace Go.Proofs.Ytflefkmpllbeeaa
open Go.RowKit
set_option linter.unusedVariables false
set_option linter.unusedSimpArgs false

/-- The lengths' bytes, k of each. -/
def nL (x y k : Nat) : List UInt8 := fill 8 (bytesN 8 x) k ++ fill 8 (bytesN 8 y) k
def nM (x y k : Nat) : List UInt8 := fill 8 (bytesN 8 x) (k + 1) ++ fill 8 (bytesN 8 y) k
theorem nL_length {x y k : Nat} (h : k ≤ 8) : (nL x y k).length = 16 := by
  unfold nL
  rw [List.length_append, fill_length (bytesN_length _ _) h, fill_length (bytesN_length _ _) h]
theorem nM_length {x y k : Nat} (h : k < 8) : (nM x y k).length = 16 := by
  unfold nM
  rw [List.length_append, fill_length (bytesN_length _ _) (by omega), fill_length (bytesN_length _ _) (by omega)]
theorem nL_zero (x y : Nat) : nL x y 0 = zB 16 := by
  unfold nL
  rw [fill_zero, fill_zero]
  rfl
theorem nL_full (x y : Nat) : nL x y 8 = bytesN 8 x ++ bytesN 8 y := by
  unfold nL
  rw [fill_full (bytesN_length _ _), fill_full (bytesN_length _ _)]
theorem byte_at (x k : Nat) (h : k < 8) : ((x / 256 ^ k : Nat) : Int) % 256 = (((bytesN 8 x).getD k 0).toNat : Int) := by
  rw [bytesN_getD 8 x k h]
  omega
theorem nL_set {x y k : Nat} (h : k < 8) : ((nL x y k).map bval).set k (.int .u8 (((x / 256 ^ k : Nat) : Int) % 256)) = (nM x y k).map bval := by
  unfold nL nM
  rw [List.map_append, List.map_append, List.set_append_left _ _ (by rw [List.length_map, fill_length (bytesN_length _ _) (by omega)]; exact h), fill_set_val (bytesN_length 8 x) h (byte_at x k h)]
theorem nM_set {x y k : Nat} (h : k < 8) : ((nM x y k).map bval).set (8 + k) (.int .u8 (((y / 256 ^ k : Nat) : Int) % 256)) = (nL x y (k + 1)).map bval := by
  unfold nL nM
  rw [List.map_append, List.map_append, List.set_append_right _ _ (by rw [List.length_map, fill_length (bytesN_length _ _) (by omega)]; omega), List.length_map, fill_length (bytesN_length _ _) (by omega), Nat.add_sub_cancel_left, fill_set_val (bytesN_length 8 y) h (byte_at y k h)]
theorem take_zB (n : Nat) : (zB 16).take ((16 - n % 16) % 16) = z16 n := by
  unfold zB z16
  rw [List.take_replicate]
  congr 1
  omega

set_option maxRecDepth 100000 in
set_option maxHeartbeats 16000000 in
theorem aeadMade_any (kb nb p s : List UInt8) (pv sv : Value) (w : World) (hk : kb.length = 32) (hn : nb.length = 12) (hp : Row1 w pv (p.map bval)) (hs : Row1 w sv (s.map bval)) :
    Calls Try.prog 6 #[.agg (kb.map bval).toArray, .agg (nb.map bval).toArray, pv, sv] w fun e w' => e = .returned (.bool true) ∧ Below w.heap.size w w' := by
  obtain ⟨iq, hq0, hq1, hq2⟩ := info_two (P := Try.prog) (t := 26) (z := .slice none 0 0) (n := 1) (by kernel_rfl)
  have HQ0 := Lib.hid hq0
  have HQ1 := Lib.hid hq1
  have HQ2 := Lib.hid hq2
  obtain ⟨i0, hi, hz0, hz1, hz2⟩ := info_parts Try.info5
  have HI0 := Lib.hid hi
  have HZ0 := Lib.hid hz0
  have HZ1 := Lib.hid hz1
  have HZ2 := Lib.hid hz2
  clear hi hz0 hz1 hz2 hq0 hq1 hq2
  have HP0 := Lib.hid hp
  have HS0 := Lib.hid hs
  obtain ⟨ap, capp, hpv, p1, p2, _⟩ := id hp
  obtain ⟨ad, capd, hsv, s1, s2, _⟩ := id hs
  rw [List.length_map] at hpv p1 hsv s1
  subst hpv hsv
  unfold maxLen at p2 s2
  have HB := Lib.hid (boxes2 w (kb.map bval) (nb.map bval) 23 25)
  have HIK : Hid ((Try.prog.info? 23).map (·.size) = some (kb.map bval).length) := Lib.hid (num_size hk)
  have HIN : Hid ((Try.prog.info? 25).map (·.size) = some (nb.map bval).length) := Lib.hid (nonce_size hn)
  have HKL := Lib.hid hk
  have HNL := Lib.hid hn
  clear hp hs hk hn
  go_enter Try.func6, Try.ntmps6
  go_upto_region 1 with (fail)
  obtain ⟨H1, H2, HE⟩ := HB.out
  change Code.wp _ _ _ _ ((w.alloc (.cells (kb.map bval).toArray 23)).alloc (.cells (nb.map bval).toArray 25))
  generalize (w.alloc (.cells (kb.map bval).toArray 23)).alloc (.cells (nb.map bval).toArray 25) = wa at *
  obtain ⟨A, hA⟩ : ∃ A, A = w.heap.size := ⟨_, rfl⟩
  rw [← hA] at H1 H2 ⊢
  have H1 := Lib.hid H1
  have H2 := Lib.hid H2
  have HE : Hid (Ext w wa) := Lib.hid HE
  clear hA HB
  go_wp2_with fail
  refine (alive_any11 wa).mono ?_
  rintro e w1 ⟨rfl, hb⟩
  have H1 := Lib.hid (ext_blk H1.out hb)
  have H2 := Lib.hid (ext_blk H2.out hb)
  have HE := Lib.hid (HE.out.trans hb)
  clear hb
  by_cases h1 : 500 < p.length
  · have h1' : (500 : Int) < (p.length : Int) := by omega
    go_wp2_with fail
    go_ret
    exact ⟨rfl, HE.out⟩
  · have h1' : decide ((500 : Int) < (p.length : Int)) = false := decide_eq_false (by omega)
    have HPL : Hid (p.length ≤ 500) := Lib.hid (by omega)
    have hpl2 : (p.length : Int) ≤ 500 := by omega
    clear h1
    by_cases h2 : 300 < s.length
    · have h2' : (300 : Int) < (s.length : Int) := by omega
      go_wp2_with fail
      go_ret
      exact ⟨rfl, HE.out⟩
    · have h2' : decide ((300 : Int) < (s.length : Int)) = false := decide_eq_false (by omega)
      have HSL : Hid (s.length ≤ 300) := Lib.hid (by omega)
      have hsl2 : (s.length : Int) ≤ 300 := by omega
      clear h2
      go_wp2_with (first | (refine wpList_load_blk rfl _ _ rfl A rfl _ _ _ _ H1.out Try.underlying23 HIK.out ?_) | (refine wpList_load_blk rfl _ _ rfl (A + 1) rfl _ _ _ _ H2.out Try.underlying25 HIN.out ?_))
      refine (ASeal_num kb nb p s _ _ w1 HKL.out HNL.out (HP0.out.below HE.out) (HS0.out.below HE.out) (by have := HPL.out; omega) (by have := HSL.out; omega)).mono ?_
      rintro e w2 ⟨x2, rfl, ho2, hb2⟩
      have hr2 := Row1.of_own ho2
      have H1 := Lib.hid (ext_blk H1.out hb2)
      have H2 := Lib.hid (ext_blk H2.out hb2)
      have HE := Lib.hid (HE.out.trans hb2)
      obtain ⟨c, hcc⟩ : ∃ c, c = chaTurn kb 1 nb p := ⟨_, rfl⟩
      have HBT : Hid (sealB kb nb p s = c ++ aeaTag kb nb c s) := Lib.hid (by rw [hcc]; rfl)
      have HCL : Hid (c.length = p.length) := Lib.hid (by rw [hcc, chaTurn_length])
      have HBL := Lib.hid (sealB_length kb nb p s)
      obtain ⟨n, hnn⟩ : ∃ n, n = p.length + 16 := ⟨_, rfl⟩
      rw [← hnn] at HBL
      generalize sealB kb nb p s = b at *
      obtain ⟨a2, c2, hx2, _⟩ := id hr2
      rw [List.length_map, HBL.out] at hx2
      subst hx2
      have HB2 := Lib.hid hr2
      have HNN := Lib.hid hnn
      have n1 : (p.length : Int) + 16 = (n : Int) := by omega
      clear ho2 hb2 hr2 hnn
      go_wp2_with (first | (refine wpList_load_blk rfl _ _ rfl A rfl _ _ _ _ H1.out Try.underlying23 HIK.out ?_) | (refine wpList_load_blk rfl _ _ rfl (A + 1) rfl _ _ _ _ H2.out Try.underlying25 HIN.out ?_))
      refine (CTurn_num kb nb p _ 1 w2 HKL.out HNL.out (HP0.out.below HE.out) (by have := HPL.out; omega) (by decide) (by decide)).mono ?_
      rintro e w3 ⟨x3, rfl, ho3, hb3⟩
      have hr3 := Row1.of_own ho3
      rw [← hcc] at hr3
      obtain ⟨a3, c3, hx3, _⟩ := id hr3
      rw [List.length_map, HCL.out] at hx3
      subst hx3
      have HC3 := Lib.hid hr3
      have HB3 := Lib.hid (HB2.out.below hb3)
      have H1 := Lib.hid (ext_blk H1.out hb3)
      have H2 := Lib.hid (ext_blk H2.out hb3)
      have HE := Lib.hid (HE.out.trans hb3)
      have HP3 := Lib.hid (HP0.out.below HE.out)
      have HADD : Hid (IntKind.i64.wrap ((p.length : Int) + 16) = ((n : Nat) : Int)) := Lib.hid (by rw [IntKind.wrap_i64]; omega)
      obtain ⟨vt, ht, st⟩ := row_upto Try.underlying26 Try.sizeOf5 HB3.out p.length (by rw [List.length_map, HBL.out]; have := HNN.out; omega)
      obtain ⟨vd, hd, sd⟩ := row_cut Try.underlying26 Try.sizeOf5 HB3.out p.length (by rw [List.length_map, HBL.out]; have := HNN.out; omega)
      obtain ⟨at1, nt1, ct1, rfl⟩ := row_form2 ht
      obtain ⟨ad1, nd1, cd1, rfl⟩ := row_form2 hd
      rw [← List.map_take] at ht
      rw [← List.map_drop] at hd
      have hbt : b.take p.length = c := by rw [HBT.out, List.take_append_of_le_length (by rw [HCL.out]; omega), List.take_of_length_le (by rw [HCL.out]; omega)]
      have hbd : b.drop p.length = aeaTag kb nb c s := by rw [HBT.out, List.drop_append, List.drop_eq_nil_of_le (by rw [HCL.out]; omega), List.nil_append, HCL.out, Nat.sub_self, List.drop_zero]
      rw [hbt] at ht
      have HT3 := Lib.hid ht
      have HST := Lib.hid st
      have HD3 := Lib.hid hd
      have HSD := Lib.hid sd
      have HBD := Lib.hid hbd
      clear ho3 hb3 hr3 ht hd st sd hbt hbd hcc HB2 HBT
      go_upto_region 6 with (fail)
      have B0 : Ext w3 w3.drew := Ext.drew _
      refine wp_region_held_drew (S := fun w' => Ext w3 w') (by kernel_rfl) B0 (fun hHeld => ?_)
      refine wpAnyH_take (i := 0) (v := .slice a2 n c2) rfl (by kernel_rfl) (by kernel_rfl) (by kernel_rfl) (fun _ _ _ h => h) (yi_move _ (.slice a2 n c2) (by rfl) rfl rfl) hHeld ?_
      simp only [Act.put, List.getElem_toArray, List.getElem_cons_zero, List.getElem_cons_succ, List.setIfInBounds_toArray, List.set_cons_zero, List.set_cons_succ]
      refine wpAnyH_take (i := 1) (v := .int .i64 ((n : Nat) : Int)) rfl (by kernel_rfl) (by kernel_rfl) (by kernel_rfl) (fun _ _ _ h => h) (yi_len _ _ _ _ _ _ Try.underlying26 (by rfl) rfl rfl) hHeld ?_
      simp only [Act.put, List.getElem_toArray, List.getElem_cons_zero, List.getElem_cons_succ, List.setIfInBounds_toArray, List.set_cons_zero, List.set_cons_succ]
      refine wpAnyH_take (i := 2) (v := .slice ap p.length capp) rfl (by kernel_rfl) (by kernel_rfl) (by kernel_rfl) (fun _ _ _ h => h) (yi_move _ (.slice ap p.length capp) (by rfl) rfl rfl) hHeld ?_
      simp only [Act.put, List.getElem_toArray, List.getElem_cons_zero, List.getElem_cons_succ, List.setIfInBounds_toArray, List.set_cons_zero, List.set_cons_succ]
      refine wpAnyH_take (i := 3) (v := .int .i64 ((p.length : Nat) : Int)) rfl (by kernel_rfl) (by kernel_rfl) (by kernel_rfl) (fun _ _ _ h => h) (yi_len _ _ _ _ _ _ Try.underlying26 (by rfl) rfl rfl) hHeld ?_
      simp only [Act.put, List.getElem_toArray, List.getElem_cons_zero, List.getElem_cons_succ, List.setIfInBounds_toArray, List.set_cons_zero, List.set_cons_succ]
      refine wpAnyH_take (i := 4) (v := .int .i64 ((n : Nat) : Int)) rfl (by kernel_rfl) (by kernel_rfl) (by kernel_rfl) (fun _ _ _ h => h) (yi_add .i64 _ _ _ _ _ _ ((n : Nat) : Int) HADD.out (by rfl) rfl rfl rfl) hHeld ?_
      simp only [Act.put, List.getElem_toArray, List.getElem_cons_zero, List.getElem_cons_succ, List.setIfInBounds_toArray, List.set_cons_zero, List.set_cons_succ]
      refine wpAnyH_take (i := 5) (v := .bool false) rfl (by kernel_rfl) (by kernel_rfl) (by kernel_rfl) (fun _ _ _ h => h) (yi_nei .i64 _ _ _ _ _ _ false (decide_eq_true rfl) (by rfl) rfl rfl rfl) hHeld ?_
      simp only [Act.put, List.getElem_toArray, List.getElem_cons_zero, List.getElem_cons_succ, List.setIfInBounds_toArray, List.set_cons_zero, List.set_cons_succ]
      refine wpAnyH_take (i := 6) (v := .bool false) rfl (by kernel_rfl) (by kernel_rfl) (by kernel_rfl) (fun _ _ _ h => h) (yi_move _ (.bool false) (by rfl) rfl rfl) hHeld ?_
      simp only [Act.put, List.getElem_toArray, List.getElem_cons_zero, List.getElem_cons_succ, List.setIfInBounds_toArray, List.set_cons_zero, List.set_cons_succ]
      refine wpAnyH_take (i := 7) (v := .slice a2 n c2) rfl (by kernel_rfl) (by kernel_rfl) (by kernel_rfl) (fun _ _ _ h => h) (yi_move _ (.slice a2 n c2) (by rfl) rfl rfl) hHeld ?_
      simp only [Act.put, List.getElem_toArray, List.getElem_cons_zero, List.getElem_cons_succ, List.setIfInBounds_toArray, List.set_cons_zero, List.set_cons_succ]
      refine wpAnyH_take (i := 8) (v := .slice ap p.length capp) rfl (by kernel_rfl) (by kernel_rfl) (by kernel_rfl) (fun _ _ _ h => h) (yi_move _ (.slice ap p.length capp) (by rfl) rfl rfl) hHeld ?_
      simp only [Act.put, List.getElem_toArray, List.getElem_cons_zero, List.getElem_cons_succ, List.setIfInBounds_toArray, List.set_cons_zero, List.set_cons_succ]
      refine wpAnyH_take (i := 9) (v := .int .i64 ((p.length : Nat) : Int)) rfl (by kernel_rfl) (by kernel_rfl) (by kernel_rfl) (fun _ _ _ h => h) (yi_len _ _ _ _ _ _ Try.underlying26 (by rfl) rfl rfl) hHeld ?_
      simp only [Act.put, List.getElem_toArray, List.getElem_cons_zero, List.getElem_cons_succ, List.setIfInBounds_toArray, List.set_cons_zero, List.set_cons_succ]
      refine wpAnyH_take (i := 10) (v := .slice at1 nt1 ct1) rfl (by kernel_rfl) (by kernel_rfl) (by kernel_rfl) (fun _ _ _ h => h) (yi_slice _ _ _ _ (.slice a2 n c2) (.slice at1 nt1 ct1) none (some (.int .i64 ((p.length : Nat) : Int))) (by rfl) rfl rfl rfl rfl HST.out) hHeld ?_
      simp only [Act.put, List.getElem_toArray, List.getElem_cons_zero, List.getElem_cons_succ, List.setIfInBounds_toArray, List.set_cons_zero, List.set_cons_succ]
      refine wpAnyH_take (i := 11) (v := .string ⟨(c).toArray⟩) rfl (by kernel_rfl) (by kernel_rfl) (by kernel_rfl) (fun _ _ _ h => h) (yi_conv _ _ _ (.slice at1 nt1 ct1) _ (by rfl) rfl rfl (fun w h => run_string_row _ _ 5 Try.underlying26 Try.underlying5 Try.underlying9 ((HT3.out).below h))) hHeld ?_
      simp only [Act.put, List.getElem_toArray, List.getElem_cons_zero, List.getElem_cons_succ, List.setIfInBounds_toArray, List.set_cons_zero, List.set_cons_succ]
      refine wpAnyH_take (i := 12) (v := .slice a3 p.length c3) rfl (by kernel_rfl) (by kernel_rfl) (by kernel_rfl) (fun _ _ _ h => h) (yi_move _ (.slice a3 p.length c3) (by rfl) rfl rfl) hHeld ?_
      simp only [Act.put, List.getElem_toArray, List.getElem_cons_zero, List.getElem_cons_succ, List.setIfInBounds_toArray, List.set_cons_zero, List.set_cons_succ]
      refine wpAnyH_take (i := 13) (v := .string ⟨(c).toArray⟩) rfl (by kernel_rfl) (by kernel_rfl) (by kernel_rfl) (fun _ _ _ h => h) (yi_conv _ _ _ (.slice a3 p.length c3) _ (by rfl) rfl rfl (fun w h => run_string_row _ _ 5 Try.underlying26 Try.underlying5 Try.underlying9 ((HC3.out).below h))) hHeld ?_
      simp only [Act.put, List.getElem_toArray, List.getElem_cons_zero, List.getElem_cons_succ, List.setIfInBounds_toArray, List.set_cons_zero, List.set_cons_succ]
      refine wpAnyH_take (i := 14) (v := .bool false) rfl (by kernel_rfl) (by kernel_rfl) (by kernel_rfl) (fun _ _ _ h => h) (yi_net _ _ _ _ c c false (decide_eq_true rfl) (by rfl) rfl rfl rfl) hHeld ?_
      simp only [Act.put, List.getElem_toArray, List.getElem_cons_zero, List.getElem_cons_succ, List.setIfInBounds_toArray, List.set_cons_zero, List.set_cons_succ]
      refine wpAnyH_take (i := 15) (v := .bool false) rfl (by kernel_rfl) (by kernel_rfl) (by kernel_rfl) (fun _ _ _ h => h) (yi_pick _ _ _ false _ (by rfl) rfl rfl rfl) hHeld ?_
      simp only [Act.put, List.getElem_toArray, List.getElem_cons_zero, List.getElem_cons_succ, List.setIfInBounds_toArray, List.set_cons_zero, List.set_cons_succ]
      refine wpAnyH_done (by kernel_rfl) ?_ _
      have H1 := Lib.hid (ext_blk H1.out B0)
      have H2 := Lib.hid (ext_blk H2.out B0)
      have HC4 := Lib.hid (HC3.out.below B0)
      have HB4 := Lib.hid (HB3.out.below B0)
      have HD4 := Lib.hid (HD3.out.below B0)
      have HE := Lib.hid (HE.out.trans B0)
      generalize w3.drew = w4 at *
      clear B0 HT3 HST HP3 HC3 HB3 HD3 hHeld
      go_wp2_with (first | (refine wpList_load_blk rfl _ _ rfl A rfl _ _ _ _ H1.out Try.underlying23 HIK.out ?_) | (refine wpList_load_blk rfl _ _ rfl (A + 1) rfl _ _ _ _ H2.out Try.underlying25 HIN.out ?_))
      refine (CBlock_num kb nb 0 w4 HKL.out HNL.out (by decide) (by decide)).mono ?_
      rintro e w5 ⟨rfl, hb5⟩
      have HC5 := Lib.hid (HC4.out.below hb5)
      have HB5 := Lib.hid (HB4.out.below hb5)
      have HD5 := Lib.hid (HD4.out.below hb5)
      have HE := Lib.hid (HE.out.trans hb5)
      clear hb5 H1 H2 HC4 HB4 HD4
      have HOK : Hid (oneKey kb nb = (chaBlock kb (BitVec.ofInt 32 0) nb).take 32) := Lib.hid rfl
      have HKB := Lib.hid (chaBlock_length kb (BitVec.ofInt 32 0) nb)
      generalize chaBlock kb (BitVec.ofInt 32 0) nb = k at *
      have HZ := Lib.hid (Blk.made w5 (ints .u8 (List.replicate 64 0)) 39)
      have HEA := Lib.hid (Ext.alloc w5 (.cells (ints .u8 (List.replicate 64 0)).toArray 39))
      have HIS : Hid ((Try.prog.info? 39).map (·.size) = some (k.map bval).length) := Lib.hid (sig_size HKB.out)
      have HLo : Hid ((k.map bval).length = (ints .u8 (List.replicate 64 0)).length) := Lib.hid (by rw [List.length_map, HKB.out, ints_length, List.length_replicate])
      go_upto_region 9 with (refine wpList_store_blk rfl _ _ _ rfl w5.heap.size (k.map bval) rfl rfl _ _ HZ.out HLo.out HIS.out (bval_one _) ?_; intro w6 hb6 hg6)
      have HE4 := Lib.hid (ext_grown HEA.out hg6 (Nat.le_refl _))
      have HC6 := Lib.hid (HC5.out.below HE4.out)
      have HB6 := Lib.hid (HB5.out.below HE4.out)
      have HD6 := Lib.hid (HD5.out.below HE4.out)
      have HE := Lib.hid (HE.out.trans HE4.out)
      obtain ⟨S, hS⟩ : ∃ S, S = w5.heap.size := ⟨_, rfl⟩
      rw [← hS] at hb6 ⊢
      have H4 := Lib.hid hb6
      clear hb6 hg6 HZ HEA HE4 HLo hS HC5 HB5 HD5
      have HXA := Ext.alloc w6 (.cells (ints .u8 (List.replicate 32 0)).toArray 23)
      obtain ⟨O, hO⟩ : ∃ O, O = w6.heap.size := ⟨_, rfl⟩
      have HOA : Hid (w.heap.size ≤ O) := Lib.hid (by have := HE.out.size; omega)
      have H5 : Hid (Blk (w6.alloc (.cells (ints .u8 (List.replicate 32 0)).toArray 23)) O ((List.replicate 32 (0 : UInt8)).map bval) 23) := Lib.hid (by rw [hO]; exact Blk.made w6 (ints .u8 (List.replicate 32 0)) 23)
      have H4 := Lib.hid (ext_blk H4.out HXA)
      have HE6 : Hid (Ext w6 (w6.alloc (.cells (ints .u8 (List.replicate 32 0)).toArray 23))) := Lib.hid HXA
      have HE := Lib.hid (HE.out.trans HXA)
      clear HXA
      go_upto_region 10 with (fail)
      change Code.wp _ _ _ _ (w6.alloc (.cells (ints .u8 (List.replicate 32 0)).toArray 23))
      rw [← hO]
      generalize w6.alloc (.cells (ints .u8 (List.replicate 32 0)).toArray 23) = w7 at *
      refine wp_region_from 2 1 2 rfl (by kernel_rfl) (by kernel_rfl) (fun d v c a w h => by cases d <;> exact h) (by kernel_rfl) ?_
      refine det_val (.slice (some ⟨O, 0, none⟩) 32 32) (by rfl) (fun w hw => by go_simp) ?_
      simp only [Act.put, List.getElem_toArray, List.getElem_cons_zero, List.getElem_cons_succ, List.setIfInBounds_toArray, List.set_cons_zero, List.set_cons_succ]
      refine det_val (.slice (some ⟨S, 0, none⟩) 32 64) (by rfl) (fun w hw => by go_simp) ?_
      simp only [Act.put, List.getElem_toArray, List.getElem_cons_zero, List.getElem_cons_succ, List.setIfInBounds_toArray, List.set_cons_zero, List.set_cons_succ]
      refine det_nil (end_store (k := 2) rfl (by kernel_rfl) (by kernel_rfl) (by kernel_rfl) rfl (fun w8 hw8 => ?_))
      have H4 := Lib.hid (ext_blk H4.out hw8)
      have H5 := Lib.hid (ext_blk H5.out hw8)
      have HE := Lib.hid (HE.out.trans hw8)
      have HE6 := Lib.hid (HE6.out.trans hw8)
      clear hw8
      have HTL : Hid ((k.take 32).length = 32) := Lib.hid (by rw [List.length_take, HKB.out]; rfl)
      refine wp_copy_blk _ _ 26 26 rfl 5 Try.underlying26 byte_one _ _ _ _ _ _ rfl rfl O 0 _ _ H5.out ((k.take 32).map bval) (by rw [List.length_map, HTL.out]; rfl) (fun _ => ⟨rfl, ⟨S, 0, none⟩, rfl, fun j v hj => ?_⟩) (by rw [List.length_map, HTL.out]; simp) (bval_one _) ?_
      · have hj2 : j < 32 := by
          rcases Nat.lt_or_ge j 32 with h | h
          · exact h
          · rw [List.getElem?_eq_none (by rw [List.length_map, HTL.out]; omega)] at hj; cases hj
        rw [WideShapes.add_plain, Nat.zero_add, H4.out.cell, ← hj, List.getElem?_map, List.getElem?_map, List.getElem?_take, if_pos hj2]
      intro w8c hb8 hg8
      have e32 : splice ((List.replicate 32 (0 : UInt8)).map bval) 0 ((k.take 32).map bval) = (k.take 32).map bval := by
        rw [splice_bytes, HTL.out]
        simp
      rw [e32] at hb8
      have HE := Lib.hid (ext_grown HE.out hg8 HOA.out)
      have HE6 := Lib.hid (ext_grown HE6.out hg8 (by omega))
      have H5 := Lib.hid hb8
      clear hb8 hg8 H4 e32 hO
      generalize goInt ((k.take 32).map bval).length = g1
      simp only [Act.put, List.getElem_toArray, List.getElem_cons_zero, List.getElem_cons_succ, List.setIfInBounds_toArray, List.set_cons_zero, List.set_cons_succ]
      rw [← HOK.out] at HTL H5
      have HOL := HTL
      have HIO : Hid ((Try.prog.info? 23).map (·.size) = some ((oneKey kb nb).map bval).length) := Lib.hid (num_size HTL.out)
      have HTG : Hid (aeaTag kb nb c s = polyTag (oneKey kb nb) (aeaMsg c s)) := Lib.hid rfl
      rw [HTG.out] at HBD
      clear HTG HTL HOK
      generalize oneKey kb nb = ok at *
      -- noughts
      have hmk := run_make_zeros w8c 26 5 Try.underlying26 i0 HI0.out HZ0.out HZ1.out HZ2.out 16 (by omega)
      rw [show ((16 : Nat) : Int) = 16 from rfl] at hmk
      have HZA := Lib.hid (Blk.made w8c ((zB 16).map bval) 5)
      have HEM := Ext.alloc w8c (.cells ((zB 16).map bval).toArray 5)
      have H5 := Lib.hid (ext_blk H5.out HEM)
      have HE := Lib.hid (HE.out.trans HEM)
      have HE6 := Lib.hid (HE6.out.trans HEM)
      clear HEM
      go_upto_region 12 with (fail)
      change Code.wp _ _ _ _ (w8c.alloc (.cells ((zB 16).map bval).toArray 5))
      clear hmk
      generalize w8c.alloc (.cells ((zB 16).map bval).toArray 5) = w10 at *
      generalize w8c.heap.size = Z at *
      have hmk := run_make_zeros w10 26 5 Try.underlying26 i0 HI0.out HZ0.out HZ1.out HZ2.out 16 (by omega)
      rw [show ((16 : Nat) : Int) = 16 from rfl] at hmk
      have HMA : Hid (Blk (w10.alloc (.cells ((zB 16).map bval).toArray 5)) w10.heap.size ((nL s.length p.length 0).map bval) 5) := Lib.hid (by rw [nL_zero]; exact Blk.made w10 ((zB 16).map bval) 5)
      have HEM : Hid (Ext w10 (w10.alloc (.cells ((zB 16).map bval).toArray 5))) := Lib.hid (Ext.alloc w10 (.cells ((zB 16).map bval).toArray 5))
      go_upto_region 13 with (fail)
      change Code.wp _ _ _ _ (w10.alloc (.cells ((zB 16).map bval).toArray 5))
      clear hmk
      generalize w10.alloc (.cells ((zB 16).map bval).toArray 5) = w11 at *
      obtain ⟨M, hM⟩ : ∃ M, M = w10.heap.size := ⟨_, rfl⟩
      have HMW : Hid (w10.heap.size ≤ M) := Lib.hid (by omega)
      rw [← hM] at HMA ⊢
      clear hM
      go_wp2_with fail
      go_loopw [16] (fun iv wr => ∃ (j : Nat), j ≤ 8 ∧ iv = .int .i64 (j : Int) ∧ Blk wr M ((nL s.length p.length j).map bval) 5 ∧ Ext w10 wr) (fun iv _ => 8 - (intOf iv).toNat)
      case atStart => exact ⟨0, by omega, rfl, HMA.out, HEM.out⟩
      case round =>
        clear HMA HEM
        obtain ⟨j, hj, rfl, hbm, hbel⟩ := hrel
        have j0 : (0 : Int) ≤ (j : Int) := Int.natCast_nonneg _
        have HMA := Lib.hid hbm
        have HX := Lib.hid hbel
        by_cases hlj : j < 8
        · have j1 : (j : Int) < 8 := by omega
          have j2 : (j : Int) < 16 := by omega
          have j3 : (8 : Int) + (j : Int) < 16 := by omega
          have j4 : (0 : Int) ≤ (8 : Int) + (j : Int) := by omega
          have jn : (8 + (j : Int)).toNat = 8 + j := by omega
          obtain ⟨e, he⟩ : ∃ e : Nat, e = 8 * j := ⟨_, rfl⟩
          have e1 : 8 * (j : Int) = (e : Int) := by omega
          have e64 : (e : Int) < 64 := by omega
          have e0 : (0 : Int) ≤ (e : Int) := by omega
          have ep : (2 : Int) ^ e = ((256 ^ j : Nat) : Int) := by rw [he, Int.pow_mul]; simp
          have hv1 : (s.length : Int) / 2 ^ e = ((s.length / 256 ^ j : Nat) : Int) := by rw [ep, ← Int.natCast_ediv]
          have hv2 : (p.length : Int) / 2 ^ e = ((p.length / 256 ^ j : Nat) : Int) := by rw [ep, ← Int.natCast_ediv]
          have hb1 : s.length / 256 ^ j ≤ s.length := Nat.div_le_self _ _
          have hb2 : p.length / 256 ^ j ≤ p.length := Nat.div_le_self _ _
          have HS1 := Lib.hid (nL_set (x := s.length) (y := p.length) hlj)
          have HS2 := Lib.hid (nM_set (x := s.length) (y := p.length) hlj)
          have HLM : Hid ((nM s.length p.length j).length = 16) := Lib.hid (nM_length hlj)
          have hsq : s.length ≤ 300 := HSL.out
          have hpq : p.length ≤ 500 := HPL.out
          generalize s.length / 256 ^ j = q1 at *
          generalize p.length / 256 ^ j = q2 at *
          have hm1 := and_i64_255 (q1 : Int) (by omega) (by omega)
          have hm2 := and_i64_255 (q2 : Int) (by omega) (by omega)
          obtain ⟨u6, c6⟩ : ∃ u, wr.cell? ⟨M, j, none⟩ = some u := ⟨_, by rw [hbm.cell, bval_get (by rw [nL_length (by omega)]; omega)]⟩
          have f6 := hbm.free j
          clear hbm hbel he ep hsq hpq
          go_upto_region 17 with (fail)
          have HMB := Lib.hid (HMA.out.set j (.int .u8 ((q1 : Int) % 256)))
          rw [HS1.out] at HMB
          have HX := Lib.hid (Below.setCell HX.out (p := ⟨M, j, none⟩) (by have := HMW.out; simp; omega) (.int .u8 ((q1 : Int) % 256)))
          generalize wr.setCell ⟨M, j, none⟩ (.int .u8 ((q1 : Int) % 256)) = wq at *
          clear c6 f6 HMA
          obtain ⟨u7, c7⟩ : ∃ u, wq.cell? ⟨M, 8 + j, none⟩ = some u := ⟨_, by rw [HMB.out.cell, bval_get (by rw [HLM.out]; omega)]⟩
          have f7 := HMB.out.free (8 + j)
          go_wp2_with fail
          go_roundw
          case rel => exact ⟨j + 1, by omega, by go_num, by rw [← HS2.out]; exact HMB.out.set _ _, Below.setCell HX.out (by have := HMW.out; simp; omega) _⟩
          case measure => simp [intOf]; omega
        · have hj8 : j = 8 := by omega
          subst hj8
          rw [show ((8 : Nat) : Int) = 8 from rfl]
          rw [nL_full] at hbm
          clear hbel hj j0 hlj HMA
          have HE6 := Lib.hid (HE6.out.trans HX.out)
          have HE9 := Lib.hid (HE.out.trans HX.out)
          have HC9 := Lib.hid (HC6.out.below HE6.out)
          have HB9 := Lib.hid (HB6.out.below HE6.out)
          have HD9 := Lib.hid (HD6.out.below HE6.out)
          have HP9 := Lib.hid (HP0.out.below HE9.out)
          have HS9 := Lib.hid (HS0.out.below HE9.out)
          have HO9 := Lib.hid (ext_blk H5.out HX.out)
          have HZ9 := Lib.hid (blk_row (n := 16) (ext_blk HZA.out HX.out) (by rw [List.length_map, zB_length]) (by unfold maxLen; omega))
          obtain ⟨nB, hnB⟩ : ∃ nB, nB = bytesN 8 s.length ++ bytesN 8 p.length := ⟨_, rfl⟩
          rw [← hnB] at hbm
          have HN9 := Lib.hid (blk_row (n := 16) hbm (by rw [List.length_map, hnB, List.length_append, bytesN_length, bytesN_length]) (by unfold maxLen; omega))
          obtain ⟨m, hmm⟩ : ∃ m, m = aeaMsg c s := ⟨_, rfl⟩
          have HFL : Hid ([s, z16 s.length, c, z16 p.length, nB].flatten = m) := Lib.hid (by rw [hmm, hnB]; unfold aeaMsg; rw [HCL.out]; simp [List.append_assoc])
          have HML : Hid (m.length ≤ 1099511627776) := Lib.hid (by rw [hmm]; have := aeaMsg_length c s; have := HCL.out; have := HPL.out; have := HSL.out; omega)
          rw [← hmm] at HBD
          have HEQ := HBD
          have HIT : Hid ((Try.prog.info? 43).map (·.size) = some ((polyTag ok m).map bval).length) := Lib.hid (tag_size (polyTag_length _ _))
          have rr : ∀ (l u v k : Nat), u = l % 16 → v = 16 - u → k = v % 16 → Int.tmod ((l : Nat) : Int) 16 = (u : Int) ∧ IntKind.i64.wrap (16 - (u : Int)) = (v : Int) ∧ Int.tmod (v : Int) 16 = (k : Int) := fun l u v k h1 h2 h3 => by
            refine ⟨by rw [Int.tmod_eq_emod_of_nonneg (by omega)]; omega, by rw [IntKind.wrap_i64]; omega, by rw [Int.tmod_eq_emod_of_nonneg (by omega)]; omega⟩
          obtain ⟨us, hus⟩ : ∃ u, u = s.length % 16 := ⟨_, rfl⟩
          obtain ⟨vs, hvs⟩ : ∃ v, v = 16 - us := ⟨_, rfl⟩
          obtain ⟨ks, hks⟩ : ∃ k, k = vs % 16 := ⟨_, rfl⟩
          obtain ⟨r1s, r2s, r3s⟩ := rr s.length us vs ks hus hvs hks
          have HRus := Lib.hid r1s
          have HRvs := Lib.hid r2s
          have HRks := Lib.hid r3s
          obtain ⟨vks, rks, sks⟩ := row_upto Try.underlying26 Try.sizeOf5 HZ9.out ks (by rw [List.length_map, zB_length]; omega)
          obtain ⟨aks, nks, cks, rfl⟩ := row_form2 rks
          rw [← List.map_take, hks, hvs, hus, take_zB] at rks
          have HZks := Lib.hid rks
          have HSks := Lib.hid sks
          clear r1s r2s r3s rks sks hus hvs hks
          obtain ⟨up, hup⟩ : ∃ u, u = p.length % 16 := ⟨_, rfl⟩
          obtain ⟨vp, hvp⟩ : ∃ v, v = 16 - up := ⟨_, rfl⟩
          obtain ⟨kp, hkp⟩ : ∃ k, k = vp % 16 := ⟨_, rfl⟩
          obtain ⟨r1p, r2p, r3p⟩ := rr p.length up vp kp hup hvp hkp
          have HRup := Lib.hid r1p
          have HRvp := Lib.hid r2p
          have HRkp := Lib.hid r3p
          obtain ⟨vkp, rkp, skp⟩ := row_upto Try.underlying26 Try.sizeOf5 HZ9.out kp (by rw [List.length_map, zB_length]; omega)
          obtain ⟨akp, nkp, ckp, rfl⟩ := row_form2 rkp
          rw [← List.map_take, hkp, hvp, hup, take_zB] at rkp
          have HZkp := Lib.hid rkp
          have HSkp := Lib.hid skp
          clear r1p r2p r3p rkp skp hup hvp hkp
          clear hbm hnB hmm rr
          generalize wr = w9 at *
          go_upto_region 18 with (fail)
          have B0 : Ext w9 w9.drew := Ext.drew _
          refine wp_region_held_drew (S := fun w' => Ext w9 w') (by kernel_rfl) B0 (fun hHeld => ?_)
          refine wpAnyH_take (i := 0) (v := .agg ((ok).map bval).toArray) rfl (by kernel_rfl) (by kernel_rfl) (by kernel_rfl) (fun _ _ _ h => h) (yieldsIf_load_mid (by rfl) _ _ rfl O 0 rfl _ _ (fun w h => bl_range HO9.out h) Try.underlying23 rfl HIO.out) hHeld ?_
          simp only [Act.put, List.getElem_toArray, List.getElem_cons_zero, List.getElem_cons_succ, List.setIfInBounds_toArray, List.set_cons_zero, List.set_cons_succ]
          refine wpAnyH_take (i := 1) (v := .slice ad s.length capd) rfl (by kernel_rfl) (by kernel_rfl) (by kernel_rfl) (fun _ _ _ h => h) (yi_move _ (.slice ad s.length capd) (by rfl) rfl rfl) hHeld ?_
          simp only [Act.put, List.getElem_toArray, List.getElem_cons_zero, List.getElem_cons_succ, List.setIfInBounds_toArray, List.set_cons_zero, List.set_cons_succ]
          refine wpAnyH_take (i := 2) (v := .slice (some ⟨Z, 0, none⟩) 16 16) rfl (by kernel_rfl) (by kernel_rfl) (by kernel_rfl) (fun _ _ _ h => h) (yi_move _ (.slice (some ⟨Z, 0, none⟩) 16 16) (by rfl) rfl rfl) hHeld ?_
          simp only [Act.put, List.getElem_toArray, List.getElem_cons_zero, List.getElem_cons_succ, List.setIfInBounds_toArray, List.set_cons_zero, List.set_cons_succ]
          refine wpAnyH_take (i := 3) (v := .slice ad s.length capd) rfl (by kernel_rfl) (by kernel_rfl) (by kernel_rfl) (fun _ _ _ h => h) (yi_move _ (.slice ad s.length capd) (by rfl) rfl rfl) hHeld ?_
          simp only [Act.put, List.getElem_toArray, List.getElem_cons_zero, List.getElem_cons_succ, List.setIfInBounds_toArray, List.set_cons_zero, List.set_cons_succ]
          refine wpAnyH_take (i := 4) (v := .int .i64 ((s.length : Nat) : Int)) rfl (by kernel_rfl) (by kernel_rfl) (by kernel_rfl) (fun _ _ _ h => h) (yi_len _ _ _ _ _ _ Try.underlying26 (by rfl) rfl rfl) hHeld ?_
          simp only [Act.put, List.getElem_toArray, List.getElem_cons_zero, List.getElem_cons_succ, List.setIfInBounds_toArray, List.set_cons_zero, List.set_cons_succ]
          refine wpAnyH_take (i := 5) (v := .int .i64 ((us : Nat) : Int)) rfl (by kernel_rfl) (by kernel_rfl) (by kernel_rfl) (fun _ _ _ h => h) (yi_rem .i64 _ _ _ _ _ _ ((us : Nat) : Int) (by decide) HRus.out (by rfl) rfl rfl rfl) hHeld ?_
          simp only [Act.put, List.getElem_toArray, List.getElem_cons_zero, List.getElem_cons_succ, List.setIfInBounds_toArray, List.set_cons_zero, List.set_cons_succ]
          refine wpAnyH_take (i := 6) (v := .int .i64 ((vs : Nat) : Int)) rfl (by kernel_rfl) (by kernel_rfl) (by kernel_rfl) (fun _ _ _ h => h) (yi_sub .i64 _ _ _ _ _ _ ((vs : Nat) : Int) HRvs.out (by rfl) rfl rfl rfl) hHeld ?_
          simp only [Act.put, List.getElem_toArray, List.getElem_cons_zero, List.getElem_cons_succ, List.setIfInBounds_toArray, List.set_cons_zero, List.set_cons_succ]
          refine wpAnyH_take (i := 7) (v := .int .i64 ((ks : Nat) : Int)) rfl (by kernel_rfl) (by kernel_rfl) (by kernel_rfl) (fun _ _ _ h => h) (yi_rem .i64 _ _ _ _ _ _ ((ks : Nat) : Int) (by decide) HRks.out (by rfl) rfl rfl rfl) hHeld ?_
          simp only [Act.put, List.getElem_toArray, List.getElem_cons_zero, List.getElem_cons_succ, List.setIfInBounds_toArray, List.set_cons_zero, List.set_cons_succ]
          refine wpAnyH_take (i := 8) (v := .slice aks nks cks) rfl (by kernel_rfl) (by kernel_rfl) (by kernel_rfl) (fun _ _ _ h => h) (yi_slice _ _ _ _ (.slice (some ⟨Z, 0, none⟩) 16 16) (.slice aks nks cks) none (some (.int .i64 ((ks : Nat) : Int))) (by rfl) rfl rfl rfl rfl HSks.out) hHeld ?_
          simp only [Act.put, List.getElem_toArray, List.getElem_cons_zero, List.getElem_cons_succ, List.setIfInBounds_toArray, List.set_cons_zero, List.set_cons_succ]
          refine wpAnyH_take (i := 9) (v := .slice a3 p.length c3) rfl (by kernel_rfl) (by kernel_rfl) (by kernel_rfl) (fun _ _ _ h => h) (yi_move _ (.slice a3 p.length c3) (by rfl) rfl rfl) hHeld ?_
          simp only [Act.put, List.getElem_toArray, List.getElem_cons_zero, List.getElem_cons_succ, List.setIfInBounds_toArray, List.set_cons_zero, List.set_cons_succ]
          refine wpAnyH_take (i := 10) (v := .slice (some ⟨Z, 0, none⟩) 16 16) rfl (by kernel_rfl) (by kernel_rfl) (by kernel_rfl) (fun _ _ _ h => h) (yi_move _ (.slice (some ⟨Z, 0, none⟩) 16 16) (by rfl) rfl rfl) hHeld ?_
          simp only [Act.put, List.getElem_toArray, List.getElem_cons_zero, List.getElem_cons_succ, List.setIfInBounds_toArray, List.set_cons_zero, List.set_cons_succ]
          refine wpAnyH_take (i := 11) (v := .slice a3 p.length c3) rfl (by kernel_rfl) (by kernel_rfl) (by kernel_rfl) (fun _ _ _ h => h) (yi_move _ (.slice a3 p.length c3) (by rfl) rfl rfl) hHeld ?_
          simp only [Act.put, List.getElem_toArray, List.getElem_cons_zero, List.getElem_cons_succ, List.setIfInBounds_toArray, List.set_cons_zero, List.set_cons_succ]
          refine wpAnyH_take (i := 12) (v := .int .i64 ((p.length : Nat) : Int)) rfl (by kernel_rfl) (by kernel_rfl) (by kernel_rfl) (fun _ _ _ h => h) (yi_len _ _ _ _ _ _ Try.underlying26 (by rfl) rfl rfl) hHeld ?_
          simp only [Act.put, List.getElem_toArray, List.getElem_cons_zero, List.getElem_cons_succ, List.setIfInBounds_toArray, List.set_cons_zero, List.set_cons_succ]
          refine wpAnyH_take (i := 13) (v := .int .i64 ((up : Nat) : Int)) rfl (by kernel_rfl) (by kernel_rfl) (by kernel_rfl) (fun _ _ _ h => h) (yi_rem .i64 _ _ _ _ _ _ ((up : Nat) : Int) (by decide) HRup.out (by rfl) rfl rfl rfl) hHeld ?_
          simp only [Act.put, List.getElem_toArray, List.getElem_cons_zero, List.getElem_cons_succ, List.setIfInBounds_toArray, List.set_cons_zero, List.set_cons_succ]
          refine wpAnyH_take (i := 14) (v := .int .i64 ((vp : Nat) : Int)) rfl (by kernel_rfl) (by kernel_rfl) (by kernel_rfl) (fun _ _ _ h => h) (yi_sub .i64 _ _ _ _ _ _ ((vp : Nat) : Int) HRvp.out (by rfl) rfl rfl rfl) hHeld ?_
          simp only [Act.put, List.getElem_toArray, List.getElem_cons_zero, List.getElem_cons_succ, List.setIfInBounds_toArray, List.set_cons_zero, List.set_cons_succ]
          refine wpAnyH_take (i := 15) (v := .int .i64 ((kp : Nat) : Int)) rfl (by kernel_rfl) (by kernel_rfl) (by kernel_rfl) (fun _ _ _ h => h) (yi_rem .i64 _ _ _ _ _ _ ((kp : Nat) : Int) (by decide) HRkp.out (by rfl) rfl rfl rfl) hHeld ?_
          simp only [Act.put, List.getElem_toArray, List.getElem_cons_zero, List.getElem_cons_succ, List.setIfInBounds_toArray, List.set_cons_zero, List.set_cons_succ]
          refine wpAnyH_take (i := 16) (v := .slice akp nkp ckp) rfl (by kernel_rfl) (by kernel_rfl) (by kernel_rfl) (fun _ _ _ h => h) (yi_slice _ _ _ _ (.slice (some ⟨Z, 0, none⟩) 16 16) (.slice akp nkp ckp) none (some (.int .i64 ((kp : Nat) : Int))) (by rfl) rfl rfl rfl rfl HSkp.out) hHeld ?_
          simp only [Act.put, List.getElem_toArray, List.getElem_cons_zero, List.getElem_cons_succ, List.setIfInBounds_toArray, List.set_cons_zero, List.set_cons_succ]
          refine wpAnyH_take (i := 17) (v := .slice (some ⟨M, 0, none⟩) 16 16) rfl (by kernel_rfl) (by kernel_rfl) (by kernel_rfl) (fun _ _ _ h => h) (yi_move _ (.slice (some ⟨M, 0, none⟩) 16 16) (by rfl) rfl rfl) hHeld ?_
          simp only [Act.put, List.getElem_toArray, List.getElem_cons_zero, List.getElem_cons_succ, List.setIfInBounds_toArray, List.set_cons_zero, List.set_cons_succ]
          refine wpAnyH_ready (rs := [18, 20]) (by kernel_rfl) (by simp) (AllReadyH.cons rfl (fun K hK => ?_) (AllReadyH.cons rfl (fun K hK => ?_) AllReadyH.nil))
          · refine step_wp (by rfl) ?_
            refine wp_buildSlice_d (some 110) _ _ _ _ rfl rfl #[.slice ad s.length capd, .slice aks nks cks, .slice a3 p.length c3, .slice akp nkp ckp, .slice (some ⟨M, 0, none⟩) 16 16] iq (.slice none 0 0) Try.underlying56 HQ0.out HQ1.out (by rw [HQ2.out]; decide) (by rw [HQ2.out]; decide) (by rw [HQ2.out]; kernel_rfl) ?_
            obtain ⟨m1, hm1⟩ : ∃ wNew, wNew = World.alloc w9.drew (.cells #[.slice ad s.length capd, .slice aks nks cks, .slice a3 p.length c3, .slice akp nkp ckp, .slice (some ⟨M, 0, none⟩) 16 16] 26) := ⟨_, rfl⟩
            rw [← hm1]
            have b1 : Ext w9.drew m1 := by rw [hm1]; exact Ext.alloc _ _
            obtain ⟨g1, hg1⟩ : ∃ gNew, gNew = (w9.drew).heap.size := ⟨_, rfl⟩
            rw [← hg1]
            have r1 : Row1 m1 (.slice (some ⟨g1, 0, none⟩) 5 5) [.slice ad s.length capd, .slice aks nks cks, .slice a3 p.length c3, .slice akp nkp ckp, .slice (some ⟨M, 0, none⟩) 16 16] := by rw [hm1, hg1]; exact Row1.made _ _ _ _ _ _ rfl rfl rfl (by unfold maxLen; omega)
            clear hm1 hg1
            have N1 : Ext w9 m1 := B0.trans b1
            refine hK.out _ _ N1 (fun hHeld => ?_)
            clear hK K
            try simp only [Act.put, List.getElem_toArray, List.getElem_cons_zero, List.getElem_cons_succ, List.setIfInBounds_toArray, List.set_cons_zero, List.set_cons_succ]
            refine wpAnyH_ready (rs := [19, 20]) (by kernel_rfl) (by simp) (AllReadyH.cons rfl (fun K hK => ?_) (AllReadyH.cons rfl (fun K hK => ?_) AllReadyH.nil))
            · go_simp
              refine (PSum_valA ok (.slice (some ⟨g1, 0, none⟩) 5 5) _ m _ HOL.out (rowB5 r1 ((HS9.out).below N1) ((HZks.out).below N1) ((HC9.out).below N1) ((HZkp.out).below N1) ((HN9.out).below N1)) HFL.out HML.out).mono ?_
              rintro e m2 ⟨rfl, b2⟩
              have r1 := r1.below b2
              have N2 : Ext w9 m2 := N1.trans b2
              refine hK.out _ _ N2 (fun hHeld => ?_)
              clear hK K
              try simp only [Act.put, List.getElem_toArray, List.getElem_cons_zero, List.getElem_cons_succ, List.setIfInBounds_toArray, List.set_cons_zero, List.set_cons_succ]
              refine wpAnyH_ready (rs := [20]) (by kernel_rfl) (by simp) (AllReadyH.cons rfl (fun K hK => ?_) AllReadyH.nil)
              refine step_wp (by rfl) ?_
              refine wp_alloc_d (some 17) _ (ints .u8 (List.replicate 16 0)) rfl rfl Try.zeroValue43 ?_
              obtain ⟨m3, hm3⟩ : ∃ wNew, wNew = World.alloc m2 (.cells ((ints .u8 (List.replicate 16 0))).toArray 43) := ⟨_, rfl⟩
              rw [← hm3]
              have b3 : Ext m2 m3 := by rw [hm3]; exact Ext.alloc _ _
              obtain ⟨g3, hg3⟩ : ∃ gNew, gNew = (m2).heap.size := ⟨_, rfl⟩
              rw [← hg3]
              have z3 : Blk m3 g3 (ints .u8 (List.replicate 16 0)) 43 := by rw [hm3, hg3]; exact Blk.made _ _ _
              have l3 : (w9).heap.size ≤ g3 := by rw [hg3]; exact N2.size
              clear hm3 hg3
              have r1 := r1.below b3
              have N3 : Ext w9 m3 := N2.trans b3
              refine hK.out _ _ N3 (fun hHeld => ?_)
              clear hK K
              try simp only [Act.put, List.getElem_toArray, List.getElem_cons_zero, List.getElem_cons_succ, List.setIfInBounds_toArray, List.set_cons_zero, List.set_cons_succ]
              refine wpAnyH_ready (rs := [21]) (by kernel_rfl) (by simp) (AllReadyH.cons rfl (fun K hK => ?_) AllReadyH.nil)
              refine step_wp (by rfl) ?_
              refine wp_store_blk _ _ _ rfl g3 ((polyTag ok m).map bval) rfl rfl _ _ z3 (by rw [List.length_map, polyTag_length _ _]; rfl) (tag_size (polyTag_length _ _)) (bval_one _) ?_
              intro m4 hb4 hg4
              have N4 : Ext w9 m4 := ext_grown N3 hg4 l3
              refine hK.out _ _ N4 (fun hHeld => ?_)
              clear hK K
              try simp only [Act.put, List.getElem_toArray, List.getElem_cons_zero, List.getElem_cons_succ, List.setIfInBounds_toArray, List.set_cons_zero, List.set_cons_succ]
              refine wpAnyH_done (by kernel_rfl) ?_ _
              have HT9 := Lib.hid hb4
              have HB10 := Lib.hid (HB9.out.below N4)
              have HP10 := Lib.hid (HP9.out.below N4)
              have HD10 := Lib.hid (HD9.out.below N4)
              have HE10 := Lib.hid (HE9.out.trans N4)
              go_upto_region 19 with (fail)
              have B0 : Ext m4 m4.drew := Ext.drew _
              refine wp_region_held_drew (S := fun w' => Ext m4 w') (by kernel_rfl) B0 (fun hHeld => ?_)
              refine wpAnyH_take (i := 0) (v := .slice a2 n c2) rfl (by kernel_rfl) (by kernel_rfl) (by kernel_rfl) (fun _ _ _ h => h) (yi_move _ (.slice a2 n c2) (by rfl) rfl rfl) hHeld ?_
              simp only [Act.put, List.getElem_toArray, List.getElem_cons_zero, List.getElem_cons_succ, List.setIfInBounds_toArray, List.set_cons_zero, List.set_cons_succ]
              refine wpAnyH_take (i := 1) (v := .slice ap p.length capp) rfl (by kernel_rfl) (by kernel_rfl) (by kernel_rfl) (fun _ _ _ h => h) (yi_move _ (.slice ap p.length capp) (by rfl) rfl rfl) hHeld ?_
              simp only [Act.put, List.getElem_toArray, List.getElem_cons_zero, List.getElem_cons_succ, List.setIfInBounds_toArray, List.set_cons_zero, List.set_cons_succ]
              refine wpAnyH_take (i := 2) (v := .int .i64 ((p.length : Nat) : Int)) rfl (by kernel_rfl) (by kernel_rfl) (by kernel_rfl) (fun _ _ _ h => h) (yi_len _ _ _ _ _ _ Try.underlying26 (by rfl) rfl rfl) hHeld ?_
              simp only [Act.put, List.getElem_toArray, List.getElem_cons_zero, List.getElem_cons_succ, List.setIfInBounds_toArray, List.set_cons_zero, List.set_cons_succ]
              refine wpAnyH_take (i := 3) (v := .slice ad1 nd1 cd1) rfl (by kernel_rfl) (by kernel_rfl) (by kernel_rfl) (fun _ _ _ h => h) (yi_slice _ _ _ _ (.slice a2 n c2) (.slice ad1 nd1 cd1) (some (.int .i64 ((p.length : Nat) : Int))) none (by rfl) rfl rfl rfl rfl HSD.out) hHeld ?_
              simp only [Act.put, List.getElem_toArray, List.getElem_cons_zero, List.getElem_cons_succ, List.setIfInBounds_toArray, List.set_cons_zero, List.set_cons_succ]
              refine wpAnyH_take (i := 4) (v := .string ⟨(b.drop p.length).toArray⟩) rfl (by kernel_rfl) (by kernel_rfl) (by kernel_rfl) (fun _ _ _ h => h) (yi_conv _ _ _ (.slice ad1 nd1 cd1) _ (by rfl) rfl rfl (fun w h => run_string_row _ _ 5 Try.underlying26 Try.underlying5 Try.underlying9 ((HD10.out).below h))) hHeld ?_
              simp only [Act.put, List.getElem_toArray, List.getElem_cons_zero, List.getElem_cons_succ, List.setIfInBounds_toArray, List.set_cons_zero, List.set_cons_succ]
              refine wpAnyH_take (i := 5) (v := .slice (some ⟨g3, 0, none⟩) 16 16) rfl (by kernel_rfl) (by kernel_rfl) (by kernel_rfl) (fun _ _ _ h => h) (yi_slice _ _ _ _ (.pointer (some ⟨g3, 0, none⟩)) (.slice (some ⟨g3, 0, none⟩) 16 16) none none (by rfl) rfl rfl rfl rfl (fun w => cut_whole Try.underlying43 Try.sizeOf5 (by omega) _ w)) hHeld ?_
              simp only [Act.put, List.getElem_toArray, List.getElem_cons_zero, List.getElem_cons_succ, List.setIfInBounds_toArray, List.set_cons_zero, List.set_cons_succ]
              refine wpAnyH_take (i := 6) (v := .string ⟨(polyTag ok m).toArray⟩) rfl (by kernel_rfl) (by kernel_rfl) (by kernel_rfl) (fun _ _ _ h => h) (yi_conv _ _ _ (.slice (some ⟨g3, 0, none⟩) 16 16) _ (by rfl) rfl rfl (fun w h => run_string_row _ _ 5 Try.underlying26 Try.underlying5 Try.underlying9 ((blk_row (n := 16) HT9.out (by rw [List.length_map]; exact polyTag_length _ _) (by unfold maxLen; omega)).below h))) hHeld ?_
              simp only [Act.put, List.getElem_toArray, List.getElem_cons_zero, List.getElem_cons_succ, List.setIfInBounds_toArray, List.set_cons_zero, List.set_cons_succ]
              refine wpAnyH_take (i := 7) (v := .bool true) rfl (by kernel_rfl) (by kernel_rfl) (by kernel_rfl) (fun _ _ _ h => h) (yi_eqt _ _ _ _ (b.drop p.length) (polyTag ok m) true (decide_eq_true (HEQ.out)) (by rfl) rfl rfl rfl) hHeld ?_
              simp only [Act.put, List.getElem_toArray, List.getElem_cons_zero, List.getElem_cons_succ, List.setIfInBounds_toArray, List.set_cons_zero, List.set_cons_succ]
              refine wpAnyH_ready (rs := [8]) (by kernel_rfl) (by simp) (AllReadyH.cons rfl (fun K hK => ?_) AllReadyH.nil)
              go_simp
              refine hK.out _ _ B0 (fun hHeld => ?_)
              clear hK K
              try simp only [Act.put, List.getElem_toArray, List.getElem_cons_zero, List.getElem_cons_succ, List.setIfInBounds_toArray, List.set_cons_zero, List.set_cons_succ]
              refine wpAnyH_done (by kernel_rfl) ?_ _
              go_wp2_with fail
              go_ret
              exact ⟨rfl, HE10.out.trans B0⟩
            · refine step_wp (by rfl) ?_
              refine wp_alloc_d (some 17) _ (ints .u8 (List.replicate 16 0)) rfl rfl Try.zeroValue43 ?_
              obtain ⟨m2, hm2⟩ : ∃ wNew, wNew = World.alloc m1 (.cells ((ints .u8 (List.replicate 16 0))).toArray 43) := ⟨_, rfl⟩
              rw [← hm2]
              have b2 : Ext m1 m2 := by rw [hm2]; exact Ext.alloc _ _
              obtain ⟨g2, hg2⟩ : ∃ gNew, gNew = (m1).heap.size := ⟨_, rfl⟩
              rw [← hg2]
              have z2 : Blk m2 g2 (ints .u8 (List.replicate 16 0)) 43 := by rw [hm2, hg2]; exact Blk.made _ _ _
              have l2 : (w9).heap.size ≤ g2 := by rw [hg2]; exact N1.size
              clear hm2 hg2
              have r1 := r1.below b2
              have N2 : Ext w9 m2 := N1.trans b2
              refine hK.out _ _ N2 (fun hHeld => ?_)
              clear hK K
              try simp only [Act.put, List.getElem_toArray, List.getElem_cons_zero, List.getElem_cons_succ, List.setIfInBounds_toArray, List.set_cons_zero, List.set_cons_succ]
              refine wpAnyH_ready (rs := [19]) (by kernel_rfl) (by simp) (AllReadyH.cons rfl (fun K hK => ?_) AllReadyH.nil)
              go_simp
              refine (PSum_valA ok (.slice (some ⟨g1, 0, none⟩) 5 5) _ m _ HOL.out (rowB5 r1 ((HS9.out).below N2) ((HZks.out).below N2) ((HC9.out).below N2) ((HZkp.out).below N2) ((HN9.out).below N2)) HFL.out HML.out).mono ?_
              rintro e m3 ⟨rfl, b3⟩
              have r1 := r1.below b3
              have z2 := z2.below b3
              have N3 : Ext w9 m3 := N2.trans b3
              refine hK.out _ _ N3 (fun hHeld => ?_)
              clear hK K
              try simp only [Act.put, List.getElem_toArray, List.getElem_cons_zero, List.getElem_cons_succ, List.setIfInBounds_toArray, List.set_cons_zero, List.set_cons_succ]
              refine wpAnyH_ready (rs := [21]) (by kernel_rfl) (by simp) (AllReadyH.cons rfl (fun K hK => ?_) AllReadyH.nil)
              refine step_wp (by rfl) ?_
              refine wp_store_blk _ _ _ rfl g2 ((polyTag ok m).map bval) rfl rfl _ _ z2 (by rw [List.length_map, polyTag_length _ _]; rfl) (tag_size (polyTag_length _ _)) (bval_one _) ?_
              intro m4 hb4 hg4
              have N4 : Ext w9 m4 := ext_grown N3 hg4 l2
              refine hK.out _ _ N4 (fun hHeld => ?_)
              clear hK K
              try simp only [Act.put, List.getElem_toArray, List.getElem_cons_zero, List.getElem_cons_succ, List.setIfInBounds_toArray, List.set_cons_zero, List.set_cons_succ]
              refine wpAnyH_done (by kernel_rfl) ?_ _
              have HT9 := Lib.hid hb4
              have HB10 := Lib.hid (HB9.out.below N4)
              have HP10 := Lib.hid (HP9.out.below N4)
              have HD10 := Lib.hid (HD9.out.below N4)
              have HE10 := Lib.hid (HE9.out.trans N4)
              go_upto_region 19 with (fail)
              have B0 : Ext m4 m4.drew := Ext.drew _
              refine wp_region_held_drew (S := fun w' => Ext m4 w') (by kernel_rfl) B0 (fun hHeld => ?_)
              refine wpAnyH_take (i := 0) (v := .slice a2 n c2) rfl (by kernel_rfl) (by kernel_rfl) (by kernel_rfl) (fun _ _ _ h => h) (yi_move _ (.slice a2 n c2) (by rfl) rfl rfl) hHeld ?_
              simp only [Act.put, List.getElem_toArray, List.getElem_cons_zero, List.getElem_cons_succ, List.setIfInBounds_toArray, List.set_cons_zero, List.set_cons_succ]
              refine wpAnyH_take (i := 1) (v := .slice ap p.length capp) rfl (by kernel_rfl) (by kernel_rfl) (by kernel_rfl) (fun _ _ _ h => h) (yi_move _ (.slice ap p.length capp) (by rfl) rfl rfl) hHeld ?_
              simp only [Act.put, List.getElem_toArray, List.getElem_cons_zero, List.getElem_cons_succ, List.setIfInBounds_toArray, List.set_cons_zero, List.set_cons_succ]
              refine wpAnyH_take (i := 2) (v := .int .i64 ((p.length : Nat) : Int)) rfl (by kernel_rfl) (by kernel_rfl) (by kernel_rfl) (fun _ _ _ h => h) (yi_len _ _ _ _ _ _ Try.underlying26 (by rfl) rfl rfl) hHeld ?_
              simp only [Act.put, List.getElem_toArray, List.getElem_cons_zero, List.getElem_cons_succ, List.setIfInBounds_toArray, List.set_cons_zero, List.set_cons_succ]
              refine wpAnyH_take (i := 3) (v := .slice ad1 nd1 cd1) rfl (by kernel_rfl) (by kernel_rfl) (by kernel_rfl) (fun _ _ _ h => h) (yi_slice _ _ _ _ (.slice a2 n c2) (.slice ad1 nd1 cd1) (some (.int .i64 ((p.length : Nat) : Int))) none (by rfl) rfl rfl rfl rfl HSD.out) hHeld ?_
              simp only [Act.put, List.getElem_toArray, List.getElem_cons_zero, List.getElem_cons_succ, List.setIfInBounds_toArray, List.set_cons_zero, List.set_cons_succ]
              refine wpAnyH_take (i := 4) (v := .string ⟨(b.drop p.length).toArray⟩) rfl (by kernel_rfl) (by kernel_rfl) (by kernel_rfl) (fun _ _ _ h => h) (yi_conv _ _ _ (.slice ad1 nd1 cd1) _ (by rfl) rfl rfl (fun w h => run_string_row _ _ 5 Try.underlying26 Try.underlying5 Try.underlying9 ((HD10.out).below h))) hHeld ?_
              simp only [Act.put, List.getElem_toArray, List.getElem_cons_zero, List.getElem_cons_succ, List.setIfInBounds_toArray, List.set_cons_zero, List.set_cons_succ]
              refine wpAnyH_take (i := 5) (v := .slice (some ⟨g2, 0, none⟩) 16 16) rfl (by kernel_rfl) (by kernel_rfl) (by kernel_rfl) (fun _ _ _ h => h) (yi_slice _ _ _ _ (.pointer (some ⟨g2, 0, none⟩)) (.slice (some ⟨g2, 0, none⟩) 16 16) none none (by rfl) rfl rfl rfl rfl (fun w => cut_whole Try.underlying43 Try.sizeOf5 (by omega) _ w)) hHeld ?_
              simp only [Act.put, List.getElem_toArray, List.getElem_cons_zero, List.getElem_cons_succ, List.setIfInBounds_toArray, List.set_cons_zero, List.set_cons_succ]
              refine wpAnyH_take (i := 6) (v := .string ⟨(polyTag ok m).toArray⟩) rfl (by kernel_rfl) (by kernel_rfl) (by kernel_rfl) (fun _ _ _ h => h) (yi_conv _ _ _ (.slice (some ⟨g2, 0, none⟩) 16 16) _ (by rfl) rfl rfl (fun w h => run_string_row _ _ 5 Try.underlying26 Try.underlying5 Try.underlying9 ((blk_row (n := 16) HT9.out (by rw [List.length_map]; exact polyTag_length _ _) (by unfold maxLen; omega)).below h))) hHeld ?_
              simp only [Act.put, List.getElem_toArray, List.getElem_cons_zero, List.getElem_cons_succ, List.setIfInBounds_toArray, List.set_cons_zero, List.set_cons_succ]
              refine wpAnyH_take (i := 7) (v := .bool true) rfl (by kernel_rfl) (by kernel_rfl) (by kernel_rfl) (fun _ _ _ h => h) (yi_eqt _ _ _ _ (b.drop p.length) (polyTag ok m) true (decide_eq_true (HEQ.out)) (by rfl) rfl rfl rfl) hHeld ?_
              simp only [Act.put, List.getElem_toArray, List.getElem_cons_zero, List.getElem_cons_succ, List.setIfInBounds_toArray, List.set_cons_zero, List.set_cons_succ]
              refine wpAnyH_ready (rs := [8]) (by kernel_rfl) (by simp) (AllReadyH.cons rfl (fun K hK => ?_) AllReadyH.nil)
              go_simp
              refine hK.out _ _ B0 (fun hHeld => ?_)
              clear hK K
              try simp only [Act.put, List.getElem_toArray, List.getElem_cons_zero, List.getElem_cons_succ, List.setIfInBounds_toArray, List.set_cons_zero, List.set_cons_succ]
              refine wpAnyH_done (by kernel_rfl) ?_ _
              go_wp2_with fail
              go_ret
              exact ⟨rfl, HE10.out.trans B0⟩
          · refine step_wp (by rfl) ?_
            refine wp_alloc_d (some 17) _ (ints .u8 (List.replicate 16 0)) rfl rfl Try.zeroValue43 ?_
            obtain ⟨m1, hm1⟩ : ∃ wNew, wNew = World.alloc w9.drew (.cells ((ints .u8 (List.replicate 16 0))).toArray 43) := ⟨_, rfl⟩
            rw [← hm1]
            have b1 : Ext w9.drew m1 := by rw [hm1]; exact Ext.alloc _ _
            obtain ⟨g1, hg1⟩ : ∃ gNew, gNew = (w9.drew).heap.size := ⟨_, rfl⟩
            rw [← hg1]
            have z1 : Blk m1 g1 (ints .u8 (List.replicate 16 0)) 43 := by rw [hm1, hg1]; exact Blk.made _ _ _
            have l1 : (w9).heap.size ≤ g1 := by rw [hg1]; exact B0.size
            clear hm1 hg1
            have N1 : Ext w9 m1 := B0.trans b1
            refine hK.out _ _ N1 (fun hHeld => ?_)
            clear hK K
            try simp only [Act.put, List.getElem_toArray, List.getElem_cons_zero, List.getElem_cons_succ, List.setIfInBounds_toArray, List.set_cons_zero, List.set_cons_succ]
            refine wpAnyH_ready (rs := [18]) (by kernel_rfl) (by simp) (AllReadyH.cons rfl (fun K hK => ?_) AllReadyH.nil)
            refine step_wp (by rfl) ?_
            refine wp_buildSlice_d (some 110) _ _ _ _ rfl rfl #[.slice ad s.length capd, .slice aks nks cks, .slice a3 p.length c3, .slice akp nkp ckp, .slice (some ⟨M, 0, none⟩) 16 16] iq (.slice none 0 0) Try.underlying56 HQ0.out HQ1.out (by rw [HQ2.out]; decide) (by rw [HQ2.out]; decide) (by rw [HQ2.out]; kernel_rfl) ?_
            obtain ⟨m2, hm2⟩ : ∃ wNew, wNew = World.alloc m1 (.cells #[.slice ad s.length capd, .slice aks nks cks, .slice a3 p.length c3, .slice akp nkp ckp, .slice (some ⟨M, 0, none⟩) 16 16] 26) := ⟨_, rfl⟩
            rw [← hm2]
            have b2 : Ext m1 m2 := by rw [hm2]; exact Ext.alloc _ _
            obtain ⟨g2, hg2⟩ : ∃ gNew, gNew = (m1).heap.size := ⟨_, rfl⟩
            rw [← hg2]
            have z1 := z1.below b2
            have r2 : Row1 m2 (.slice (some ⟨g2, 0, none⟩) 5 5) [.slice ad s.length capd, .slice aks nks cks, .slice a3 p.length c3, .slice akp nkp ckp, .slice (some ⟨M, 0, none⟩) 16 16] := by rw [hm2, hg2]; exact Row1.made _ _ _ _ _ _ rfl rfl rfl (by unfold maxLen; omega)
            clear hm2 hg2
            have N2 : Ext w9 m2 := N1.trans b2
            refine hK.out _ _ N2 (fun hHeld => ?_)
            clear hK K
            try simp only [Act.put, List.getElem_toArray, List.getElem_cons_zero, List.getElem_cons_succ, List.setIfInBounds_toArray, List.set_cons_zero, List.set_cons_succ]
            refine wpAnyH_ready (rs := [19]) (by kernel_rfl) (by simp) (AllReadyH.cons rfl (fun K hK => ?_) AllReadyH.nil)
            go_simp
            refine (PSum_valA ok (.slice (some ⟨g2, 0, none⟩) 5 5) _ m _ HOL.out (rowB5 r2 ((HS9.out).below N2) ((HZks.out).below N2) ((HC9.out).below N2) ((HZkp.out).below N2) ((HN9.out).below N2)) HFL.out HML.out).mono ?_
            rintro e m3 ⟨rfl, b3⟩
            have r2 := r2.below b3
            have z1 := z1.below b3
            have N3 : Ext w9 m3 := N2.trans b3
            refine hK.out _ _ N3 (fun hHeld => ?_)
            clear hK K
            try simp only [Act.put, List.getElem_toArray, List.getElem_cons_zero, List.getElem_cons_succ, List.setIfInBounds_toArray, List.set_cons_zero, List.set_cons_succ]
            refine wpAnyH_ready (rs := [21]) (by kernel_rfl) (by simp) (AllReadyH.cons rfl (fun K hK => ?_) AllReadyH.nil)
            refine step_wp (by rfl) ?_
            refine wp_store_blk _ _ _ rfl g1 ((polyTag ok m).map bval) rfl rfl _ _ z1 (by rw [List.length_map, polyTag_length _ _]; rfl) (tag_size (polyTag_length _ _)) (bval_one _) ?_
            intro m4 hb4 hg4
            have N4 : Ext w9 m4 := ext_grown N3 hg4 l1
            refine hK.out _ _ N4 (fun hHeld => ?_)
            clear hK K
            try simp only [Act.put, List.getElem_toArray, List.getElem_cons_zero, List.getElem_cons_succ, List.setIfInBounds_toArray, List.set_cons_zero, List.set_cons_succ]
            refine wpAnyH_done (by kernel_rfl) ?_ _
            have HT9 := Lib.hid hb4
            have HB10 := Lib.hid (HB9.out.below N4)
            have HP10 := Lib.hid (HP9.out.below N4)
            have HD10 := Lib.hid (HD9.out.below N4)
            have HE10 := Lib.hid (HE9.out.trans N4)
            go_upto_region 19 with (fail)
            have B0 : Ext m4 m4.drew := Ext.drew _
            refine wp_region_held_drew (S := fun w' => Ext m4 w') (by kernel_rfl) B0 (fun hHeld => ?_)
            refine wpAnyH_take (i := 0) (v := .slice a2 n c2) rfl (by kernel_rfl) (by kernel_rfl) (by kernel_rfl) (fun _ _ _ h => h) (yi_move _ (.slice a2 n c2) (by rfl) rfl rfl) hHeld ?_
            simp only [Act.put, List.getElem_toArray, List.getElem_cons_zero, List.getElem_cons_succ, List.setIfInBounds_toArray, List.set_cons_zero, List.set_cons_succ]
            refine wpAnyH_take (i := 1) (v := .slice ap p.length capp) rfl (by kernel_rfl) (by kernel_rfl) (by kernel_rfl) (fun _ _ _ h => h) (yi_move _ (.slice ap p.length capp) (by rfl) rfl rfl) hHeld ?_
            simp only [Act.put, List.getElem_toArray, List.getElem_cons_zero, List.getElem_cons_succ, List.setIfInBounds_toArray, List.set_cons_zero, List.set_cons_succ]
            refine wpAnyH_take (i := 2) (v := .int .i64 ((p.length : Nat) : Int)) rfl (by kernel_rfl) (by kernel_rfl) (by kernel_rfl) (fun _ _ _ h => h) (yi_len _ _ _ _ _ _ Try.underlying26 (by rfl) rfl rfl) hHeld ?_
            simp only [Act.put, List.getElem_toArray, List.getElem_cons_zero, List.getElem_cons_succ, List.setIfInBounds_toArray, List.set_cons_zero, List.set_cons_succ]
            refine wpAnyH_take (i := 3) (v := .slice ad1 nd1 cd1) rfl (by kernel_rfl) (by kernel_rfl) (by kernel_rfl) (fun _ _ _ h => h) (yi_slice _ _ _ _ (.slice a2 n c2) (.slice ad1 nd1 cd1) (some (.int .i64 ((p.length : Nat) : Int))) none (by rfl) rfl rfl rfl rfl HSD.out) hHeld ?_
            simp only [Act.put, List.getElem_toArray, List.getElem_cons_zero, List.getElem_cons_succ, List.setIfInBounds_toArray, List.set_cons_zero, List.set_cons_succ]
            refine wpAnyH_take (i := 4) (v := .string ⟨(b.drop p.length).toArray⟩) rfl (by kernel_rfl) (by kernel_rfl) (by kernel_rfl) (fun _ _ _ h => h) (yi_conv _ _ _ (.slice ad1 nd1 cd1) _ (by rfl) rfl rfl (fun w h => run_string_row _ _ 5 Try.underlying26 Try.underlying5 Try.underlying9 ((HD10.out).below h))) hHeld ?_
            simp only [Act.put, List.getElem_toArray, List.getElem_cons_zero, List.getElem_cons_succ, List.setIfInBounds_toArray, List.set_cons_zero, List.set_cons_succ]
            refine wpAnyH_take (i := 5) (v := .slice (some ⟨g1, 0, none⟩) 16 16) rfl (by kernel_rfl) (by kernel_rfl) (by kernel_rfl) (fun _ _ _ h => h) (yi_slice _ _ _ _ (.pointer (some ⟨g1, 0, none⟩)) (.slice (some ⟨g1, 0, none⟩) 16 16) none none (by rfl) rfl rfl rfl rfl (fun w => cut_whole Try.underlying43 Try.sizeOf5 (by omega) _ w)) hHeld ?_
            simp only [Act.put, List.getElem_toArray, List.getElem_cons_zero, List.getElem_cons_succ, List.setIfInBounds_toArray, List.set_cons_zero, List.set_cons_succ]
            refine wpAnyH_take (i := 6) (v := .string ⟨(polyTag ok m).toArray⟩) rfl (by kernel_rfl) (by kernel_rfl) (by kernel_rfl) (fun _ _ _ h => h) (yi_conv _ _ _ (.slice (some ⟨g1, 0, none⟩) 16 16) _ (by rfl) rfl rfl (fun w h => run_string_row _ _ 5 Try.underlying26 Try.underlying5 Try.underlying9 ((blk_row (n := 16) HT9.out (by rw [List.length_map]; exact polyTag_length _ _) (by unfold maxLen; omega)).below h))) hHeld ?_
            simp only [Act.put, List.getElem_toArray, List.getElem_cons_zero, List.getElem_cons_succ, List.setIfInBounds_toArray, List.set_cons_zero, List.set_cons_succ]
            refine wpAnyH_take (i := 7) (v := .bool true) rfl (by kernel_rfl) (by kernel_rfl) (by kernel_rfl) (fun _ _ _ h => h) (yi_eqt _ _ _ _ (b.drop p.length) (polyTag ok m) true (decide_eq_true (HEQ.out)) (by rfl) rfl rfl rfl) hHeld ?_
            simp only [Act.put, List.getElem_toArray, List.getElem_cons_zero, List.getElem_cons_succ, List.setIfInBounds_toArray, List.set_cons_zero, List.set_cons_succ]
            refine wpAnyH_ready (rs := [8]) (by kernel_rfl) (by simp) (AllReadyH.cons rfl (fun K hK => ?_) AllReadyH.nil)
            go_simp
            refine hK.out _ _ B0 (fun hHeld => ?_)
            clear hK K
            try simp only [Act.put, List.getElem_toArray, List.getElem_cons_zero, List.getElem_cons_succ, List.setIfInBounds_toArray, List.set_cons_zero, List.set_cons_succ]
            refine wpAnyH_done (by kernel_rfl) ?_ _
            go_wp2_with fail
            go_ret
            exact ⟨rfl, HE10.out.trans B0⟩

end Go.Proofs.Ytflefkmpllbeeaa
