/- Texts that belong together, one behind the other; each says in its own first remark what it shows. -/
import Derived.Test.YtflefkmpllbeeaaAll2
import Derived.Test.YtflefkmpllbeeaaAll3
import Derived.Test.YtflefkmpllbeeaaAll1
import Derived.Lib.SlBytesConst

/- The walks of package aead's tagOf, Seal and Open. Laid by wip/gen/gaeacode.py. Each theorem names its own conditions. -/
namespace Go.Proofs.Ytflefkmpllbeeaa
open Go.RowKit
set_option linter.unusedVariables false
set_option linter.unusedSimpArgs false

/-- The error's number. -/
def aErr (o : Option (List UInt8)) : Int := if o.isSome then 0 else 10

theorem PSum_valA (kb : List UInt8) (v : Value) (ls : List (List UInt8)) (m : List UInt8) (w : World) (hk : kb.length = 32) (hv : RowB w v ls) (hf : ls.flatten = m) (hm : m.length ≤ 1099511627776) :
    Calls Try.prog 16 #[.agg (kb.map bval).toArray, v] w fun e w' => e = .returned (.agg ((polyTag kb m).map bval).toArray) ∧ Below w.heap.size w w' := by
  subst hf
  exact PSum_num kb v ls w hk hv hm
theorem same_true (av bv : Value) (a b : List UInt8) (w : World) (ha : Row1 w av (a.map bval)) (hb : Row1 w bv (b.map bval)) (h : a = b) :
    Calls Try.prog 20 #[av, bv] w fun e w' => e = .returned (.bool true) ∧ Below w.heap.size w w' := by
  have hh := MacSame_num av bv a b w ha hb
  rw [decide_eq_true h] at hh
  exact hh
theorem same_false (av bv : Value) (a b : List UInt8) (w : World) (ha : Row1 w av (a.map bval)) (hb : Row1 w bv (b.map bval)) (h : ¬ a = b) :
    Calls Try.prog 20 #[av, bv] w fun e w' => e = .returned (.bool false) ∧ Below w.heap.size w w' := by
  have hh := MacSame_num av bv a b w ha hb
  rw [decide_eq_false h] at hh
  exact hh
theorem range_take {w : World} {c : Nat} {cs : List Value} {t : TypeId} (h : Blk w c cs t) (n : Nat) : w.rangeAt c 0 (cs.take n) := fun j v hj => by
  rw [List.getElem?_take] at hj
  split at hj
  · rw [Nat.zero_add, h.cell]
    exact hj
  · cases hj
/-- A slice as an array: where it stands. -/
theorem run_array_at {P : Program} {arr e : TypeId} {n : Nat} (hu : P.underlying arr = some (.array n e)) (a : Option Addr) (len cap : Nat) (h : n ≤ len) (w : World) :
    (Instr.arrayAt arr (.slice a len cap)).run P w = .ok (.pointer a) w := by
  unfold Instr.arrayAt
  simp [run_underlying hu, show ¬ len < n by omega]
/-- Two rows laid behind one another, in a slice that was just made. -/
theorem Concat_two (x y : Value) (l m : List UInt8) (w : World) (hx : Row1 w x (l.map bval)) (hy : Row1 w y (m.map bval)) (hl : (l ++ m).length ≤ 1099511627776) :
    Calls Try.prog 19 #[.slice (some ⟨w.heap.size, 0, none⟩) 2 2] (w.alloc (.cells #[x, y] 26)) fun e w' => ∃ z, e = .returned z ∧ w'.ownsRow w.heap.size 5 1 z (l ++ m).length ((l ++ m).map bval) ∧ Ext w w' := by
  have he := Ext.alloc w (.cells #[x, y] 26)
  have h := stdConcat_any _ [l, m] _ (rowB2 (Row1.made w #[x, y] 26 _ 2 [x, y] rfl rfl rfl (by unfold maxLen; omega)) (hx.below he) (hy.below he)) (by simpa using hl)
  refine h.mono fun e w' hh => ?_
  obtain ⟨z, h1, h2, h3⟩ := hh
  rw [show [l, m].flatten = l ++ m from by simp] at h2
  exact ⟨z, h1, own_mono h2 he.size, he.trans h3⟩

set_option maxRecDepth 100000 in
set_option maxHeartbeats 8000000 in
theorem atagOf_any (kb nb c s : List UInt8) (cv sv : Value) (w : World) (hk : kb.length = 32) (hn : nb.length = 12) (hc : Row1 w cv (c.map bval)) (hs : Row1 w sv (s.map bval)) (hcl : c.length ≤ 1000000000) (hsl : s.length ≤ 1000000000) :
    Calls Try.prog 18 #[.agg (kb.map bval).toArray, .agg (nb.map bval).toArray, cv, sv] w fun e w' => e = .returned (.agg ((aeaTag kb nb c s).map bval).toArray) ∧ Below w.heap.size w w' := by
  obtain ⟨iq, hq0, hq1, hq2⟩ := info_two (P := Try.prog) (t := 26) (z := .slice none 0 0) (n := 1) (by kernel_rfl)
  have HQ0 := Lib.hid hq0
  have HQ1 := Lib.hid hq1
  have HQ2 := Lib.hid hq2
  have HC0 := Lib.hid hc
  have HS0 := Lib.hid hs
  obtain ⟨ac, capc, hcv, c1, c2, _⟩ := id hc
  obtain ⟨ad, caps, hsv, s1, s2, _⟩ := id hs
  rw [List.length_map] at hcv c1 hsv s1
  subst hcv hsv
  unfold maxLen at c2 s2
  have HCL := Lib.hid hcl
  have HSL := Lib.hid hsl
  have HB := Lib.hid (boxes3 w (kb.map bval) (nb.map bval) (ints .u8 (List.replicate 16 0)) 23 25 43)
  have HIK : Hid ((Try.prog.info? 23).map (·.size) = some (kb.map bval).length) := Lib.hid (num_size hk)
  have HIN : Hid ((Try.prog.info? 25).map (·.size) = some (nb.map bval).length) := Lib.hid (nonce_size hn)
  have HKL := Lib.hid hk
  have HNL := Lib.hid hn
  clear hq0 hq1 hq2 hc hs hk hn
  go_enter Try.func18, Try.ntmps18
  go_upto_region 1 with (fail)
  obtain ⟨H1, H2, H3, HE⟩ := HB.out
  change Code.wp _ _ _ _ (((w.alloc (.cells (kb.map bval).toArray 23)).alloc (.cells (nb.map bval).toArray 25)).alloc (.cells (ints .u8 (List.replicate 16 0)).toArray 43))
  generalize ((w.alloc (.cells (kb.map bval).toArray 23)).alloc (.cells (nb.map bval).toArray 25)).alloc (.cells (ints .u8 (List.replicate 16 0)).toArray 43) = wa at *
  obtain ⟨A, hA⟩ : ∃ A, A = w.heap.size := ⟨_, rfl⟩
  have HLA : Hid (w.heap.size ≤ A + 1 + 1) := Lib.hid (by omega)
  rw [← hA] at H1 H2 H3 ⊢
  have H1 := Lib.hid H1
  have H2 := Lib.hid H2
  have H3 := Lib.hid H3
  have HE : Hid (Ext w wa) := Lib.hid HE
  clear hA HB
  go_wp2_with (first | (refine wpList_load_blk rfl _ _ rfl A rfl _ _ _ _ H1.out Try.underlying23 HIK.out ?_) | (refine wpList_load_blk rfl _ _ rfl (A + 1) rfl _ _ _ _ H2.out Try.underlying25 HIN.out ?_))
  refine (CBlock_num kb nb 0 wa HKL.out HNL.out (by decide) (by decide)).mono ?_
  rintro e w1 ⟨rfl, hb⟩
  have H3 := Lib.hid (ext_blk H3.out hb)
  have HE := Lib.hid (HE.out.trans hb)
  clear hb H1 H2
  have HOK : Hid (oneKey kb nb = (chaBlock kb (BitVec.ofInt 32 0) nb).take 32) := Lib.hid rfl
  have HBL := Lib.hid (chaBlock_length kb (BitVec.ofInt 32 0) nb)
  generalize chaBlock kb (BitVec.ofInt 32 0) nb = k at *
  have HZ := Lib.hid (Blk.made w1 (ints .u8 (List.replicate 64 0)) 39)
  have HEA := Lib.hid (Ext.alloc w1 (.cells (ints .u8 (List.replicate 64 0)).toArray 39))
  have HIS : Hid ((Try.prog.info? 39).map (·.size) = some (k.map bval).length) := Lib.hid (sig_size HBL.out)
  have HLo : Hid ((k.map bval).length = (ints .u8 (List.replicate 64 0)).length) := Lib.hid (by rw [List.length_map, HBL.out, ints_length, List.length_replicate])
  go_upto_region 2 with (refine wpList_store_blk rfl _ _ _ rfl w1.heap.size (k.map bval) rfl rfl _ _ HZ.out HLo.out HIS.out (bval_one _) ?_; intro w2 hb2 hg2)
  have HE4 := Lib.hid (ext_grown HEA.out hg2 (Nat.le_refl _))
  have H3 := Lib.hid (ext_blk H3.out HE4.out)
  have HE := Lib.hid (HE.out.trans HE4.out)
  obtain ⟨S, hS⟩ : ∃ S, S = w1.heap.size := ⟨_, rfl⟩
  rw [← hS] at hb2 ⊢
  have H4 := Lib.hid (range_take hb2 32)
  clear hb2 hg2 HZ HEA HE4 HLo hS
  rw [← List.map_take, ← HOK.out] at H4
  have HOL : Hid ((oneKey kb nb).length = 32) := Lib.hid (oneKey_length kb nb)
  have HIO : Hid ((Try.prog.info? 23).map (·.size) = some ((oneKey kb nb).map bval).length) := Lib.hid (num_size HOL.out)
  have HTG : Hid (aeaTag kb nb c s = polyTag (oneKey kb nb) (aeaMsg c s)) := Lib.hid rfl
  clear HOK
  generalize oneKey kb nb = ok at *
  have HZ := Lib.hid (Blk.made w2 zero32 23)
  have HEA := Lib.hid (Ext.alloc w2 (.cells zero32.toArray 23))
  have HLo : Hid ((ok.map bval).length = zero32.length) := Lib.hid (by rw [List.length_map, HOL.out]; rfl)
  have hat := run_array_at (P := Try.prog) Try.underlying23 (some ⟨S, 0, none⟩) 32 64 (Nat.le_refl _) w2
  have H3L := Lib.hid H3.out.lt
  go_upto_region 3 with (first | (refine wpList_load_mid rfl _ _ rfl S 0 rfl _ _ H4.out Try.underlying23 rfl HIO.out ?_) | (refine wpList_store_blk rfl _ _ _ rfl w2.heap.size (ok.map bval) rfl rfl _ _ HZ.out HLo.out HIO.out (bval_one _) ?_; intro w3 hb3 hg3))
  have HE4 := Lib.hid (ext_grown HEA.out hg3 (Nat.le_refl _))
  have H3 := Lib.hid (ext_blk H3.out HE4.out)
  have HE := Lib.hid (HE.out.trans HE4.out)
  obtain ⟨O, hO⟩ : ∃ O, O = w2.heap.size := ⟨_, rfl⟩
  have hOS : A + 1 + 1 < O := by rw [hO]; exact H3L.out
  rw [← hO] at hb3 ⊢
  have H5 := Lib.hid hb3
  clear hb3 hg3 HZ HEA HE4 HLo hO H4 hat
  have HO : Hid (A + 1 + 1 < O) := Lib.hid (by have := hOS; omega)
  clear hOS
  have HS3 := Lib.hid (HS0.out.below HE.out)
  have HC3 := Lib.hid (HC0.out.below HE.out)
  obtain ⟨m, hm⟩ : ∃ m, m = aeaMsg c s := ⟨_, rfl⟩
  have HFL : Hid ([s, z16 s.length, c, z16 c.length, bytesN 8 s.length, bytesN 8 c.length].flatten = m) := Lib.hid (by rw [hm]; unfold aeaMsg; simp [List.append_assoc])
  have HML : Hid (m.length ≤ 1099511627776) := Lib.hid (by rw [hm]; have := aeaMsg_length c s; have := HCL.out; have := HSL.out; omega)
  rw [← hm] at HTG
  clear hm
  have B0 : Ext w3 w3.drew := Ext.drew _
  refine wp_region_held_drew (S := fun w' => Far (A + 1 + 1) w3 w') (by kernel_rfl) (fars_ext B0) (fun hHeld => ?_)
  refine wpAnyH_take (i := 0) (v := .agg ((ok).map bval).toArray) rfl (by kernel_rfl) (by kernel_rfl) (by kernel_rfl) (fun _ _ _ h => h) (yieldsIf_load_mid (by rfl) _ _ rfl O 0 rfl _ _ (fun w h => fars_range H5.out (by have := HO.out; omega) h) Try.underlying23 rfl HIO.out) hHeld ?_
  simp only [Act.put, List.getElem_toArray, List.getElem_cons_zero, List.getElem_cons_succ, List.setIfInBounds_toArray, List.set_cons_zero, List.set_cons_succ]
  refine wpAnyH_take (i := 1) (v := .slice ad s.length caps) rfl (by kernel_rfl) (by kernel_rfl) (by kernel_rfl) (fun _ _ _ h => h) (yi_move _ (.slice ad s.length caps) (by rfl) rfl rfl) hHeld ?_
  simp only [Act.put, List.getElem_toArray, List.getElem_cons_zero, List.getElem_cons_succ, List.setIfInBounds_toArray, List.set_cons_zero, List.set_cons_succ]
  refine wpAnyH_take (i := 2) (v := .slice ad s.length caps) rfl (by kernel_rfl) (by kernel_rfl) (by kernel_rfl) (fun _ _ _ h => h) (yi_move _ (.slice ad s.length caps) (by rfl) rfl rfl) hHeld ?_
  simp only [Act.put, List.getElem_toArray, List.getElem_cons_zero, List.getElem_cons_succ, List.setIfInBounds_toArray, List.set_cons_zero, List.set_cons_succ]
  refine wpAnyH_take (i := 4) (v := .slice ac c.length capc) rfl (by kernel_rfl) (by kernel_rfl) (by kernel_rfl) (fun _ _ _ h => h) (yi_move _ (.slice ac c.length capc) (by rfl) rfl rfl) hHeld ?_
  simp only [Act.put, List.getElem_toArray, List.getElem_cons_zero, List.getElem_cons_succ, List.setIfInBounds_toArray, List.set_cons_zero, List.set_cons_succ]
  refine wpAnyH_take (i := 5) (v := .slice ac c.length capc) rfl (by kernel_rfl) (by kernel_rfl) (by kernel_rfl) (fun _ _ _ h => h) (yi_move _ (.slice ac c.length capc) (by rfl) rfl rfl) hHeld ?_
  simp only [Act.put, List.getElem_toArray, List.getElem_cons_zero, List.getElem_cons_succ, List.setIfInBounds_toArray, List.set_cons_zero, List.set_cons_succ]
  refine wpAnyH_take (i := 7) (v := .slice ad s.length caps) rfl (by kernel_rfl) (by kernel_rfl) (by kernel_rfl) (fun _ _ _ h => h) (yi_move _ (.slice ad s.length caps) (by rfl) rfl rfl) hHeld ?_
  simp only [Act.put, List.getElem_toArray, List.getElem_cons_zero, List.getElem_cons_succ, List.setIfInBounds_toArray, List.set_cons_zero, List.set_cons_succ]
  refine wpAnyH_take (i := 9) (v := .slice ac c.length capc) rfl (by kernel_rfl) (by kernel_rfl) (by kernel_rfl) (fun _ _ _ h => h) (yi_move _ (.slice ac c.length capc) (by rfl) rfl rfl) hHeld ?_
  simp only [Act.put, List.getElem_toArray, List.getElem_cons_zero, List.getElem_cons_succ, List.setIfInBounds_toArray, List.set_cons_zero, List.set_cons_succ]
  refine wpAnyH_ready (rs := [3]) (by kernel_rfl) (by simp) (AllReadyH.cons rfl (fun K hK => ?_) AllReadyH.nil)
  go_simp
  refine (afilling_any _ s w3.drew ((HS3.out).below B0)).mono ?_
  rintro e m1 ⟨x1, rfl, o1, b1⟩
  have r1 : Row1 m1 x1 ((z16 s.length).map bval) := Row1.of_own o1
  obtain ⟨a1, c1, hx1, _⟩ := id r1
  rw [show ((z16 s.length).map bval).length = (z16 s.length).length from by rw [List.length_map]] at hx1
  subst hx1
  have N1 : Ext w3 m1 := B0.trans b1
  refine hK.out _ _ (fars_ext N1) (fun hHeld => ?_)
  clear hK K
  try simp only [Act.put, List.getElem_toArray, List.getElem_cons_zero, List.getElem_cons_succ, List.setIfInBounds_toArray, List.set_cons_zero, List.set_cons_succ]
  refine wpAnyH_ready (rs := [6]) (by kernel_rfl) (by simp) (AllReadyH.cons rfl (fun K hK => ?_) AllReadyH.nil)
  go_simp
  refine (afilling_any _ c m1 ((HC3.out).below N1)).mono ?_
  rintro e m2 ⟨x2, rfl, o2, b2⟩
  have r1 := r1.below b2
  have r2 : Row1 m2 x2 ((z16 c.length).map bval) := Row1.of_own o2
  obtain ⟨a2, c2, hx2, _⟩ := id r2
  rw [show ((z16 c.length).map bval).length = (z16 c.length).length from by rw [List.length_map]] at hx2
  subst hx2
  have N2 : Ext w3 m2 := N1.trans b2
  refine hK.out _ _ (fars_ext N2) (fun hHeld => ?_)
  clear hK K
  try simp only [Act.put, List.getElem_toArray, List.getElem_cons_zero, List.getElem_cons_succ, List.setIfInBounds_toArray, List.set_cons_zero, List.set_cons_succ]
  refine wpAnyH_ready (rs := [8]) (by kernel_rfl) (by simp) (AllReadyH.cons rfl (fun K hK => ?_) AllReadyH.nil)
  go_simp
  refine (alength_any _ s m2 ((HS3.out).below N2)).mono ?_
  rintro e m3 ⟨x3, rfl, o3, b3⟩
  have r1 := r1.below b3
  have r2 := r2.below b3
  have r3 : Row1 m3 x3 ((bytesN 8 s.length).map bval) := Row1.of_own o3
  obtain ⟨a3, c3, hx3, _⟩ := id r3
  rw [show ((bytesN 8 s.length).map bval).length = 8 from by rw [List.length_map, bytesN_length]] at hx3
  subst hx3
  have N3 : Ext w3 m3 := N2.trans b3
  refine hK.out _ _ (fars_ext N3) (fun hHeld => ?_)
  clear hK K
  try simp only [Act.put, List.getElem_toArray, List.getElem_cons_zero, List.getElem_cons_succ, List.setIfInBounds_toArray, List.set_cons_zero, List.set_cons_succ]
  refine wpAnyH_ready (rs := [10]) (by kernel_rfl) (by simp) (AllReadyH.cons rfl (fun K hK => ?_) AllReadyH.nil)
  go_simp
  refine (alength_any _ c m3 ((HC3.out).below N3)).mono ?_
  rintro e m4 ⟨x4, rfl, o4, b4⟩
  have r1 := r1.below b4
  have r2 := r2.below b4
  have r3 := r3.below b4
  have r4 : Row1 m4 x4 ((bytesN 8 c.length).map bval) := Row1.of_own o4
  obtain ⟨a4, c4, hx4, _⟩ := id r4
  rw [show ((bytesN 8 c.length).map bval).length = 8 from by rw [List.length_map, bytesN_length]] at hx4
  subst hx4
  have N4 : Ext w3 m4 := N3.trans b4
  refine hK.out _ _ (fars_ext N4) (fun hHeld => ?_)
  clear hK K
  try simp only [Act.put, List.getElem_toArray, List.getElem_cons_zero, List.getElem_cons_succ, List.setIfInBounds_toArray, List.set_cons_zero, List.set_cons_succ]
  refine wpAnyH_ready (rs := [11]) (by kernel_rfl) (by simp) (AllReadyH.cons rfl (fun K hK => ?_) AllReadyH.nil)
  refine step_wp (by rfl) ?_
  refine wp_buildSlice_d (some 28) _ _ _ _ rfl rfl #[.slice ad s.length caps, .slice a1 ((z16 s.length).length) c1, .slice ac c.length capc, .slice a2 ((z16 c.length).length) c2, .slice a3 (8) c3, .slice a4 (8) c4] iq (.slice none 0 0) Try.underlying56 HQ0.out HQ1.out (by rw [HQ2.out]; decide) (by rw [HQ2.out]; decide) (by rw [HQ2.out]; kernel_rfl) ?_
  obtain ⟨m5, hm5⟩ : ∃ wNew, wNew = World.alloc m4 (.cells #[.slice ad s.length caps, .slice a1 ((z16 s.length).length) c1, .slice ac c.length capc, .slice a2 ((z16 c.length).length) c2, .slice a3 (8) c3, .slice a4 (8) c4] 26) := ⟨_, rfl⟩
  rw [← hm5]
  have b5 : Ext m4 m5 := by rw [hm5]; exact Ext.alloc _ _
  obtain ⟨g5, hg5⟩ : ∃ gNew, gNew = (m4).heap.size := ⟨_, rfl⟩
  rw [← hg5]
  have r1 := r1.below b5
  have r2 := r2.below b5
  have r3 := r3.below b5
  have r4 := r4.below b5
  have r5 : Row1 m5 (.slice (some ⟨g5, 0, none⟩) 6 6) [.slice ad s.length caps, .slice a1 ((z16 s.length).length) c1, .slice ac c.length capc, .slice a2 ((z16 c.length).length) c2, .slice a3 (8) c3, .slice a4 (8) c4] := by rw [hm5, hg5]; exact Row1.made _ _ _ _ _ _ rfl rfl rfl (by unfold maxLen; omega)
  clear hm5 hg5
  have N5 : Ext w3 m5 := N4.trans b5
  refine hK.out _ _ (fars_ext N5) (fun hHeld => ?_)
  clear hK K
  try simp only [Act.put, List.getElem_toArray, List.getElem_cons_zero, List.getElem_cons_succ, List.setIfInBounds_toArray, List.set_cons_zero, List.set_cons_succ]
  refine wpAnyH_ready (rs := [12]) (by kernel_rfl) (by simp) (AllReadyH.cons rfl (fun K hK => ?_) AllReadyH.nil)
  go_simp
  refine (PSum_valA ok (.slice (some ⟨g5, 0, none⟩) 6 6) _ m _ HOL.out (rowB6 r5 ((HS3.out).below N5) r1 ((HC3.out).below N5) r2 r3 r4) HFL.out HML.out).mono ?_
  rintro e m6 ⟨rfl, b6⟩
  have r1 := r1.below b6
  have r2 := r2.below b6
  have r3 := r3.below b6
  have r4 := r4.below b6
  have r5 := r5.below b6
  have N6 : Ext w3 m6 := N5.trans b6
  refine hK.out _ _ (fars_ext N6) (fun hHeld => ?_)
  clear hK K
  try simp only [Act.put, List.getElem_toArray, List.getElem_cons_zero, List.getElem_cons_succ, List.setIfInBounds_toArray, List.set_cons_zero, List.set_cons_succ]
  refine wpAnyH_ready (rs := [13]) (by kernel_rfl) (by simp) (AllReadyH.cons rfl (fun K hK => ?_) AllReadyH.nil)
  refine step_wp (by rfl) ?_
  refine wp_store_blk _ _ _ rfl (A + 1 + 1) ((polyTag ok m).map bval) rfl rfl _ _ (ext_blk H3.out N6) (by rw [List.length_map, polyTag_length, ints_length]; rfl) (tag_size (polyTag_length _ _)) (bval_one _) ?_
  intro m7 hb7 hg7
  refine hK.out _ _ (fars_put N6 hg7) (fun hHeld => ?_)
  clear hK K
  try simp only [Act.put, List.getElem_toArray, List.getElem_cons_zero, List.getElem_cons_succ, List.setIfInBounds_toArray, List.set_cons_zero, List.set_cons_succ]
  refine wpAnyH_done (by kernel_rfl) ?_ _
  have hfin := hb7
  have hNN := ext_grown (HE.out.trans N6) hg7 HLA.out
  generalize m7 = w11 at hfin hNN ⊢
  have HIo : Hid ((Try.prog.info? 43).map (·.size) = some ((polyTag ok m).map bval).length) := Lib.hid (tag_size (polyTag_length _ _))
  go_wp2_with fail
  refine bodyPost_ret (result_blk rfl _ (A + 1 + 1) _ _ _ _ rfl hfin Try.underlying43 HIo.out) rfl ?_
  exact ⟨by rw [HTG.out], hNN⟩

set_option maxRecDepth 100000 in
set_option maxHeartbeats 4000000 in
theorem ASeal_num (kb nb p s : List UInt8) (pv sv : Value) (w : World) (hk : kb.length = 32) (hn : nb.length = 12) (hp : Row1 w pv (p.map bval)) (hs : Row1 w sv (s.map bval)) (hpl : p.length ≤ 1000000000) (hsl : s.length ≤ 1000000000) :
    Calls Try.prog 9 #[.agg (kb.map bval).toArray, .agg (nb.map bval).toArray, pv, sv] w fun e w' => ∃ x, e = .returned x ∧ w'.ownsRow w.heap.size 5 1 x (p.length + 16) ((sealB kb nb p s).map bval) ∧ Below w.heap.size w w' := by
  have HP0 := Lib.hid hp
  have HS0 := Lib.hid hs
  have HPL := Lib.hid hpl
  have HSL := Lib.hid hsl
  have HB := Lib.hid (boxes2 w (kb.map bval) (nb.map bval) 23 25)
  have HIK : Hid ((Try.prog.info? 23).map (·.size) = some (kb.map bval).length) := Lib.hid (num_size hk)
  have HIN : Hid ((Try.prog.info? 25).map (·.size) = some (nb.map bval).length) := Lib.hid (nonce_size hn)
  have HKL := Lib.hid hk
  have HNL := Lib.hid hn
  clear hp hs hk hn hpl hsl
  go_enter Try.func9, Try.ntmps9
  go_upto_region 1 with (fail)
  obtain ⟨H1, H2, HE⟩ := HB.out
  change Code.wp _ _ _ _ ((w.alloc (.cells (kb.map bval).toArray 23)).alloc (.cells (nb.map bval).toArray 25))
  generalize (w.alloc (.cells (kb.map bval).toArray 23)).alloc (.cells (nb.map bval).toArray 25) = wa at *
  obtain ⟨A, hA⟩ : ∃ A, A = w.heap.size := ⟨_, rfl⟩
  rw [← hA] at H1 H2 ⊢
  have H1 := Lib.hid H1
  have H2 := Lib.hid H2
  have HE : Hid (Ext w wa) := Lib.hid HE
  have HA := Lib.hid hA
  clear hA HB
  go_wp2_with (first | (refine wpList_load_blk rfl _ _ rfl A rfl _ _ _ _ H1.out Try.underlying23 HIK.out ?_) | (refine wpList_load_blk rfl _ _ rfl (A + 1) rfl _ _ _ _ H2.out Try.underlying25 HIN.out ?_))
  refine (aturned_any kb nb p _ wa HKL.out HNL.out (HP0.out.below HE.out) (by have := HPL.out; omega)).mono ?_
  rintro e w1 ⟨x1, rfl, ho1, hb1⟩
  have HO1 : Hid (w1.ownsRow w.heap.size 5 1 x1 p.length ((chaTurn kb 1 nb p).map bval)) := Lib.hid (own_mono ho1 HE.out.size)
  have H1 := Lib.hid (ext_blk H1.out hb1)
  have H2 := Lib.hid (ext_blk H2.out hb1)
  have HE := Lib.hid (HE.out.trans hb1)
  clear ho1 hb1
  have HCL := Lib.hid (chaTurn_length kb 1 nb p)
  have HSB : Hid (sealB kb nb p s = chaTurn kb 1 nb p ++ aeaTag kb nb (chaTurn kb 1 nb p) s) := Lib.hid rfl
  generalize chaTurn kb 1 nb p = c at *
  go_wp2_with (first | (refine wpList_load_blk rfl _ _ rfl A rfl _ _ _ _ H1.out Try.underlying23 HIK.out ?_) | (refine wpList_load_blk rfl _ _ rfl (A + 1) rfl _ _ _ _ H2.out Try.underlying25 HIN.out ?_))
  refine (atagOf_any kb nb c s _ _ w1 HKL.out HNL.out (Row1.of_own HO1.out) (HS0.out.below HE.out) (by rw [HCL.out]; exact HPL.out) HSL.out).mono ?_
  rintro e w2 ⟨rfl, hb⟩
  have HE := Lib.hid (HE.out.trans hb)
  have HO2 := Lib.hid (own_below HO1.out hb)
  clear hb HO1 H1 H2
  have HTL := Lib.hid (aeaTag_length kb nb c s)
  generalize aeaTag kb nb c s = tg at *
  have HZ := Lib.hid (Blk.made w2 (ints .u8 (List.replicate 16 0)) 43)
  have HEA := Lib.hid (Ext.alloc w2 (.cells (ints .u8 (List.replicate 16 0)).toArray 43))
  have HIT : Hid ((Try.prog.info? 43).map (·.size) = some (tg.map bval).length) := Lib.hid (tag_size HTL.out)
  have HLo : Hid ((tg.map bval).length = (ints .u8 (List.replicate 16 0)).length) := Lib.hid (by rw [List.length_map, HTL.out, ints_length, List.length_replicate])
  go_upto_region 3 with (refine wpList_store_blk rfl _ _ _ rfl w2.heap.size (tg.map bval) rfl rfl _ _ HZ.out HLo.out HIT.out (bval_one _) ?_; intro w3 hb3 hg3)
  have HE4 := Lib.hid (ext_grown HEA.out hg3 (Nat.le_refl _))
  have HO3 := Lib.hid (own_below HO2.out HE4.out)
  have HE := Lib.hid (HE.out.trans HE4.out)
  obtain ⟨T, hT⟩ : ∃ T, T = w2.heap.size := ⟨_, rfl⟩
  rw [← hT] at hb3 ⊢
  have HTR := Lib.hid (blk_row (n := 16) hb3 (by rw [List.length_map, HTL.out]) (by unfold maxLen; omega))
  clear hb3 hg3 HZ HEA HE4 HLo hT HO2
  have HR1 := Lib.hid (Row1.of_own HO3.out)
  obtain ⟨a1, c1, hx1, _⟩ := id HR1.out
  rw [List.length_map, HCL.out] at hx1
  subst hx1
  have HF : Hid ((c ++ tg).length = p.length + 16) := Lib.hid (by rw [List.length_append, HTL.out, HCL.out])
  clear HO3
  go_wp2_with fail
  refine (Concat_two _ _ c tg w3 HR1.out HTR.out (by rw [HF.out]; have := HPL.out; omega)).mono ?_
  rintro e w4 ⟨z, rfl, ho, hb⟩
  have HO4 := Lib.hid (own_mono ho HE.out.size)
  have HE4 := Lib.hid (HE.out.trans hb)
  clear ho hb
  go_wp2_with fail
  go_ret
  exact ⟨_, rfl, own_eq HO4.out HF.out (by rw [HSB.out]), HE4.out⟩

set_option maxRecDepth 100000 in
set_option maxHeartbeats 8000000 in
theorem AOpen_num (kb nb b s : List UInt8) (bv sv : Value) (w : World) (hk : kb.length = 32) (hn : nb.length = 12) (hb : Row1 w bv (b.map bval)) (hs : Row1 w sv (s.map bval)) (hbl : b.length ≤ 1000000000) (hsl : s.length ≤ 1000000000) :
    Calls Try.prog 10 #[.agg (kb.map bval).toArray, .agg (nb.map bval).toArray, bv, sv] w fun e w' => ∃ x, e = .returned (.tuple #[x, .int .i64 (aErr (openB kb nb b s))]) ∧ Row1 w' x (((openB kb nb b s).getD []).map bval) ∧ Below w.heap.size w w' := by
  have HB0 := Lib.hid hb
  have HS0 := Lib.hid hs
  have HBL := Lib.hid hbl
  have HSL := Lib.hid hsl
  obtain ⟨ab, capb, hbv, r1, r2, _⟩ := id hb
  rw [List.length_map] at hbv r1
  subst hbv
  obtain ⟨ad, caps, hsv, _⟩ := id hs
  subst hsv
  unfold maxLen at r2
  have HB := Lib.hid (boxes2 w (kb.map bval) (nb.map bval) 23 25)
  have HIK : Hid ((Try.prog.info? 23).map (·.size) = some (kb.map bval).length) := Lib.hid (num_size hk)
  have HIN : Hid ((Try.prog.info? 25).map (·.size) = some (nb.map bval).length) := Lib.hid (nonce_size hn)
  have HKL := Lib.hid hk
  have HNL := Lib.hid hn
  have hb0 : (0 : Int) ≤ (b.length : Int) := Int.natCast_nonneg _
  clear hb hs hk hn hsl
  go_enter Try.func10, Try.ntmps10
  go_upto_region 1 with (fail)
  obtain ⟨H1, H2, HE⟩ := HB.out
  change Code.wp _ _ _ _ ((w.alloc (.cells (kb.map bval).toArray 23)).alloc (.cells (nb.map bval).toArray 25))
  generalize (w.alloc (.cells (kb.map bval).toArray 23)).alloc (.cells (nb.map bval).toArray 25) = wa at *
  obtain ⟨A, hA⟩ : ∃ A, A = w.heap.size := ⟨_, rfl⟩
  rw [← hA] at H1 H2 ⊢
  have H1 := Lib.hid H1
  have H2 := Lib.hid H2
  have HE : Hid (Ext w wa) := Lib.hid HE
  clear hA HB
  by_cases h16 : b.length < 16
  · have h16' : (b.length : Int) - 16 < 0 := by omega
    have h17' : (b.length : Int) < 16 := by omega
    have HON := Lib.hid (openB_short kb nb s h16)
    go_wp2_with fail
    refine bodyPost_ret (res_two rfl _ _) rfl ?_
    exact ⟨_, by rw [HON.out]; rfl, by rw [HON.out]; exact Row1.nil _, HE.out⟩
  · obtain ⟨q, hq⟩ : ∃ q, q = b.length - 16 := ⟨_, rfl⟩
    have q1 : (b.length : Int) - 16 = (q : Int) := by omega
    have q0 : (0 : Int) ≤ (q : Int) := Int.natCast_nonneg _
    have q2 : ¬ (q : Int) < 0 := by omega
    have hql : q ≤ (b.map bval).length := by rw [List.length_map]; omega
    have HQL : Hid (q ≤ 1000000000) := Lib.hid (by omega)
    have HQT : Hid ((b.take q).length ≤ 1099511627776) := Lib.hid (by rw [List.length_take]; omega)
    have HOP : Hid (openB kb nb b s = if aeaTag kb nb (b.take q) s = b.drop q then some (chaTurn kb 1 nb (b.take q)) else none) := Lib.hid (by
      unfold openB
      rw [if_neg h16, ← hq])
    have HBR := Lib.hid (HB0.out.below HE.out)
    obtain ⟨vt, ht, st⟩ := row_upto Try.underlying26 Try.sizeOf5 HBR.out q hql
    obtain ⟨at1, nt1, ct1, rfl⟩ := row_form2 ht
    rw [← List.map_take] at ht
    have HTR := Lib.hid ht
    have HST := Lib.hid st
    obtain ⟨vh, hh, sh⟩ := row_cut Try.underlying26 Try.sizeOf5 HBR.out q hql
    obtain ⟨ah, nh, ch, rfl⟩ := row_form2 hh
    rw [← List.map_drop] at hh
    have HHR := Lib.hid hh
    have HSH := Lib.hid sh
    have hqcap : (q : Int) ≤ (capb : Int) := by rw [List.length_map] at hql; omega
    have HSR := Lib.hid (HS0.out.below HE.out)
    clear ht hh st sh hbl hq h16 hql
    have HTL := Lib.hid (aeaTag_length kb nb (b.take q) s)
    have HIT : Hid ((Try.prog.info? 43).map (·.size) = some ((aeaTag kb nb (b.take q) s).map bval).length) := Lib.hid (tag_size HTL.out)
    have HLo : Hid (((aeaTag kb nb (b.take q) s).map bval).length = (ints .u8 (List.replicate 16 0)).length) := Lib.hid (by rw [List.length_map, HTL.out, ints_length, List.length_replicate])
    have HCT : Hid (∀ wx, Ext wa wx → Calls Try.prog 18 #[.agg (kb.map bval).toArray, .agg (nb.map bval).toArray, .slice at1 nt1 ct1, .slice ad (s.map bval).length caps] wx fun e w' => e = .returned (.agg ((aeaTag kb nb (b.take q) s).map bval).toArray) ∧ Below wx.heap.size wx w') := Lib.hid (fun wx hx => atagOf_any kb nb (b.take q) s _ _ wx HKL.out HNL.out (HTR.out.below hx) (HSR.out.below hx) (by rw [List.length_take]; have := HQL.out; omega) HSL.out)
    obtain ⟨tg, htg⟩ : ∃ tg, tg = aeaTag kb nb (b.take q) s := ⟨_, rfl⟩
    rw [← htg] at HTL HIT HLo HCT HOP
    clear htg
    generalize (s.map bval).length = sl at *
    go_upto_region 4 with (fail)
    refine wp_region_from 7 2 8 rfl (by kernel_rfl) (by kernel_rfl) (fun d v c a w h => by cases d <;> exact h) (by kernel_rfl) ?_
    refine det_load _ _ A (kb.map bval) _ (by rfl) rfl rfl (fun w hw => ext_range H1.out hw) Try.underlying23 rfl HIK.out ?_
    simp only [Act.put, List.getElem_toArray, List.getElem_cons_zero, List.getElem_cons_succ, List.setIfInBounds_toArray, List.set_cons_zero, List.set_cons_succ]
    refine det_load _ _ (A + 1) (nb.map bval) _ (by rfl) rfl rfl (fun w hw => ext_range H2.out hw) Try.underlying25 rfl HIN.out ?_
    simp only [Act.put, List.getElem_toArray, List.getElem_cons_zero, List.getElem_cons_succ, List.setIfInBounds_toArray, List.set_cons_zero, List.set_cons_succ]
    refine det_move _ (.slice ab b.length capb) (by rfl) rfl rfl ?_
    simp only [Act.put, List.getElem_toArray, List.getElem_cons_zero, List.getElem_cons_succ, List.setIfInBounds_toArray, List.set_cons_zero, List.set_cons_succ]
    refine det_move _ (.int .i64 ((q : Nat) : Int)) (by rfl) rfl rfl ?_
    simp only [Act.put, List.getElem_toArray, List.getElem_cons_zero, List.getElem_cons_succ, List.setIfInBounds_toArray, List.set_cons_zero, List.set_cons_succ]
    refine det_val (.slice at1 nt1 ct1) (by rfl) (fun w hw => by have st := HST.out; unfold execOp; simp only [Act.eval, Sem.run_bind, Option.map_some, Option.map_none]; go_simp) ?_
    simp only [Act.put, List.getElem_toArray, List.getElem_cons_zero, List.getElem_cons_succ, List.setIfInBounds_toArray, List.set_cons_zero, List.set_cons_succ]
    refine det_move _ (.slice ad sl caps) (by rfl) rfl rfl ?_
    simp only [Act.put, List.getElem_toArray, List.getElem_cons_zero, List.getElem_cons_succ, List.setIfInBounds_toArray, List.set_cons_zero, List.set_cons_succ]
    refine det_call _ _ _ [.agg (kb.map bval).toArray, .agg (nb.map bval).toArray, .slice at1 nt1 ct1, .slice ad sl caps] (.agg (tg.map bval).toArray) (by rfl) rfl Try.call18 rfl (fun w hw => HCT.out w hw) ?_
    simp only [Act.put, List.getElem_toArray, List.getElem_cons_zero, List.getElem_cons_succ, List.setIfInBounds_toArray, List.set_cons_zero, List.set_cons_succ]
    refine det_nil (end_var (k := 7) _ 11 (.tmp 23) (ints .u8 (List.replicate 16 0)) (tg.map bval) rfl rfl (by kernel_rfl) (by kernel_rfl) (by kernel_rfl) (by kernel_rfl) (by kernel_rfl) rfl rfl rfl rfl Try.zeroValue43 rfl (by simp) (fun p => rfl) HLo.out HIT.out (bval_one _) (fun p7 w7 hp7 hb7 he7 => ?_))
    simp only [Act.put, List.getElem_toArray, List.getElem_cons_zero, List.getElem_cons_succ, List.setIfInBounds_toArray, List.set_cons_zero, List.set_cons_succ]
    have H1 := Lib.hid (ext_blk H1.out he7)
    have H2 := Lib.hid (ext_blk H2.out he7)
    have H7 := Lib.hid hb7
    have HB7 := Lib.hid (HBR.out.below he7)
    have HT7 := Lib.hid (HTR.out.below he7)
    have HH7 := Lib.hid (HHR.out.below he7)
    have HE := Lib.hid (HE.out.trans he7)
    clear hb7 he7 hp7 HCT HSR HBR HTR HHR HLo
    go_upto_region 5 with (fail)
    by_cases heq : tg = b.drop q
    · have HOS : Hid (openB kb nb b s = some (chaTurn kb 1 nb (b.take q))) := Lib.hid (by rw [HOP.out, if_pos heq])
      have rb := HH7.out
      have B0 : Ext w7 w7.drew := Ext.drew _
      refine wp_region_held_drew (S := fun w' => Ext w7 w') (by kernel_rfl) B0 (fun hHeld => ?_)
      have rb := rb.below (Ext.drew _)
      refine wpAnyH_take (i := 0) (v := .slice (some ⟨p7, 0, none⟩) 16 16) rfl (by kernel_rfl) (by kernel_rfl) (by kernel_rfl) (fun _ _ _ h => h) (yi_slice _ _ _ _ (.pointer (some ⟨p7, 0, none⟩)) (.slice (some ⟨p7, 0, none⟩) 16 16) none none (by rfl) rfl rfl rfl rfl (fun w => cut_whole Try.underlying43 Try.sizeOf5 (by omega) _ w)) hHeld ?_
      simp only [Act.put, List.getElem_toArray, List.getElem_cons_zero, List.getElem_cons_succ, List.setIfInBounds_toArray, List.set_cons_zero, List.set_cons_succ]
      refine wpAnyH_take (i := 1) (v := .slice ab b.length capb) rfl (by kernel_rfl) (by kernel_rfl) (by kernel_rfl) (fun _ _ _ h => h) (yi_move _ (.slice ab b.length capb) (by rfl) rfl rfl) hHeld ?_
      simp only [Act.put, List.getElem_toArray, List.getElem_cons_zero, List.getElem_cons_succ, List.setIfInBounds_toArray, List.set_cons_zero, List.set_cons_succ]
      refine wpAnyH_take (i := 2) (v := .int .i64 ((q : Nat) : Int)) rfl (by kernel_rfl) (by kernel_rfl) (by kernel_rfl) (fun _ _ _ h => h) (yi_move _ (.int .i64 ((q : Nat) : Int)) (by rfl) rfl rfl) hHeld ?_
      simp only [Act.put, List.getElem_toArray, List.getElem_cons_zero, List.getElem_cons_succ, List.setIfInBounds_toArray, List.set_cons_zero, List.set_cons_succ]
      refine wpAnyH_take (i := 3) (v := .slice ah nh ch) rfl (by kernel_rfl) (by kernel_rfl) (by kernel_rfl) (fun _ _ _ h => h) (yi_slice _ _ _ _ (.slice ab b.length capb) (.slice ah nh ch) (some (.int .i64 ((q : Nat) : Int))) none (by rfl) rfl rfl rfl rfl HSH.out) hHeld ?_
      simp only [Act.put, List.getElem_toArray, List.getElem_cons_zero, List.getElem_cons_succ, List.setIfInBounds_toArray, List.set_cons_zero, List.set_cons_succ]
      refine wpAnyH_ready (rs := [4]) (by kernel_rfl) (by simp) (AllReadyH.cons rfl (fun K hK => ?_) AllReadyH.nil)
      go_simp
      refine (same_true (.slice (some ⟨p7, 0, none⟩) 16 16) (.slice ah nh ch) tg (b.drop q) w7.drew ((blk_row (n := 16) H7.out (by rw [List.length_map]; exact HTL.out) (by unfold maxLen; omega)).below B0) rb heq).mono ?_
      rintro e m1 ⟨rfl, b1⟩
      have rb := rb.below b1
      have N1 : Ext w7 m1 := B0.trans b1
      refine hK.out _ _ N1 (fun hHeld => ?_)
      clear hK K
      try simp only [Act.put, List.getElem_toArray, List.getElem_cons_zero, List.getElem_cons_succ, List.setIfInBounds_toArray, List.set_cons_zero, List.set_cons_succ]
      refine wpAnyH_take (i := 5) (v := .bool false) rfl (by kernel_rfl) (by kernel_rfl) (by kernel_rfl) (fun _ _ _ h => h) (yi_not _ _ true (by rfl) rfl rfl) hHeld ?_
      simp only [Act.put, List.getElem_toArray, List.getElem_cons_zero, List.getElem_cons_succ, List.setIfInBounds_toArray, List.set_cons_zero, List.set_cons_succ]
      refine wpAnyH_done (by kernel_rfl) ?_ _
      have HN8 : Hid (Ext w7 m1) := Lib.hid N1
      generalize m1 = w8 at HN8 ⊢
      have H1 := Lib.hid (ext_blk H1.out HN8.out)
      have H2 := Lib.hid (ext_blk H2.out HN8.out)
      have HB8 := Lib.hid (HB7.out.below HN8.out)
      have HT8 := Lib.hid (HT7.out.below HN8.out)
      have HE := Lib.hid (HE.out.trans HN8.out)
      clear HOP heq
      go_upto_region 7 with (fail)
      have rt := HT8.out
      have B0 : Ext w8 w8.drew := Ext.drew _
      refine wp_region_held_drew (S := fun w' => Ext w8 w') (by kernel_rfl) B0 (fun hHeld => ?_)
      have rt := rt.below (Ext.drew _)
      refine wpAnyH_take (i := 0) (v := .agg ((kb).map bval).toArray) rfl (by kernel_rfl) (by kernel_rfl) (by kernel_rfl) (fun _ _ _ h => h) (yieldsIf_load_mid (by rfl) _ _ rfl A 0 rfl _ _ (fun w h => bl_range H1.out h) Try.underlying23 rfl HIK.out) hHeld ?_
      simp only [Act.put, List.getElem_toArray, List.getElem_cons_zero, List.getElem_cons_succ, List.setIfInBounds_toArray, List.set_cons_zero, List.set_cons_succ]
      refine wpAnyH_take (i := 1) (v := .agg ((nb).map bval).toArray) rfl (by kernel_rfl) (by kernel_rfl) (by kernel_rfl) (fun _ _ _ h => h) (yieldsIf_load_mid (by rfl) _ _ rfl (A + 1) 0 rfl _ _ (fun w h => bl_range H2.out h) Try.underlying25 rfl HIN.out) hHeld ?_
      simp only [Act.put, List.getElem_toArray, List.getElem_cons_zero, List.getElem_cons_succ, List.setIfInBounds_toArray, List.set_cons_zero, List.set_cons_succ]
      refine wpAnyH_take (i := 2) (v := .slice ab b.length capb) rfl (by kernel_rfl) (by kernel_rfl) (by kernel_rfl) (fun _ _ _ h => h) (yi_move _ (.slice ab b.length capb) (by rfl) rfl rfl) hHeld ?_
      simp only [Act.put, List.getElem_toArray, List.getElem_cons_zero, List.getElem_cons_succ, List.setIfInBounds_toArray, List.set_cons_zero, List.set_cons_succ]
      refine wpAnyH_take (i := 3) (v := .int .i64 ((q : Nat) : Int)) rfl (by kernel_rfl) (by kernel_rfl) (by kernel_rfl) (fun _ _ _ h => h) (yi_move _ (.int .i64 ((q : Nat) : Int)) (by rfl) rfl rfl) hHeld ?_
      simp only [Act.put, List.getElem_toArray, List.getElem_cons_zero, List.getElem_cons_succ, List.setIfInBounds_toArray, List.set_cons_zero, List.set_cons_succ]
      refine wpAnyH_take (i := 4) (v := .slice at1 nt1 ct1) rfl (by kernel_rfl) (by kernel_rfl) (by kernel_rfl) (fun _ _ _ h => h) (yi_slice _ _ _ _ (.slice ab b.length capb) (.slice at1 nt1 ct1) none (some (.int .i64 ((q : Nat) : Int))) (by rfl) rfl rfl rfl rfl HST.out) hHeld ?_
      simp only [Act.put, List.getElem_toArray, List.getElem_cons_zero, List.getElem_cons_succ, List.setIfInBounds_toArray, List.set_cons_zero, List.set_cons_succ]
      refine wpAnyH_ready (rs := [5]) (by kernel_rfl) (by simp) (AllReadyH.cons rfl (fun K hK => ?_) AllReadyH.nil)
      go_simp
      refine (aturned_any kb nb (b.take q) _ w8.drew HKL.out HNL.out rt HQT.out).mono ?_
      rintro e m1 ⟨x1, rfl, o1, b1⟩
      have rt := rt.below b1
      have r1 : Row1 m1 x1 ((chaTurn kb 1 nb (b.take q)).map bval) := Row1.of_own o1
      obtain ⟨a1, c1, hx1, _⟩ := id r1
      rw [show ((chaTurn kb 1 nb (b.take q)).map bval).length = (chaTurn kb 1 nb (b.take q)).length from by rw [List.length_map]] at hx1
      subst hx1
      have N1 : Ext w8 m1 := B0.trans b1
      refine hK.out _ _ N1 (fun hHeld => ?_)
      clear hK K
      try simp only [Act.put, List.getElem_toArray, List.getElem_cons_zero, List.getElem_cons_succ, List.setIfInBounds_toArray, List.set_cons_zero, List.set_cons_succ]
      refine wpAnyH_take (i := 6) (v := .slice a1 ((chaTurn kb 1 nb (b.take q)).length) c1) rfl (by kernel_rfl) (by kernel_rfl) (by kernel_rfl) (fun _ _ _ h => h) (yi_assign _ (.slice a1 ((chaTurn kb 1 nb (b.take q)).length) c1) (by rfl) rfl rfl) hHeld ?_
      simp only [Act.put, List.getElem_toArray, List.getElem_cons_zero, List.getElem_cons_succ, List.setIfInBounds_toArray, List.set_cons_zero, List.set_cons_succ]
      refine wpAnyH_ready (rs := [7]) (by kernel_rfl) (by simp) (AllReadyH.cons rfl (fun K hK => ?_) AllReadyH.nil)
      go_simp
      refine hK.out _ _ N1 (fun hHeld => ?_)
      clear hK K
      try simp only [Act.put, List.getElem_toArray, List.getElem_cons_zero, List.getElem_cons_succ, List.setIfInBounds_toArray, List.set_cons_zero, List.set_cons_succ]
      refine wpAnyH_done (by kernel_rfl) ?_ _
      go_wp2_with fail
      refine bodyPost_ret (res_two rfl _ _) rfl ?_
      exact ⟨_, by rw [HOS.out]; rfl, by rw [HOS.out]; exact r1, HE.out.trans N1⟩
    · have HOS : Hid (openB kb nb b s = none) := Lib.hid (by rw [HOP.out, if_neg heq])
      have rb := HH7.out
      have B0 : Ext w7 w7.drew := Ext.drew _
      refine wp_region_held_drew (S := fun w' => Ext w7 w') (by kernel_rfl) B0 (fun hHeld => ?_)
      have rb := rb.below (Ext.drew _)
      refine wpAnyH_take (i := 0) (v := .slice (some ⟨p7, 0, none⟩) 16 16) rfl (by kernel_rfl) (by kernel_rfl) (by kernel_rfl) (fun _ _ _ h => h) (yi_slice _ _ _ _ (.pointer (some ⟨p7, 0, none⟩)) (.slice (some ⟨p7, 0, none⟩) 16 16) none none (by rfl) rfl rfl rfl rfl (fun w => cut_whole Try.underlying43 Try.sizeOf5 (by omega) _ w)) hHeld ?_
      simp only [Act.put, List.getElem_toArray, List.getElem_cons_zero, List.getElem_cons_succ, List.setIfInBounds_toArray, List.set_cons_zero, List.set_cons_succ]
      refine wpAnyH_take (i := 1) (v := .slice ab b.length capb) rfl (by kernel_rfl) (by kernel_rfl) (by kernel_rfl) (fun _ _ _ h => h) (yi_move _ (.slice ab b.length capb) (by rfl) rfl rfl) hHeld ?_
      simp only [Act.put, List.getElem_toArray, List.getElem_cons_zero, List.getElem_cons_succ, List.setIfInBounds_toArray, List.set_cons_zero, List.set_cons_succ]
      refine wpAnyH_take (i := 2) (v := .int .i64 ((q : Nat) : Int)) rfl (by kernel_rfl) (by kernel_rfl) (by kernel_rfl) (fun _ _ _ h => h) (yi_move _ (.int .i64 ((q : Nat) : Int)) (by rfl) rfl rfl) hHeld ?_
      simp only [Act.put, List.getElem_toArray, List.getElem_cons_zero, List.getElem_cons_succ, List.setIfInBounds_toArray, List.set_cons_zero, List.set_cons_succ]
      refine wpAnyH_take (i := 3) (v := .slice ah nh ch) rfl (by kernel_rfl) (by kernel_rfl) (by kernel_rfl) (fun _ _ _ h => h) (yi_slice _ _ _ _ (.slice ab b.length capb) (.slice ah nh ch) (some (.int .i64 ((q : Nat) : Int))) none (by rfl) rfl rfl rfl rfl HSH.out) hHeld ?_
      simp only [Act.put, List.getElem_toArray, List.getElem_cons_zero, List.getElem_cons_succ, List.setIfInBounds_toArray, List.set_cons_zero, List.set_cons_succ]
      refine wpAnyH_ready (rs := [4]) (by kernel_rfl) (by simp) (AllReadyH.cons rfl (fun K hK => ?_) AllReadyH.nil)
      go_simp
      refine (same_false (.slice (some ⟨p7, 0, none⟩) 16 16) (.slice ah nh ch) tg (b.drop q) w7.drew ((blk_row (n := 16) H7.out (by rw [List.length_map]; exact HTL.out) (by unfold maxLen; omega)).below B0) rb heq).mono ?_
      rintro e m1 ⟨rfl, b1⟩
      have rb := rb.below b1
      have N1 : Ext w7 m1 := B0.trans b1
      refine hK.out _ _ N1 (fun hHeld => ?_)
      clear hK K
      try simp only [Act.put, List.getElem_toArray, List.getElem_cons_zero, List.getElem_cons_succ, List.setIfInBounds_toArray, List.set_cons_zero, List.set_cons_succ]
      refine wpAnyH_take (i := 5) (v := .bool true) rfl (by kernel_rfl) (by kernel_rfl) (by kernel_rfl) (fun _ _ _ h => h) (yi_not _ _ false (by rfl) rfl rfl) hHeld ?_
      simp only [Act.put, List.getElem_toArray, List.getElem_cons_zero, List.getElem_cons_succ, List.setIfInBounds_toArray, List.set_cons_zero, List.set_cons_succ]
      refine wpAnyH_done (by kernel_rfl) ?_ _
      have HN8 : Hid (Ext w7 m1) := Lib.hid N1
      generalize m1 = w8 at HN8 ⊢
      have HE := Lib.hid (HE.out.trans HN8.out)
      clear HOP heq
      go_wp2_with fail
      refine bodyPost_ret (res_two rfl _ _) rfl ?_
      exact ⟨_, by rw [HOS.out]; rfl, by rw [HOS.out]; exact Row1.nil _, HE.out⟩

end Go.Proofs.Ytflefkmpllbeeaa

/- The walk of what every law of chapter 11 begins with: alive. Each theorem names its own conditions. -/
namespace Go.Proofs.Ytflefkmpllbeeaa
open Go.RowKit
set_option linter.unusedVariables false
set_option linter.unusedSimpArgs false

theorem build_noncea (w : World) : (Instr.build 25 #[]).run Try.prog w = .ok (.agg ((zB 12).map bval).toArray) w := by
  simp [Instr.build, Try.zeroValue25]
  rfl
theorem asize_alloc (w : World) (o : Obj) : (w.alloc o).heap.size = w.heap.size + 1 := by simp
theorem num_any (n : Int) (w : World) : Calls Try.prog 12 #[.int .i64 n] w fun e w' => e = .returned (.int .i64 n) ∧ w = w' := by
  go_enter Try.func12, Try.ntmps12
  go_wp2_with fail
  go_ret
  exact ⟨rfl, rfl⟩
def al1 : List UInt8 := sealB (smL 1) (zB 12) [120] [121]
theorem al_open : openB (smL 1) (zB 12) al1 [121] = some [120] := open_seal _ _ _ _
theorem al_other : openB (smL 1) (zB 12) al1 [] = none := by decide +kernel
theorem al1_length : al1.length = 17 := sealB_length _ _ _ _

set_option maxRecDepth 100000 in
set_option maxHeartbeats 4000000 in
theorem alive_any11 (w : World) : Calls Try.prog 8 #[] w fun e w' => e = .returned (.bool true) ∧ Below w.heap.size w w' := by
  have kb1 := build_one
  have kbn := build_noncea
  have kc := fun (w : World) (C : Array Value) (n c : Nat) => Lib.run_convert_bytes_const (P := Try.prog) w 26 5 C n c Try.underlying26 Try.underlying5
  have kc2 := fun (w : World) (D C : Array Value) (fr : Nat × Nat) (n c : Nat) => kc (w.alloc (.cells D 5 fr)) C n c
  simp only [asize_alloc] at kc2
  go_enter Try.func8, Try.ntmps8
  go_wp2_with fail
  refine (ASeal_num (smL 1) (zB 12) [] [] _ _ w (smL_length _) (zB_length _) (Row1.nil w) (Row1.nil w) (by decide) (by decide)).mono ?_
  rintro e w1 ⟨x1, rfl, ho1, hb1⟩
  obtain ⟨a1, cp1, hx1, _⟩ := id (Row1.of_own ho1)
  rw [List.length_map, sealB_length] at hx1
  subst hx1
  have HE := Lib.hid (show Ext w w1 from hb1)
  clear ho1 hb1
  go_wp2_with fail
  have hx0 : Row1 (w1.alloc (.cells #[.int .u8 120] 5 (1, 2))) (.slice (some ⟨w1.heap.size, 0, none⟩) 1 1) (([120] : List UInt8).map bval) := Row1.made_mark w1 _ _ _ _ _ _ rfl rfl rfl (by unfold maxLen; omega)
  have HX := Lib.hid (hx0.below (Ext.alloc (w1.alloc (.cells #[.int .u8 120] 5 (1, 2))) (.cells #[.int .u8 121] 5 (1, 2))))
  have HY : Hid (Row1 ((w1.alloc (.cells #[.int .u8 120] 5 (1, 2))).alloc (.cells #[.int .u8 121] 5 (1, 2))) (.slice (some ⟨w1.heap.size + 1, 0, none⟩) 1 1) (([121] : List UInt8).map bval)) := Lib.hid (by
    rw [← asize_alloc w1 (.cells #[.int .u8 120] 5 (1, 2))]
    exact Row1.made_mark _ _ _ _ _ _ _ rfl rfl rfl (by unfold maxLen; omega))
  clear hx0
  have HE := Lib.hid (HE.out.trans ((Ext.alloc w1 (.cells #[.int .u8 120] 5 (1, 2))).trans (Ext.alloc _ (.cells #[.int .u8 121] 5 (1, 2)))))
  generalize (w1.alloc (.cells #[.int .u8 120] 5 (1, 2))).alloc (.cells #[.int .u8 121] 5 (1, 2)) = w2 at *
  refine (ASeal_num (smL 1) (zB 12) [120] [121] _ _ w2 (smL_length _) (zB_length _) HX.out HY.out (by decide) (by decide)).mono ?_
  rintro e w3 ⟨x3, rfl, ho3, hb3⟩
  obtain ⟨a3, cp3, hx3, _⟩ := id (Row1.of_own ho3)
  rw [List.length_map, sealB_length] at hx3
  subst hx3
  have HC := Lib.hid (show Row1 w3 (.slice a3 ([120].length + 16) cp3) (al1.map bval) from Row1.of_own ho3)
  have HE := Lib.hid (HE.out.trans hb3)
  clear ho3 hb3 HX HY
  go_wp2_with fail
  have HY : Hid (Row1 (w3.alloc (.cells #[.int .u8 121] 5 (1, 2))) (.slice (some ⟨w3.heap.size, 0, none⟩) 1 1) (([121] : List UInt8).map bval)) := Lib.hid (Row1.made_mark w3 _ _ _ _ _ _ rfl rfl rfl (by unfold maxLen; omega))
  have HE := Lib.hid (HE.out.trans (Ext.alloc w3 (.cells #[.int .u8 121] 5 (1, 2))))
  have HC := Lib.hid (HC.out.below (Ext.alloc w3 (.cells #[.int .u8 121] 5 (1, 2))))
  generalize w3.alloc (.cells #[.int .u8 121] 5 (1, 2)) = w4 at *
  refine (AOpen_num (smL 1) (zB 12) al1 [121] _ _ w4 (smL_length _) (zB_length _) HC.out HY.out (by rw [al1_length]; omega) (by decide)).mono ?_
  rintro e w5 ⟨x5, rfl, hr5, hb5⟩
  rw [al_open] at hr5
  have HAO := Lib.hid al_open
  rw [HAO.out]
  obtain ⟨a5, cp5, hx5, _⟩ := id hr5
  rw [List.length_map] at hx5
  subst hx5
  have HP := Lib.hid hr5
  have HE := Lib.hid (HE.out.trans hb5)
  have HC := Lib.hid (HC.out.below hb5)
  clear hr5 hb5 HY
  simp only [aErr, Option.isSome_some, if_true]
  go_wp2_with fail
  refine (AOpen_num (smL 1) (zB 12) al1 [] _ _ w5 (smL_length _) (zB_length _) HC.out (Row1.nil w5) (by rw [al1_length]; omega) (by decide)).mono ?_
  rintro e w6 ⟨x6, rfl, hr6, hb6⟩
  have HAN := Lib.hid al_other
  rw [HAN.out]
  have HP := Lib.hid (HP.out.below hb6)
  have HE := Lib.hid (HE.out.trans hb6)
  clear hr6 hb6 HC
  simp only [aErr, Option.isSome_none]
  go_wp2_with fail
  refine (num_any 0 w6).mono ?_
  rintro e w7 ⟨rfl, rfl⟩
  have kp := fun (w : World) (h : Row1 w (.slice a5 1 cp5) (([120] : List UInt8).map bval)) => run_string_row _ _ 5 Try.underlying26 Try.underlying5 Try.underlying9 h
  have kp6 := kp w6 HP.out
  go_wp2_with fail
  refine (num_any 10 _).mono ?_
  rintro e w8 ⟨rfl, rfl⟩
  go_wp2_with fail
  go_ret
  exact ⟨rfl, HE.out⟩

end Go.Proofs.Ytflefkmpllbeeaa

/- The walk of AeadSeals. Each theorem names its own conditions. -/
namespace Go.Proofs.Ytflefkmpllbeeaa
open Go.RowKit
set_option linter.unusedVariables false
set_option linter.unusedSimpArgs false

theorem str_row {w : World} {a : Option Addr} {n c : Nat} {l : List UInt8} (h : Row1 w (.slice a n c) (l.map bval)) : (convert 26 9 (.slice a n c)).run Try.prog w = .ok (.string ⟨l.toArray⟩) w :=
  run_string_row _ _ 5 Try.underlying26 Try.underlying5 Try.underlying9 h

theorem num_b (n : Int) (w : World) : Calls Try.prog 12 #[.int .i64 n] w fun e w' => e = .returned (.int .i64 n) ∧ Below w.heap.size w w' :=
  (num_any n w).mono fun e w' h => ⟨h.1, by rw [← h.2]; exact Below.refl _ _⟩
theorem rSeal_b (kb nb p s b : List UInt8) (pv sv : Value) (w : World) (hk : kb.length = 32) (hn : nb.length = 12) (hp : Row1 w pv (p.map bval)) (hs : Row1 w sv (s.map bval)) (hpl : p.length ≤ 1000000000) (hsl : s.length ≤ 1000000000) (hb : b = sealB kb nb p s) :
    Calls Try.prog 11 #[.agg (kb.map bval).toArray, .agg (nb.map bval).toArray, pv, sv] w fun e w' => ∃ x, e = .returned x ∧ w'.ownsRow w.heap.size 5 1 x (p.length + 16) (b.map bval) ∧ Below w.heap.size w w' := by
  rw [hb]
  exact rSeal_any kb nb p s pv sv w hk hn hp hs hpl hsl

set_option maxRecDepth 100000 in
set_option maxHeartbeats 8000000 in
theorem aeadSeals_any (kb nb p s : List UInt8) (pv sv : Value) (w : World) (hk : kb.length = 32) (hn : nb.length = 12) (hp : Row1 w pv (p.map bval)) (hs : Row1 w sv (s.map bval)) :
    Calls Try.prog 3 #[.agg (kb.map bval).toArray, .agg (nb.map bval).toArray, pv, sv] w fun e w' => e = .returned (.bool true) ∧ Below w.heap.size w w' := by
  have HP0 := Lib.hid hp
  have HS0 := Lib.hid hs
  obtain ⟨ap, capp, hpv, p1, p2, _⟩ := id hp
  obtain ⟨ad, capd, hsv, s1, s2, _⟩ := id hs
  rw [List.length_map] at hpv p1 hsv s1
  subst hpv hsv
  unfold maxLen at p2 s2
  have HB := Lib.hid (boxes2 w (kb.map bval) (nb.map bval) 23 25)
  have HIK : Hid ((Try.prog.info? 23).map (·.size) = some (kb.map bval).length) := Lib.hid (num_size hk)
  have HIN : Hid ((Try.prog.info? 25).map (·.size) = some (nb.map bval).length) := Lib.hid (nonce_size hn)
  have HKL := Lib.hid hk
  have HNL := Lib.hid hn
  clear hp hs hk hn
  go_enter Try.func3, Try.ntmps3
  go_upto_region 1 with (fail)
  obtain ⟨H1, H2, HE⟩ := HB.out
  change Code.wp _ _ _ _ ((w.alloc (.cells (kb.map bval).toArray 23)).alloc (.cells (nb.map bval).toArray 25))
  generalize (w.alloc (.cells (kb.map bval).toArray 23)).alloc (.cells (nb.map bval).toArray 25) = wa at *
  obtain ⟨A, hA⟩ : ∃ A, A = w.heap.size := ⟨_, rfl⟩
  rw [← hA] at H1 H2 ⊢
  have H1 := Lib.hid H1
  have H2 := Lib.hid H2
  have HE : Hid (Ext w wa) := Lib.hid HE
  clear hA HB
  go_wp2_with fail
  refine (alive_any11 wa).mono ?_
  rintro e w1 ⟨rfl, hb⟩
  have H1 := Lib.hid (ext_blk H1.out hb)
  have H2 := Lib.hid (ext_blk H2.out hb)
  have HE := Lib.hid (HE.out.trans hb)
  clear hb
  by_cases h1 : 1000 < p.length
  · have h1' : (1000 : Int) < (p.length : Int) := by omega
    go_wp2_with fail
    go_ret
    exact ⟨rfl, HE.out⟩
  · have h1' : decide ((1000 : Int) < (p.length : Int)) = false := decide_eq_false (by omega)
    have HPL : Hid (p.length ≤ 1000) := Lib.hid (by omega)
    clear h1
    by_cases h2 : 500 < s.length
    · have h2' : (500 : Int) < (s.length : Int) := by omega
      go_wp2_with fail
      go_ret
      exact ⟨rfl, HE.out⟩
    · have h2' : decide ((500 : Int) < (s.length : Int)) = false := decide_eq_false (by omega)
      have HSL : Hid (s.length ≤ 500) := Lib.hid (by omega)
      clear h2
      go_wp2_with (first | (refine wpList_load_blk rfl _ _ rfl A rfl _ _ _ _ H1.out Try.underlying23 HIK.out ?_) | (refine wpList_load_blk rfl _ _ rfl (A + 1) rfl _ _ _ _ H2.out Try.underlying25 HIN.out ?_))
      refine (ASeal_num kb nb p s _ _ w1 HKL.out HNL.out (HP0.out.below HE.out) (HS0.out.below HE.out) (by have := HPL.out; omega) (by have := HSL.out; omega)).mono ?_
      rintro e w2 ⟨x2, rfl, ho2, hb2⟩
      have hr2 := Row1.of_own ho2
      have HBL : Hid ((sealB kb nb p s).length ≤ 1016) := Lib.hid (by rw [sealB_length]; have := HPL.out; omega)
      have HOP := Lib.hid (open_seal kb nb p s)
      obtain ⟨b, hbb⟩ : ∃ b, b = sealB kb nb p s := ⟨_, rfl⟩
      rw [← hbb] at hr2 HBL HOP
      have HBB := Lib.hid hbb
      obtain ⟨a2, c2, n2, rfl⟩ := row_form2 hr2
      have HR2 := Lib.hid hr2
      have H1 := Lib.hid (ext_blk H1.out hb2)
      have H2 := Lib.hid (ext_blk H2.out hb2)
      have HE := Lib.hid (HE.out.trans hb2)
      clear ho2 hb2 hr2 hbb
      go_wp2_with (first | (refine wpList_load_blk rfl _ _ rfl A rfl _ _ _ _ H1.out Try.underlying23 HIK.out ?_) | (refine wpList_load_blk rfl _ _ rfl (A + 1) rfl _ _ _ _ H2.out Try.underlying25 HIN.out ?_))
      refine (AOpen_num kb nb b s _ _ w2 HKL.out HNL.out HR2.out (HS0.out.below HE.out) (by have := HBL.out; omega) (by have := HSL.out; omega)).mono ?_
      rintro e w3 ⟨x3, rfl, hr3, hb3⟩
      rw [HOP.out] at hr3 ⊢
      obtain ⟨a3, c3, n3, rfl⟩ := row_form2 hr3
      have HR3 := Lib.hid (show Row1 w3 _ (p.map bval) from hr3)
      have HR2 := Lib.hid (HR2.out.below hb3)
      have H1 := Lib.hid (ext_blk H1.out hb3)
      have H2 := Lib.hid (ext_blk H2.out hb3)
      have HE := Lib.hid (HE.out.trans hb3)
      clear hr3 hb3
      simp only [aErr, Option.isSome_some, if_true]
      have HP3 := Lib.hid (HP0.out.below HE.out)
      have HS3 := Lib.hid (HS0.out.below HE.out)
      go_upto_region 6 with (fail)
      have B0 : Ext w3 w3.drew := Ext.drew _
      refine wp_region_held_drew (S := fun w' => Ext w3 w') (by kernel_rfl) B0 (fun hHeld => ?_)
      refine wpAnyH_take (i := 0) (v := .slice a2 c2 n2) rfl (by kernel_rfl) (by kernel_rfl) (by kernel_rfl) (fun _ _ _ h => h) (yi_move _ (.slice a2 c2 n2) (by rfl) rfl rfl) hHeld ?_
      simp only [Act.put, List.getElem_toArray, List.getElem_cons_zero, List.getElem_cons_succ, List.setIfInBounds_toArray, List.set_cons_zero, List.set_cons_succ]
      refine wpAnyH_take (i := 1) (v := .string ⟨(b).toArray⟩) rfl (by kernel_rfl) (by kernel_rfl) (by kernel_rfl) (fun _ _ _ h => h) (yi_conv _ _ _ (.slice a2 c2 n2) _ (by rfl) rfl rfl (fun w h => run_string_row _ _ 5 Try.underlying26 Try.underlying5 Try.underlying9 ((HR2.out).below h))) hHeld ?_
      simp only [Act.put, List.getElem_toArray, List.getElem_cons_zero, List.getElem_cons_succ, List.setIfInBounds_toArray, List.set_cons_zero, List.set_cons_succ]
      refine wpAnyH_take (i := 2) (v := .agg ((kb).map bval).toArray) rfl (by kernel_rfl) (by kernel_rfl) (by kernel_rfl) (fun _ _ _ h => h) (yieldsIf_load_mid (by rfl) _ _ rfl A 0 rfl _ _ (fun w h => bl_range H1.out h) Try.underlying23 rfl HIK.out) hHeld ?_
      simp only [Act.put, List.getElem_toArray, List.getElem_cons_zero, List.getElem_cons_succ, List.setIfInBounds_toArray, List.set_cons_zero, List.set_cons_succ]
      refine wpAnyH_take (i := 3) (v := .agg ((nb).map bval).toArray) rfl (by kernel_rfl) (by kernel_rfl) (by kernel_rfl) (fun _ _ _ h => h) (yieldsIf_load_mid (by rfl) _ _ rfl (A + 1) 0 rfl _ _ (fun w h => bl_range H2.out h) Try.underlying25 rfl HIN.out) hHeld ?_
      simp only [Act.put, List.getElem_toArray, List.getElem_cons_zero, List.getElem_cons_succ, List.setIfInBounds_toArray, List.set_cons_zero, List.set_cons_succ]
      refine wpAnyH_take (i := 4) (v := .slice ap p.length capp) rfl (by kernel_rfl) (by kernel_rfl) (by kernel_rfl) (fun _ _ _ h => h) (yi_move _ (.slice ap p.length capp) (by rfl) rfl rfl) hHeld ?_
      simp only [Act.put, List.getElem_toArray, List.getElem_cons_zero, List.getElem_cons_succ, List.setIfInBounds_toArray, List.set_cons_zero, List.set_cons_succ]
      refine wpAnyH_take (i := 5) (v := .slice ad s.length capd) rfl (by kernel_rfl) (by kernel_rfl) (by kernel_rfl) (fun _ _ _ h => h) (yi_move _ (.slice ad s.length capd) (by rfl) rfl rfl) hHeld ?_
      simp only [Act.put, List.getElem_toArray, List.getElem_cons_zero, List.getElem_cons_succ, List.setIfInBounds_toArray, List.set_cons_zero, List.set_cons_succ]
      refine wpAnyH_ready (rs := [6]) (by kernel_rfl) (by simp) (AllReadyH.cons rfl (fun K hK => ?_) AllReadyH.nil)
      go_simp
      refine (rSeal_b kb nb p s b _ _ _ HKL.out HNL.out ((HP3.out).below B0) ((HS3.out).below B0) (by have := HPL.out; omega) (by have := HSL.out; omega) HBB.out).mono ?_
      rintro e m1 ⟨x1, rfl, o1, b1⟩
      have r1 : Row1 m1 x1 ((b).map bval) := Row1.of_own o1
      obtain ⟨a1, c1, hx1, _⟩ := id r1
      rw [show ((b).map bval).length = b.length from by rw [List.length_map]] at hx1
      subst hx1
      have N1 : Ext w3 m1 := B0.trans b1
      refine hK.out _ _ N1 (fun hHeld => ?_)
      clear hK K
      try simp only [Act.put, List.getElem_toArray, List.getElem_cons_zero, List.getElem_cons_succ, List.setIfInBounds_toArray, List.set_cons_zero, List.set_cons_succ]
      refine wpAnyH_ready (rs := [7]) (by kernel_rfl) (by simp) (AllReadyH.cons rfl (fun K hK => ?_) AllReadyH.nil)
      refine step_wp (by rfl) ?_
      refine wp_conv_d (some 47) _ _ _ _ _ (m1) rfl rfl rfl (run_string_row 26 9 5 Try.underlying26 Try.underlying5 Try.underlying9 r1) ?_
      refine hK.out _ _ N1 (fun hHeld => ?_)
      clear hK K
      try simp only [Act.put, List.getElem_toArray, List.getElem_cons_zero, List.getElem_cons_succ, List.setIfInBounds_toArray, List.set_cons_zero, List.set_cons_succ]
      refine wpAnyH_take (i := 8) (v := .bool true) rfl (by kernel_rfl) (by kernel_rfl) (by kernel_rfl) (fun _ _ _ h => h) (yi_eqt _ _ _ _ (b) (b) true (decide_eq_true (rfl)) (by rfl) rfl rfl rfl) hHeld ?_
      simp only [Act.put, List.getElem_toArray, List.getElem_cons_zero, List.getElem_cons_succ, List.setIfInBounds_toArray, List.set_cons_zero, List.set_cons_succ]
      refine wpAnyH_take (i := 9) (v := .bool true) rfl (by kernel_rfl) (by kernel_rfl) (by kernel_rfl) (fun _ _ _ h => h) (yi_move _ (.bool true) (by rfl) rfl rfl) hHeld ?_
      simp only [Act.put, List.getElem_toArray, List.getElem_cons_zero, List.getElem_cons_succ, List.setIfInBounds_toArray, List.set_cons_zero, List.set_cons_succ]
      refine wpAnyH_take (i := 10) (v := .int .i64 0) rfl (by kernel_rfl) (by kernel_rfl) (by kernel_rfl) (fun _ _ _ h => h) (yi_move _ (.int .i64 0) (by rfl) rfl rfl) hHeld ?_
      simp only [Act.put, List.getElem_toArray, List.getElem_cons_zero, List.getElem_cons_succ, List.setIfInBounds_toArray, List.set_cons_zero, List.set_cons_succ]
      refine wpAnyH_ready (rs := [11]) (by kernel_rfl) (by simp) (AllReadyH.cons rfl (fun K hK => ?_) AllReadyH.nil)
      go_simp
      refine (num_b 0 _).mono ?_
      rintro e m2 ⟨rfl, b2⟩
      have r1 := r1.below b2
      have N2 : Ext w3 m2 := N1.trans b2
      refine hK.out _ _ N2 (fun hHeld => ?_)
      clear hK K
      try simp only [Act.put, List.getElem_toArray, List.getElem_cons_zero, List.getElem_cons_succ, List.setIfInBounds_toArray, List.set_cons_zero, List.set_cons_succ]
      refine wpAnyH_take (i := 12) (v := .bool true) rfl (by kernel_rfl) (by kernel_rfl) (by kernel_rfl) (fun _ _ _ h => h) (yi_eqi .i64 _ _ _ _ _ _ true (decide_eq_true (rfl)) (by rfl) rfl rfl rfl) hHeld ?_
      simp only [Act.put, List.getElem_toArray, List.getElem_cons_zero, List.getElem_cons_succ, List.setIfInBounds_toArray, List.set_cons_zero, List.set_cons_succ]
      refine wpAnyH_take (i := 13) (v := .bool true) rfl (by kernel_rfl) (by kernel_rfl) (by kernel_rfl) (fun _ _ _ h => h) (yi_pick _ _ _ true _ (by rfl) rfl rfl rfl) hHeld ?_
      simp only [Act.put, List.getElem_toArray, List.getElem_cons_zero, List.getElem_cons_succ, List.setIfInBounds_toArray, List.set_cons_zero, List.set_cons_succ]
      refine wpAnyH_take (i := 14) (v := .bool true) rfl (by kernel_rfl) (by kernel_rfl) (by kernel_rfl) (fun _ _ _ h => h) (yi_move _ (.bool true) (by rfl) rfl rfl) hHeld ?_
      simp only [Act.put, List.getElem_toArray, List.getElem_cons_zero, List.getElem_cons_succ, List.setIfInBounds_toArray, List.set_cons_zero, List.set_cons_succ]
      refine wpAnyH_take (i := 15) (v := .slice a3 c3 n3) rfl (by kernel_rfl) (by kernel_rfl) (by kernel_rfl) (fun _ _ _ h => h) (yi_move _ (.slice a3 c3 n3) (by rfl) rfl rfl) hHeld ?_
      simp only [Act.put, List.getElem_toArray, List.getElem_cons_zero, List.getElem_cons_succ, List.setIfInBounds_toArray, List.set_cons_zero, List.set_cons_succ]
      refine wpAnyH_take (i := 16) (v := .string ⟨(p).toArray⟩) rfl (by kernel_rfl) (by kernel_rfl) (by kernel_rfl) (fun _ _ _ h => h) (yi_conv _ _ _ (.slice a3 c3 n3) _ (by rfl) rfl rfl (fun w h => run_string_row _ _ 5 Try.underlying26 Try.underlying5 Try.underlying9 ((HR3.out).below h))) hHeld ?_
      simp only [Act.put, List.getElem_toArray, List.getElem_cons_zero, List.getElem_cons_succ, List.setIfInBounds_toArray, List.set_cons_zero, List.set_cons_succ]
      refine wpAnyH_take (i := 17) (v := .slice ap p.length capp) rfl (by kernel_rfl) (by kernel_rfl) (by kernel_rfl) (fun _ _ _ h => h) (yi_move _ (.slice ap p.length capp) (by rfl) rfl rfl) hHeld ?_
      simp only [Act.put, List.getElem_toArray, List.getElem_cons_zero, List.getElem_cons_succ, List.setIfInBounds_toArray, List.set_cons_zero, List.set_cons_succ]
      refine wpAnyH_take (i := 18) (v := .string ⟨(p).toArray⟩) rfl (by kernel_rfl) (by kernel_rfl) (by kernel_rfl) (fun _ _ _ h => h) (yi_conv _ _ _ (.slice ap p.length capp) _ (by rfl) rfl rfl (fun w h => run_string_row _ _ 5 Try.underlying26 Try.underlying5 Try.underlying9 ((HP3.out).below h))) hHeld ?_
      simp only [Act.put, List.getElem_toArray, List.getElem_cons_zero, List.getElem_cons_succ, List.setIfInBounds_toArray, List.set_cons_zero, List.set_cons_succ]
      refine wpAnyH_take (i := 19) (v := .bool true) rfl (by kernel_rfl) (by kernel_rfl) (by kernel_rfl) (fun _ _ _ h => h) (yi_eqt _ _ _ _ (p) (p) true (decide_eq_true (rfl)) (by rfl) rfl rfl rfl) hHeld ?_
      simp only [Act.put, List.getElem_toArray, List.getElem_cons_zero, List.getElem_cons_succ, List.setIfInBounds_toArray, List.set_cons_zero, List.set_cons_succ]
      refine wpAnyH_take (i := 20) (v := .bool true) rfl (by kernel_rfl) (by kernel_rfl) (by kernel_rfl) (fun _ _ _ h => h) (yi_pick _ _ _ true _ (by rfl) rfl rfl rfl) hHeld ?_
      simp only [Act.put, List.getElem_toArray, List.getElem_cons_zero, List.getElem_cons_succ, List.setIfInBounds_toArray, List.set_cons_zero, List.set_cons_succ]
      refine wpAnyH_ready (rs := [21]) (by kernel_rfl) (by simp) (AllReadyH.cons rfl (fun K hK => ?_) AllReadyH.nil)
      go_simp
      refine hK.out _ _ N2 (fun hHeld => ?_)
      clear hK K
      try simp only [Act.put, List.getElem_toArray, List.getElem_cons_zero, List.getElem_cons_succ, List.setIfInBounds_toArray, List.set_cons_zero, List.set_cons_succ]
      refine wpAnyH_done (by kernel_rfl) ?_ _
      go_wp2_with fail
      go_ret
      exact ⟨rfl, HE.out.trans N2⟩

end Go.Proofs.Ytflefkmpllbeeaa
