/- Texts that belong together, one behind the other. -/
import Derived.Test.YtimmnieopifcbaaGreatDoorQz09
namespace Go.Proofs.YtimmnieopifcbaaGreatDoor
set_option linter.unusedVariables false
set_option maxRecDepth 100000
set_option maxHeartbeats 32000000
set_option linter.unusedSimpArgs false
open Go.RowKit
theorem rExpand_any (iv : Value) (kb info : List UInt8) (n : Nat) (w : World) (hk : kb.length = 32) (hi : Row1 w iv (info.map bval)) (hil : info.length ≤ 1099511627000) (hn : n ≤ 8160) (hG : GlobK w) :
  Calls Tryz.prog 33 #[.agg (kb.map bval).toArray, iv, .int .i64 (n : Int)] w fun e w' => ∃ x, e = .returned x ∧ w'.ownsRow w.heap.size 5 1 x n ((hExpand kb info n).map bval) ∧ Below w.heap.size w w' := by
 obtain ⟨i0, hi0, hz0, hz1, hz2⟩ := info_parts Tryz.info5
 have HI0 := jh hi0
 have HZ0 := jh hz0
 have HZ1 := jh hz1
 have HZ2 := jh hz2
 have HIN := jh hi
 have HINL := jh hil
 have HKL := jh hk
 have HG := jh hG
 have HN := jh hn
 have n0 : (0 : Int) ≤ (n : Int) := Int.natCast_nonneg _
 have HKB0 := jh (Blk.made w (kb.map bval) 23)
 have HE0 := jh (Ext.alloc w (.cells (kb.map bval).toArray 23))
 have HNIL : Hid ((w.alloc (.cells (kb.map bval).toArray 23)).ownsRow (w.heap.size + 1) 5 1 (.slice none 0 0) 0 []) := jh (World.ownsRow_nil _ _ _ _)
 have HSU := jh usome
 clear hi hil hk hG hn hi0 hz0 hz1 hz2
 go_enter Tryz.func33, Tryz.ntmps33
 go_wp2_with fail
 obtain ⟨K, hK⟩ : ∃ K, K = w.heap.size := ⟨_, rfl⟩
 have HKW := jh hK
 rw [← hK] at HKB0 HNIL ⊢
 clear hK
 go_loopw [7, 8, 9] (fun x tv iv' wr => ∃ (j : Nat), iv' = .int .i64 (1 + (j : Int)) ∧ j ≤ 255 ∧ wr.ownsRow (K + 1) 5 1 x (32 * j) ((hkAll kb info j).map bval) ∧ Row1 wr tv ((hkT kb info j).map bval) ∧ Blk wr K (kb.map bval) 23 ∧ Ext w wr) (fun _ _ iv' _ => 300 - (intOf iv').toNat)
 case atStart => exact ⟨0, rfl, by omega, by simpa [hkAll] using HNIL.out, by simpa [hkT] using Row1.nil _, HKB0.out, HE0.out⟩
 case round =>
  clear HNIL HKB0 HE0
  obtain ⟨j, rfl, hj, ho, ht, hkb, hE⟩ := hrel
  have j0 : (0 : Int) ≤ (j : Int) := Int.natCast_nonneg _
  have HO := jh ho
  have HT := jh ht
  have HKB := jh hkb
  have HE := jh hE
  have HTL := jh (hkT_le kb info j)
  have HJ := jh hj
  obtain ⟨ax, cx, hxv, x1, x2, x3, x4⟩ := id (Row1.of_own ho)
  have hll : ((hkAll kb info j).map bval).length = 32 * j := by rw [List.length_map, zcr]
  rw [hll] at hxv
  subst hxv
  clear ho ht hkb hE x1 x2 x3 x4 hll
  by_cases hlt : 32 * j < n
  ·have hlt' : 32 * (j : Int) < (n : Int) := by omega
   have hlt2 : ((32 * j : Nat) : Int) < (n : Int) := by omega
   have HRN : Hid (wr.ownsRow wr.heap.size 5 1 (.slice none 0 0) 0 []) := jh (World.ownsRow_nil _ _ _ _)
   have HINR := jh (HIN.out.below HE.out)
   go_upto_region 7 with (first | (at_builtin; refine zas rfl _ _ 25 rfl wr.heap.size 5 i0 (.int .u8 0) 1 Tryz.underlying25 HI0.out HZ0.out HZ1.out HZ2.out rfl _ _ _ rfl HRN.out rfl HT.out (zag _) (by have := HTL.out; rw [List.length_map]; unfold maxLen; omega) (by have := HTL.out; rw [List.length_map]; omega) (Nat.le_refl _) ?_; intro v5 w5 ho5 hg5) | (at_builtin; refine zas rfl _ _ 25 rfl wr.heap.size 5 i0 (.int .u8 0) 1 Tryz.underlying25 HI0.out HZ0.out HZ1.out HZ2.out rfl _ _ _ rfl ho5 rfl (HINR.out.below (show Ext wr w5 from zck (Ext.refl _) HRN.out (Nat.le_refl _) hg5)) (zag _) (by have := HTL.out; have := HINL.out; simp only [List.length_map]; unfold maxLen; omega) (by have := HTL.out; have := HINL.out; simp only [List.length_map]; omega) (show Ext wr w5 from zck (Ext.refl _) HRN.out (Nat.le_refl _) hg5).size ?_; intro v7 w7 ho7 hg7))
   have HE7 : Hid (Ext wr w7) := jh (zck (zck (Ext.refl _) HRN.out (Nat.le_refl _) hg5) ho5 (Nat.le_refl _) hg7)
   have hob : w7.ownsRow wr.heap.size 5 1 v7 ((hkT kb info j ++ info).length) ((hkT kb info j ++ info).map bval) := by
    have h := ho7
    rw [List.nil_append, ← List.map_append] at h
    simpa only [List.length_map, List.length_append, Nat.zero_add] using h
   have HOB := jh hob
   have HAND : Hid (bits .and .i64 (1 + (j : Int)) 255 = (((j + 1) % 256 : Nat) : Int)) := jh (by rw [and_i64_255 _ (by omega) (by omega)]; omega)
   have HCV : Hid (IntKind.u8.wrap (((j + 1) % 256 : Nat) : Int) = ((UInt8.ofNat ((j + 1) % 256)).toNat : Int)) := jh (by rw [UInt8.toNat_ofNat', IntKind.wrap_u8]; omega)
   clear ho5 hg5 ho7 hg7 hob HRN HINR
   go_cut [11] from 12 to 34 (fun v11 wc => ∃ g, v11 = .pointer (some ⟨g, 0, none⟩) ∧ wr.heap.size ≤ g ∧ Blk wc g ((hmac kb (hkT kb info j ++ info ++ [UInt8.ofNat ((j + 1) % 256)])).map bval) 23 ∧ Ext wr wc)
   case first =>
    have ob := HOB.out
    have B0 : Ext wr w7.drew := (HE7.out).trans (Ext.drew _)
    refine wp_region_held_drew (S := fun w' => Ext wr w') (by kernel_rfl) B0 (fun hHeld => ?_)
    have ob := zbz ob (Ext.drew _)
    refine tke 0 (.slice (some ⟨K, 0, none⟩) 32 32) rfl (zbm _ _ _ _ (.pointer (some ⟨K, 0, none⟩)) (.slice (some ⟨K, 0, none⟩) 32 32) none none (by rfl) rfl rfl rfl rfl (fun w => zbw Tryz.underlying23 Tryz.sizeOf5 (by omega) _ w)) hHeld ?_
    simp only [Act.put, nrm]
    refine tke 1 v7 rfl (zbv _ (v7) (by rfl) rfl rfl) hHeld ?_
    simp only [Act.put, nrm]
    refine tke 2 (.int .i64 (1 + (j : Int))) rfl (zbv _ (.int .i64 (1 + (j : Int))) (by rfl) rfl rfl) hHeld ?_
    simp only [Act.put, nrm]
    refine tke 3 (.int .i64 (((j + 1) % 256 : Nat) : Int)) rfl (yi_and .i64 _ _ _ _ _ _ _ HAND.out (by rfl) rfl rfl rfl) hHeld ?_
    simp only [Act.put, nrm]
    refine tke 4 (.int .u8 ((UInt8.ofNat ((j + 1) % 256)).toNat : Int)) rfl (yi_iconv _ _ _ .i64 .u8 _ _ HSU.out Tryz.underlying5 HCV.out (by rfl) rfl rfl) hHeld ?_
    simp only [Act.put, nrm]
    refine wpAnyH_ready (rs := [5, 8]) (by kernel_rfl) (by simp) (AllReadyH.cons rfl (fun K hK => ?_) (AllReadyH.cons rfl (fun K hK => ?_) AllReadyH.nil))
    ·refine zaw (by rfl) ?_
     refine zcw (some 27) _ _ _ _ rfl rfl #[.int .u8 ((UInt8.ofNat ((j + 1) % 256)).toNat : Int)] i0 (.int .u8 0) Tryz.underlying25 HI0.out HZ0.out (by rw [HZ1.out]; decide) (by rw [HZ1.out]; decide) (by rw [HZ1.out]; kernel_rfl) ?_
     obtain ⟨m1, hm1⟩ : ∃ wNew, wNew = World.alloc w7.drew (.cells #[.int .u8 ((UInt8.ofNat ((j + 1) % 256)).toNat : Int)] 5) := ⟨_, rfl⟩
     rw [← hm1]
     have b1 : Ext w7.drew m1 := by rw [hm1]; exact Ext.alloc _ _
     obtain ⟨g1, hg1⟩ : ∃ gNew, gNew = (w7.drew).heap.size := ⟨_, rfl⟩
     rw [← hg1]
     have ob := zbz ob b1
     have r1 : Row1 m1 (.slice (some ⟨g1, 0, none⟩) 1 1) (([UInt8.ofNat ((j + 1) % 256)] : List UInt8).map bval) := by rw [hm1, hg1]; exact Row1.made _ _ _ _ _ _ rfl rfl rfl (by unfold maxLen; omega)
     have o1 : World.ownsRow m1 (wr).heap.size 5 1 (.slice (some ⟨g1, 0, none⟩) 1 1) 1 (([UInt8.ofNat ((j + 1) % 256)] : List UInt8).map bval) := by rw [hm1, hg1]; exact own_made _ _ _ _ _ _ rfl rfl (by unfold maxLen; omega) B0.size
     clear hm1 hg1
     have N1 : Ext wr m1 := B0.trans b1
     refine hK.out _ _ N1 (fun hHeld => ?_)
     clear hK K
     try simp only [Act.put, nrm]
     refine wpAnyH_ready (rs := [6, 8]) (by kernel_rfl) (by simp) (AllReadyH.cons rfl (fun K hK => ?_) (AllReadyH.cons rfl (fun K hK => ?_) AllReadyH.nil))
     ·refine zaw (by rfl) ?_
      refine zdn _ _ 25 rfl (wr).heap.size 5 i0 (.int .u8 0) 1 Tryz.underlying25 HI0.out HZ0.out HZ1.out HZ2.out rfl (v7) ((hkT kb info j ++ info).length) _ rfl ob rfl r1 (zag _) (by have := HINL.out; have := HTL.out; simp only [List.length_append, List.length_map, List.length_cons, List.length_nil]; unfold maxLen; omega) (by have := HINL.out; have := HTL.out; simp only [List.length_append, List.length_map, List.length_cons, List.length_nil]; omega) N1.size ?_
      intro v2 m2 ho2 hg2
      have N2 : Ext wr m2 := zck N1 ob (Nat.le_refl _) hg2
      have r2 : Row1 m2 v2 ((((hkT kb info j ++ info) ++ [UInt8.ofNat ((j + 1) % 256)])).map bval) := by have h := Row1.of_own ho2; simpa using h
      refine hK.out _ _ N2 (fun hHeld => ?_)
      clear hK K
      try simp only [Act.put, nrm]
      refine wpAnyH_ready (rs := [7, 8]) (by kernel_rfl) (by simp) (AllReadyH.cons rfl (fun K hK => ?_) (AllReadyH.cons rfl (fun K hK => ?_) AllReadyH.nil))
      ·go_simp
       refine (rMac_any _ _ kb ((hkT kb info j ++ info) ++ [UInt8.ofNat ((j + 1) % 256)]) _ ((zbo (n := 32) HKB.out (by rw [List.length_map]; exact HKL.out) (by unfold maxLen; omega)).below N2) r2 (by rw [HKL.out]; omega) (by have := HINL.out; have := HTL.out; simp only [List.length_append, List.length_cons, List.length_nil]; omega) (HG.out.ext (HE.out.trans N2))).mono ?_
       rintro e m3 ⟨rfl, b3⟩
       have r2 := r2.below b3
       have N3 : Ext wr m3 := N2.trans b3
       refine hK.out _ _ N3 (fun hHeld => ?_)
       clear hK K
       try simp only [Act.put, nrm]
       refine rdy 8 rfl fun K hK => ?_
       refine zaw (by rfl) ?_
       refine zby (some 11) _ zero32 rfl rfl Tryz.zeroValue23 ?_
       obtain ⟨m4, hm4⟩ : ∃ wNew, wNew = World.alloc m3 (.cells zero32.toArray 23) := ⟨_, rfl⟩
       rw [← hm4]
       have b4 : Ext m3 m4 := by rw [hm4]; exact Ext.alloc _ _
       obtain ⟨g4, hg4⟩ : ∃ gNew, gNew = (m3).heap.size := ⟨_, rfl⟩
       rw [← hg4]
       have z4 : Blk m4 g4 zero32 23 := by rw [hm4, hg4]; exact Blk.made _ _ _
       have l4 : (wr).heap.size ≤ g4 := by rw [hg4]; exact N3.size
       clear hm4 hg4
       have r2 := r2.below b4
       have N4 : Ext wr m4 := N3.trans b4
       refine hK.out _ _ N4 (fun hHeld => ?_)
       clear hK K
       try simp only [Act.put, nrm]
       refine rdy 9 rfl fun K hK => ?_
       refine zaw (by rfl) ?_
       refine zau _ _ _ rfl g4 ((hmac kb ((hkT kb info j ++ info) ++ [UInt8.ofNat ((j + 1) % 256)])).map bval) rfl rfl _ _ z4 (by rw [List.length_map, zbr _ _]; rfl) (zaf (zbr _ _)) (zag _) ?_
       intro m5 hb5 hg5
       have N5 : Ext wr m5 := zae N4 hg5 l4
       refine hK.out _ _ N5 (fun hHeld => ?_)
       clear hK K
       try simp only [Act.put, nrm]
       refine dne ?_
       go_wp2_with fail
       go_meet
       exact ⟨_, rfl, l4, hb5, N5⟩
      ·refine zaw (by rfl) ?_
       refine zby (some 11) _ zero32 rfl rfl Tryz.zeroValue23 ?_
       obtain ⟨m3, hm3⟩ : ∃ wNew, wNew = World.alloc m2 (.cells zero32.toArray 23) := ⟨_, rfl⟩
       rw [← hm3]
       have b3 : Ext m2 m3 := by rw [hm3]; exact Ext.alloc _ _
       obtain ⟨g3, hg3⟩ : ∃ gNew, gNew = (m2).heap.size := ⟨_, rfl⟩
       rw [← hg3]
       have z3 : Blk m3 g3 zero32 23 := by rw [hm3, hg3]; exact Blk.made _ _ _
       have l3 : (wr).heap.size ≤ g3 := by rw [hg3]; exact N2.size
       clear hm3 hg3
       have r2 := r2.below b3
       have N3 : Ext wr m3 := N2.trans b3
       refine hK.out _ _ N3 (fun hHeld => ?_)
       clear hK K
       try simp only [Act.put, nrm]
       refine rdy 7 rfl fun K hK => ?_
       go_simp
       refine (rMac_any _ _ kb ((hkT kb info j ++ info) ++ [UInt8.ofNat ((j + 1) % 256)]) _ ((zbo (n := 32) HKB.out (by rw [List.length_map]; exact HKL.out) (by unfold maxLen; omega)).below N3) r2 (by rw [HKL.out]; omega) (by have := HINL.out; have := HTL.out; simp only [List.length_append, List.length_cons, List.length_nil]; omega) (HG.out.ext (HE.out.trans N3))).mono ?_
       rintro e m4 ⟨rfl, b4⟩
       have r2 := r2.below b4
       have z3 := z3.below b4
       have N4 : Ext wr m4 := N3.trans b4
       refine hK.out _ _ N4 (fun hHeld => ?_)
       clear hK K
       try simp only [Act.put, nrm]
       refine rdy 9 rfl fun K hK => ?_
       refine zaw (by rfl) ?_
       refine zau _ _ _ rfl g3 ((hmac kb ((hkT kb info j ++ info) ++ [UInt8.ofNat ((j + 1) % 256)])).map bval) rfl rfl _ _ z3 (by rw [List.length_map, zbr _ _]; rfl) (zaf (zbr _ _)) (zag _) ?_
       intro m5 hb5 hg5
       have N5 : Ext wr m5 := zae N4 hg5 l3
       refine hK.out _ _ N5 (fun hHeld => ?_)
       clear hK K
       try simp only [Act.put, nrm]
       refine dne ?_
       go_wp2_with fail
       go_meet
       exact ⟨_, rfl, l3, hb5, N5⟩
     ·refine zaw (by rfl) ?_
      refine zby (some 11) _ zero32 rfl rfl Tryz.zeroValue23 ?_
      obtain ⟨m2, hm2⟩ : ∃ wNew, wNew = World.alloc m1 (.cells zero32.toArray 23) := ⟨_, rfl⟩
      rw [← hm2]
      have b2 : Ext m1 m2 := by rw [hm2]; exact Ext.alloc _ _
      obtain ⟨g2, hg2⟩ : ∃ gNew, gNew = (m1).heap.size := ⟨_, rfl⟩
      rw [← hg2]
      have z2 : Blk m2 g2 zero32 23 := by rw [hm2, hg2]; exact Blk.made _ _ _
      have l2 : (wr).heap.size ≤ g2 := by rw [hg2]; exact N1.size
      have q2ob : ∀ r, (v7 : Value).ownBlock = some r → r < g2 := fun r h => by rw [hg2]; exact (ob.lt r h).2
      have q2o1 : ∀ r, (.slice (some ⟨g1, 0, none⟩) 1 1 : Value).ownBlock = some r → r < g2 := fun r h => by rw [hg2]; exact (o1.lt r h).2
      clear hm2 hg2
      have r1 := r1.below b2
      have ob := zbz ob b2
      have o1 := zbz o1 b2
      have N2 : Ext wr m2 := N1.trans b2
      refine hK.out _ _ N2 (fun hHeld => ?_)
      clear hK K
      try simp only [Act.put, nrm]
      refine rdy 6 rfl fun K hK => ?_
      refine zaw (by rfl) ?_
      refine zdn _ _ 25 rfl (wr).heap.size 5 i0 (.int .u8 0) 1 Tryz.underlying25 HI0.out HZ0.out HZ1.out HZ2.out rfl (v7) ((hkT kb info j ++ info).length) _ rfl ob rfl r1 (zag _) (by have := HINL.out; have := HTL.out; simp only [List.length_append, List.length_map, List.length_cons, List.length_nil]; unfold maxLen; omega) (by have := HINL.out; have := HTL.out; simp only [List.length_append, List.length_map, List.length_cons, List.length_nil]; omega) N2.size ?_
      intro v3 m3 ho3 hg3
      have N3 : Ext wr m3 := zck N2 ob (Nat.le_refl _) hg3
      have z2 := z2.grown hg3 (fun e => absurd (q2ob _ e) (Nat.lt_irrefl _))
      have r3 : Row1 m3 v3 ((((hkT kb info j ++ info) ++ [UInt8.ofNat ((j + 1) % 256)])).map bval) := by have h := Row1.of_own ho3; simpa using h
      refine hK.out _ _ N3 (fun hHeld => ?_)
      clear hK K
      try simp only [Act.put, nrm]
      refine rdy 7 rfl fun K hK => ?_
      go_simp
      refine (rMac_any _ _ kb ((hkT kb info j ++ info) ++ [UInt8.ofNat ((j + 1) % 256)]) _ ((zbo (n := 32) HKB.out (by rw [List.length_map]; exact HKL.out) (by unfold maxLen; omega)).below N3) r3 (by rw [HKL.out]; omega) (by have := HINL.out; have := HTL.out; simp only [List.length_append, List.length_cons, List.length_nil]; omega) (HG.out.ext (HE.out.trans N3))).mono ?_
      rintro e m4 ⟨rfl, b4⟩
      have r3 := r3.below b4
      have z2 := z2.below b4
      have N4 : Ext wr m4 := N3.trans b4
      refine hK.out _ _ N4 (fun hHeld => ?_)
      clear hK K
      try simp only [Act.put, nrm]
      refine rdy 9 rfl fun K hK => ?_
      refine zaw (by rfl) ?_
      refine zau _ _ _ rfl g2 ((hmac kb ((hkT kb info j ++ info) ++ [UInt8.ofNat ((j + 1) % 256)])).map bval) rfl rfl _ _ z2 (by rw [List.length_map, zbr _ _]; rfl) (zaf (zbr _ _)) (zag _) ?_
      intro m5 hb5 hg5
      have N5 : Ext wr m5 := zae N4 hg5 l2
      refine hK.out _ _ N5 (fun hHeld => ?_)
      clear hK K
      try simp only [Act.put, nrm]
      refine dne ?_
      go_wp2_with fail
      go_meet
      exact ⟨_, rfl, l2, hb5, N5⟩
    ·refine zaw (by rfl) ?_
     refine zby (some 11) _ zero32 rfl rfl Tryz.zeroValue23 ?_
     obtain ⟨m1, hm1⟩ : ∃ wNew, wNew = World.alloc w7.drew (.cells zero32.toArray 23) := ⟨_, rfl⟩
     rw [← hm1]
     have b1 : Ext w7.drew m1 := by rw [hm1]; exact Ext.alloc _ _
     obtain ⟨g1, hg1⟩ : ∃ gNew, gNew = (w7.drew).heap.size := ⟨_, rfl⟩
     rw [← hg1]
     have z1 : Blk m1 g1 zero32 23 := by rw [hm1, hg1]; exact Blk.made _ _ _
     have l1 : (wr).heap.size ≤ g1 := by rw [hg1]; exact B0.size
     have q1ob : ∀ r, (v7 : Value).ownBlock = some r → r < g1 := fun r h => by rw [hg1]; exact (ob.lt r h).2
     clear hm1 hg1
     have ob := zbz ob b1
     have N1 : Ext wr m1 := B0.trans b1
     refine hK.out _ _ N1 (fun hHeld => ?_)
     clear hK K
     try simp only [Act.put, nrm]
     refine rdy 5 rfl fun K hK => ?_
     refine zaw (by rfl) ?_
     refine zcw (some 27) _ _ _ _ rfl rfl #[.int .u8 ((UInt8.ofNat ((j + 1) % 256)).toNat : Int)] i0 (.int .u8 0) Tryz.underlying25 HI0.out HZ0.out (by rw [HZ1.out]; decide) (by rw [HZ1.out]; decide) (by rw [HZ1.out]; kernel_rfl) ?_
     obtain ⟨m2, hm2⟩ : ∃ wNew, wNew = World.alloc m1 (.cells #[.int .u8 ((UInt8.ofNat ((j + 1) % 256)).toNat : Int)] 5) := ⟨_, rfl⟩
     rw [← hm2]
     have b2 : Ext m1 m2 := by rw [hm2]; exact Ext.alloc _ _
     obtain ⟨g2, hg2⟩ : ∃ gNew, gNew = (m1).heap.size := ⟨_, rfl⟩
     rw [← hg2]
     have ob := zbz ob b2
     have z1 := z1.below b2
     have r2 : Row1 m2 (.slice (some ⟨g2, 0, none⟩) 1 1) (([UInt8.ofNat ((j + 1) % 256)] : List UInt8).map bval) := by rw [hm2, hg2]; exact Row1.made _ _ _ _ _ _ rfl rfl rfl (by unfold maxLen; omega)
     have o2 : World.ownsRow m2 (wr).heap.size 5 1 (.slice (some ⟨g2, 0, none⟩) 1 1) 1 (([UInt8.ofNat ((j + 1) % 256)] : List UInt8).map bval) := by rw [hm2, hg2]; exact own_made _ _ _ _ _ _ rfl rfl (by unfold maxLen; omega) N1.size
     clear hm2 hg2
     have N2 : Ext wr m2 := N1.trans b2
     refine hK.out _ _ N2 (fun hHeld => ?_)
     clear hK K
     try simp only [Act.put, nrm]
     refine rdy 6 rfl fun K hK => ?_
     refine zaw (by rfl) ?_
     refine zdn _ _ 25 rfl (wr).heap.size 5 i0 (.int .u8 0) 1 Tryz.underlying25 HI0.out HZ0.out HZ1.out HZ2.out rfl (v7) ((hkT kb info j ++ info).length) _ rfl ob rfl r2 (zag _) (by have := HINL.out; have := HTL.out; simp only [List.length_append, List.length_map, List.length_cons, List.length_nil]; unfold maxLen; omega) (by have := HINL.out; have := HTL.out; simp only [List.length_append, List.length_map, List.length_cons, List.length_nil]; omega) N2.size ?_
     intro v3 m3 ho3 hg3
     have N3 : Ext wr m3 := zck N2 ob (Nat.le_refl _) hg3
     have z1 := z1.grown hg3 (fun e => absurd (q1ob _ e) (Nat.lt_irrefl _))
     have r3 : Row1 m3 v3 ((((hkT kb info j ++ info) ++ [UInt8.ofNat ((j + 1) % 256)])).map bval) := by have h := Row1.of_own ho3; simpa using h
     refine hK.out _ _ N3 (fun hHeld => ?_)
     clear hK K
     try simp only [Act.put, nrm]
     refine rdy 7 rfl fun K hK => ?_
     go_simp
     refine (rMac_any _ _ kb ((hkT kb info j ++ info) ++ [UInt8.ofNat ((j + 1) % 256)]) _ ((zbo (n := 32) HKB.out (by rw [List.length_map]; exact HKL.out) (by unfold maxLen; omega)).below N3) r3 (by rw [HKL.out]; omega) (by have := HINL.out; have := HTL.out; simp only [List.length_append, List.length_cons, List.length_nil]; omega) (HG.out.ext (HE.out.trans N3))).mono ?_
     rintro e m4 ⟨rfl, b4⟩
     have r3 := r3.below b4
     have z1 := z1.below b4
     have N4 : Ext wr m4 := N3.trans b4
     refine hK.out _ _ N4 (fun hHeld => ?_)
     clear hK K
     try simp only [Act.put, nrm]
     refine rdy 9 rfl fun K hK => ?_
     refine zaw (by rfl) ?_
     refine zau _ _ _ rfl g1 ((hmac kb ((hkT kb info j ++ info) ++ [UInt8.ofNat ((j + 1) % 256)])).map bval) rfl rfl _ _ z1 (by rw [List.length_map, zbr _ _]; rfl) (zaf (zbr _ _)) (zag _) ?_
     intro m5 hb5 hg5
     have N5 : Ext wr m5 := zae N4 hg5 l1
     refine hK.out _ _ N5 (fun hHeld => ?_)
     clear hK K
     try simp only [Act.put, nrm]
     refine dne ?_
     go_wp2_with fail
     go_meet
     exact ⟨_, rfl, l1, hb5, N5⟩
   case rest =>
    obtain ⟨g, rfl, hgl, hgb, hgE⟩ := hcut
    have hT1 : hmac kb (hkT kb info j ++ info ++ [UInt8.ofNat ((j + 1) % 256)]) = hkT kb info (j + 1) := rfl
    rw [hT1] at hgb
    have HT1L : Hid ((hkT kb info (j + 1)).length = 32) := jh (hkT_length kb info j)
    have HGR := jh (zbo (n := 32) hgb (by rw [List.length_map]; exact HT1L.out) (by unfold maxLen; omega))
    have HRN : Hid (wc.ownsRow wc.heap.size 5 1 (.slice none 0 0) 0 []) := jh (World.ownsRow_nil _ _ _ _)
    have HEC := jh hgE
    have HOC := jh (zbz HO.out hgE)
    have HS0 : Hid (K + 1 ≤ wr.heap.size) := jh HKB.out.lt
    have HT1M : Hid (((hkT kb info (j + 1)).map bval).length = 32) := jh (by rw [List.length_map]; exact HT1L.out)
    have HALM : Hid (((hkAll kb info j).map bval).length = 32 * j) := jh (by rw [List.length_map, zcr])
    clear hT1 hgb hgl hgE HE7 HOB HAND HCV
    go_upto_region 9 with (at_builtin; refine zas rfl _ _ 25 rfl wc.heap.size 5 i0 (.int .u8 0) 1 Tryz.underlying25 HI0.out HZ0.out HZ1.out HZ2.out rfl _ _ _ rfl HRN.out rfl HGR.out (zag _) (by rw [HT1M.out]; unfold maxLen; omega) (by rw [HT1M.out]; omega) (Nat.le_refl _) ?_; intro v8 w8 ho8 hg8)
    have HE8 : Hid (Ext wc w8) := jh (zck (Ext.refl _) HRN.out (Nat.le_refl _) hg8)
    rw [List.nil_append, HT1M.out] at ho8
    have HO8 := jh ho8
    have HOX := jh (zbz HOC.out HE8.out)
    have HR8 := jh (Row1.of_own ho8)
    have HS8 : Hid (K + 1 ≤ w8.heap.size) := jh (Nat.le_trans HS0.out (HEC.out.trans HE8.out).size)
    have HERW := jh (HEC.out.trans HE8.out)
    have HBLK : Hid (∀ r, (Value.slice ax (32 * j) cx).ownBlock = some r → r < wc.heap.size) := jh (fun r h => (HOC.out.lt r h).2)
    have HNE : Hid (∀ r, (Value.slice ax (32 * j) cx).ownBlock = some r → v8.ownBlock ≠ some r) := jh (fun r h => Row1.own_ne HO8.out (HBLK.out r h))
    clear ho8 hg8 HRN HGR HOC HBLK
    go_wp2_with (at_builtin; refine zas rfl _ _ 25 rfl (K + 1) 5 i0 (.int .u8 0) 1 Tryz.underlying25 HI0.out HZ0.out HZ1.out HZ2.out rfl _ _ _ rfl HOX.out rfl HR8.out (zag _) (by have := HJ.out; rw [HT1M.out]; unfold maxLen; omega) (by have := HJ.out; rw [HT1M.out]; omega) HS8.out ?_; intro v9 w9 ho9 hg9)
    go_roundw
    case rel =>
     have hKne : (Value.slice ax (32 * j) cx).ownBlock ≠ some K := fun e => by have := (HOX.out.lt K e).1; omega
     have hE9 : Ext w w9 := zck (HE.out.trans HERW.out) HOX.out (by rw [← HKW.out]; omega) hg9
     refine ⟨j + 1, by go_num, by have := HN.out; omega, ?_, HR8.out.grown hg9 (fun r h => HNE.out r h), (HKB.out.below HERW.out).grown hg9 hKne, hE9⟩
     have e1 : (hkAll kb info (j + 1)).map bval = (hkAll kb info j).map bval ++ (hkT kb info (j + 1)).map bval := by rw [hkAll, List.map_append]
     rw [e1]
     have h := ho9
     rw [HT1M.out] at h
     exact h
    case measure => simp [intOf]; omega
  ·have hlt' : (n : Int) ≤ 32 * (j : Int) := by omega
   have hlt2 : ¬ ((32 * j : Nat) : Int) < (n : Int) := by omega
   obtain ⟨vx, hvx, hrx⟩ := row_upto Tryz.underlying25 Tryz.sizeOf5 (Row1.of_own HO.out) n (by rw [List.length_map, zcr]; omega)
   have hlx : ((hkAll kb info j).map bval).length = 32 * j := by rw [List.length_map, zcr]
   have htk : ((hkAll kb info j).map bval).take n = (hExpand kb info n).map bval := by rw [← List.map_take, hkAll_take kb info j (by omega)]
   rw [htk] at hvx
   have HVX := jh hvx
   obtain ⟨ay, ny, cy, rfl⟩ := row_form2 hvx
   have HRN : Hid (wr.ownsRow wr.heap.size 5 1 (.slice none 0 0) 0 []) := jh (World.ownsRow_nil _ _ _ _)
   have HXL : Hid (((hExpand kb info n).map bval).length = n) := jh (by rw [List.length_map, zat])
   clear hvx htk hlx HO HT HKB
   go_wp2_with (at_builtin; refine zas rfl _ _ 25 rfl wr.heap.size 5 i0 (.int .u8 0) 1 Tryz.underlying25 HI0.out HZ0.out HZ1.out HZ2.out rfl _ _ _ rfl HRN.out rfl HVX.out (zag _) (by have := HN.out; rw [HXL.out]; unfold maxLen; omega) (by have := HN.out; rw [HXL.out]; omega) (Nat.le_refl _) ?_; intro v9 w9 ho9 hg9)
   go_ret
   refine ⟨_, rfl, ?_, zck HE.out (own_mono HRN.out HE.out.size) (Nat.le_refl _) hg9⟩
   rw [List.nil_append, HXL.out, Nat.zero_add] at ho9
   exact own_mono ho9 HE.out.size
theorem rExtract_any (kv bv : Value) (k m : List UInt8) (w : World) (hk : Row1 w kv (k.map bval)) (hm : Row1 w bv (m.map bval)) (hkl : k.length ≤ 1099511627776) (hml : m.length ≤ 1099511627712) (hG : GlobK w) :
  Calls Tryz.prog 34 #[kv, bv] w fun e w' => e = .returned (.agg ((hmac k m).map bval).toArray) ∧ Below w.heap.size w w' := by
 have HK := jh hk
 have HM := jh hm
 have HG := jh hG
 have HB0 := jh (Blk.made w (ints .u8 (List.replicate 32 0)) 23)
 have HE0 := jh (Ext.alloc w (.cells (ints .u8 (List.replicate 32 0)).toArray 23))
 clear hk hm hG
 go_enter Tryz.func34, Tryz.ntmps34
 go_upto_region 1 with (fail)
 change Code.wp _ _ _ _ (w.alloc (.cells (ints .u8 (List.replicate 32 0)).toArray 23))
 generalize hw1 : w.alloc (.cells (ints .u8 (List.replicate 32 0)).toArray 23) = w1 at *
 clear hw1
 go_wp2_with fail
 refine (rMac_any kv bv k m w1 (HK.out.below HE0.out) (HM.out.below HE0.out) hkl hml (HG.out.ext HE0.out)).mono ?_
 rintro e w3 ⟨rfl, hb⟩
 have HE3 := jh (HE0.out.trans hb)
 have HB3 := jh (HB0.out.same (hb.block _ HB0.out.lt))
 obtain ⟨o2, ho2⟩ : ∃ o2, o2 = hmac k m := ⟨_, rfl⟩
 rw [← ho2]
 have HL : Hid (o2.length = 32) := jh (by rw [ho2]; exact zbr _ _)
 have HO2 := jh ho2
 clear ho2 hb
 have HIo : Hid ((Tryz.prog.info? 23).map (·.size) = some (o2.map bval).length) := jh (zaf HL.out)
 have HLo : Hid ((o2.map bval).length = (ints .u8 (List.replicate 32 0)).length) := jh (by rw [List.length_map, HL.out, zad, List.length_replicate])
 go_wp2_with (refine zac rfl _ _ _ rfl w.heap.size (o2.map bval) rfl rfl _ _ HB3.out HLo.out HIo.out (zag _) ?_; intro w10 hb10 hg10)
 refine bodyPost_ret (zap rfl _ w.heap.size _ _ _ _ rfl hb10 Tryz.underlying23 HIo.out) rfl ?_
 exact ⟨by rw [HO2.out], zae HE3.out hg10 (Nat.le_refl _)⟩
theorem rFilled_any (v : Value) (l : List UInt8) (base : Nat) (w : World) (hv : w.ownsRow base 5 1 v l.length (l.map bval)) (hb : base ≤ w.heap.size) (hl : l.length ≤ 1099511627776) :
  Calls Tryz.prog 56 #[v] w fun e w' => ∃ x, e = .returned x ∧ w'.ownsRow base 5 1 x (l ++ z16 l.length).length ((l ++ z16 l.length).map bval) ∧ Below base w w' := by
 obtain ⟨i0, hi, hz0, hz1, hz2⟩ := info_parts Tryz.info5
 have HI0 := jh hi
 have HZ0 := jh hz0
 have HZ1 := jh hz1
 have HZ2 := jh hz2
 have HO0 : Hid (w.ownsRow base 5 1 v (fA l 0).length ((fA l 0).map bval)) := jh (by simpa [fA] using hv)
 have HBS := jh hb
 have HFF := jh (fA_full l)
 clear hv hb hi hz0 hz1 hz2
 go_enter Tryz.func56, Tryz.ntmps56
 go_wp2_with fail
 go_loopw [0] (fun x wr => ∃ (k : Nat), k ≤ (16 - l.length % 16) % 16 ∧ wr.ownsRow base 5 1 x (fA l k).length ((fA l k).map bval) ∧ Below base w wr) (fun x _ => l.length + 16 - lenOf x)
 case atStart => exact ⟨0, by omega, HO0.out, Below.refl _ _⟩
 case round =>
  clear HO0
  obtain ⟨k, hk, ho, hE⟩ := hrel
  obtain ⟨a2, cap2, rfl, s1, s2, _⟩ := id (Row1.of_own ho)
  have hpl := fA_length l k
  have HO := jh ho
  have HE := jh hE
  rw [List.length_map, hpl] at s1 HO ⊢
  unfold maxLen at s2
  clear ho hE
  by_cases hkn : k = (16 - l.length % 16) % 16
  ·have hd : (((l.length + k : Nat) : Int) % 16 != 0) = false := by simp; omega
   have HK : Hid (fA l k = l ++ z16 l.length) := jh (by rw [hkn]; exact HFF.out)
   have HN : Hid (l.length + k = (l ++ z16 l.length).length) := jh (by rw [← HK.out, hpl])
   clear hpl hkn s1 s2 hk
   generalize l.length + k = n at *
   go_wp2_with fail
   go_ret
   exact ⟨_, rfl, own_eq HO.out HN.out (by rw [HK.out]), HE.out⟩
  ·have hd : (((l.length + k : Nat) : Int) % 16 != 0) = true := by simp; omega
   have HS := jh HE.out.size
   have HK : Hid (k < (16 - l.length % 16) % 16) := jh (by omega)
   generalize hn : l.length + k = n at *
   have HN := jh hn
   have hn9 : n ≤ 1099511627900 := by omega
   clear hn hpl hkn hk
   go_wp2_with (at_builtin; refine zas rfl _ _ 25 rfl base 5 i0 (.int .u8 0) 1 Tryz.underlying25 HI0.out HZ0.out HZ1.out HZ2.out rfl _ n _ rfl (HO.out.alloc _) rfl (Row1.made _ #[.int .u8 0] _ _ 1 ([0].map bval) rfl rfl rfl (by unfold maxLen; omega)) (zag _) (by unfold maxLen; simp; omega) (by simp; omega) (by simp; have := HS.out; have := HBS.out; omega) ?_; intro v3 w3 hown3 hgrow3)
   go_roundw
   case rel =>
    refine ⟨k + 1, HK.out, own_eq hown3 (by rw [fA_length, ← HN.out]; simp; omega) (by rw [fA_succ, List.map_append]), below_own (HE.out.trans (Below.mono (Ext.alloc wr (.cells #[.int .u8 0] 5)) (by have := HS.out; have := HBS.out; omega))) (HO.out.alloc _) hgrow3 (by simp; have := HS.out; have := HBS.out; omega)⟩
   case measure =>
    rw [ownRow_len hown3]
    have := HN.out
    have := HK.out
    simp [lenOf]
    omega
theorem rLength_any (n : Nat) (w : World) (hn : n ≤ 1099511627776) :
  Calls Tryz.prog 57 #[.int .i64 (n : Int)] w fun e w' => ∃ x, e = .returned x ∧ w'.ownsRow w.heap.size 5 1 x 8 ((bytesN 8 n).map bval) ∧ Below w.heap.size w w' := by
 obtain ⟨i0, hi, hz0, hz1, hz2⟩ := info_parts Tryz.info5
 have HI0 := jh hi
 have HZ0 := jh hz0
 have HZ1 := jh hz1
 have HZ2 := jh hz2
 have HO0 : Hid (w.ownsRow w.heap.size 5 1 (.slice none 0 0) 0 ((bytesN 0 n).map bval)) := jh (World.ownsRow_nil _ _ _ _)
 clear hi hz0 hz1 hz2
 go_enter Tryz.func57, Tryz.ntmps57
 go_wp2_with fail
 go_loopw [3, 4] (fun x iv wr => ∃ (k : Nat), k ≤ 8 ∧ iv = .int .i64 (k : Int) ∧ wr.ownsRow w.heap.size 5 1 x k ((bytesN k n).map bval) ∧ Ext w wr) (fun _ iv _ => 8 - (intOf iv).toNat)
 case atStart => exact ⟨0, by omega, rfl, HO0.out, Ext.refl _⟩
 case round =>
  clear HO0
  obtain ⟨k, hk, rfl, ho, hE⟩ := hrel
  have k0 : (0 : Int) ≤ (k : Int) := Int.natCast_nonneg _
  have HO := jh ho
  have HE := jh hE
  have HS := jh hE.size
  by_cases hk8 : k < 8
  ·have k1 : (k : Int) < 8 := by omega
   have HBS := jh (bytesN_succ k n)
   obtain ⟨s, hs⟩ : ∃ s : Nat, s = 8 * k := ⟨_, rfl⟩
   have hs2 : 8 * (k : Int) = (s : Int) := by omega
   have s64 : (s : Int) < 64 := by omega
   have s0 : (0 : Int) ≤ (s : Int) := by omega
   have e1 : (2 : Int) ^ s = ((256 ^ k : Nat) : Int) := by rw [hs, Int.pow_mul]; simp
   have hv2 : (n : Int) / 2 ^ s = ((n / 256 ^ k : Nat) : Int) := by rw [e1, ← Int.natCast_ediv]
   have hvb : n / 256 ^ k ≤ n := Nat.div_le_self _ _
   have hq : ((UInt8.ofNat (n / 256 ^ k % 256)).toNat : Int) = ((n / 256 ^ k : Nat) : Int) % 256 := by rw [UInt8.toNat_ofNat']; omega
   generalize UInt8.ofNat (n / 256 ^ k % 256) = c at *
   generalize n / 256 ^ k = q at *
   have hm := and_i64_255 (q : Int) (by omega) (by omega)
   have HBV : Hid (bval c = .int .u8 ((q : Int) % 256)) := jh (by unfold bval; rw [hq])
   clear ho hE hs hq e1
   go_wp2_with (at_builtin; refine zas rfl _ _ 25 rfl w.heap.size 5 i0 (.int .u8 0) 1 Tryz.underlying25 HI0.out HZ0.out HZ1.out HZ2.out rfl _ k _ rfl (HO.out.alloc _) rfl (Row1.made _ #[.int .u8 ((q : Int) % 256)] _ _ 1 [.int .u8 ((q : Int) % 256)] rfl rfl rfl (by unfold maxLen; omega)) (by intro u hu; simp at hu; subst hu; rfl) (by unfold maxLen; simp; omega) (by simp; omega) (by simp; have := HS.out; omega) ?_; intro v3 w3 hown3 hgrow3)
   go_roundw
   case rel =>
    refine ⟨k + 1, by omega, by go_num, own_eq hown3 (by simp) (by rw [HBS.out, List.map_append, List.map_cons, List.map_nil, HBV.out]), zck (HE.out.trans (Ext.alloc wr _)) (HO.out.alloc _) (Nat.le_refl _) hgrow3⟩
   case measure => simp [intOf]; omega
  ·have hk8' : k = 8 := by omega
   subst hk8'
   clear ho hE
   go_wp2_with fail
   go_ret
   exact ⟨_, rfl, HO.out, HE.out⟩
theorem rol_any (x : W32) (n : Nat) (hn : n ≤ 32) (w : World) : Calls Tryz.prog 112 #[.int .u32 (wi x), .int .u64 (n : Int)] w fun e w' => e = .returned (.int .u32 (wi (rotl x n))) ∧ w = w' := by
 have HX := jh (wi_rotl x n)
 have hr := wi_range x
 generalize wi x = z at *
 have n0 : (n : Int) ≤ 32 := by omega
 go_enter Tryz.func112, Tryz.ntmps112
 go_wp2_with fail
 go_ret
 exact ⟨congrArg (fun v => Ending.returned (.int .u32 v)) (by rw [← HX.out, IntKind.wrap_u32]), rfl⟩
theorem quarter_any (X : Nat) (s : List W32) (a b c d : Nat) (w : World) (hX : Blk w X (ints .u32 (ws s)) 97) (hs : s.length = 16) (ha : a < 16) (hb : b < 16) (hc : c < 16) (hd : d < 16) (hab : a ≠ b) (hac : a ≠ c) (had : a ≠ d) (hbc : b ≠ c) (hbd : b ≠ d) (hcd : c ≠ d) :
  Calls Tryz.prog 88 #[.pointer (some ⟨X, 0, none⟩), .int .i64 (a : Int), .int .i64 (b : Int), .int .i64 (c : Int), .int .i64 (d : Int)] w fun e w' => e = .returned (.tuple #[]) ∧ Blk w' X (ints .u32 (ws (qrt s a b c d))) 97 ∧ w.grownBy w' (some X) := by
 have a0 : (0 : Int) ≤ (a : Int) := Int.natCast_nonneg _
 have a1 : (a : Int) < 16 := by omega
 have b0 : (0 : Int) ≤ (b : Int) := Int.natCast_nonneg _
 have b1 : (b : Int) < 16 := by omega
 have c0 : (0 : Int) ≤ (c : Int) := Int.natCast_nonneg _
 have c1 : (c : Int) < 16 := by omega
 have d0 : (0 : Int) ≤ (d : Int) := Int.natCast_nonneg _
 have d1 : (d : Int) < 16 := by omega
 obtain ⟨va, hva⟩ : ∃ v, v = s.getD a 0#32 := ⟨_, rfl⟩
 obtain ⟨vb, hvb⟩ : ∃ v, v = s.getD b 0#32 := ⟨_, rfl⟩
 obtain ⟨vc, hvc⟩ : ∃ v, v = s.getD c 0#32 := ⟨_, rfl⟩
 obtain ⟨vd, hvd⟩ : ∃ v, v = s.getD d 0#32 := ⟨_, rfl⟩
 go_enter Tryz.func88, Tryz.ntmps88
 have hQ0 : QI s a b c d s va vb vc vd := ⟨hs, hva.symm, hvb.symm, hvc.symm, hvd.symm, fun i _ _ _ _ => rfl⟩
 have HVA := jh hva
 have HVB := jh hvb
 have HVC := jh hvc
 have HVD := jh hvd
 clear hva hvb hvc hvd
 obtain ⟨v1, hv1⟩ : ∃ v, v = va + vb := ⟨_, rfl⟩
 have s0 : IntKind.u32.wrap (wi va + wi vb) = wi v1 := by rw [hv1]; exact zbx _ _
 have p0 := zdt hX hQ0.ea hQ0.len ha
 have r0 := zdt hX hQ0.eb hQ0.len hb
 have f0 := hX.free a
 have HH0 := jh (qi_set hX a v1)
 have HQ0 := jh (hQ0.set_a ha hab hac had hbc hbd hcd v1)
 have HG0 := jh (zcs (zbh (zdc w (some X)) a (.int .u32 (wi v1))) 1)
 have Hv1 := jh hv1
 clear hv1
 go_wp2_with fail
 go_region
 go_upto_region 1 with (fail)
 change Code.wp _ _ _ _ (w.setCell ⟨X, a, none⟩ (.int .u32 (wi v1))).drew
 have hB1 : Blk (w.setCell ⟨X, a, none⟩ (.int .u32 (wi v1))).drew X _ 97 := HH0.out
 have HG0 : Hid (w.grownBy (w.setCell ⟨X, a, none⟩ (.int .u32 (wi v1))).drew (some X)) := jh HG0.out
 have hQ1 := HQ0.out
 clear HH0 HQ0 p0 r0 f0 s0 hX hQ0
 generalize (w.setCell ⟨X, a, none⟩ (.int .u32 (wi v1))).drew = w1 at *
 obtain ⟨x1, hx1⟩ : ∃ v, v = vd ^^^ v1 := ⟨_, rfl⟩
 have s1 : bits .xor .u32 (wi vd) (wi v1) = wi x1 := by rw [hx1]; exact zcm _ _
 obtain ⟨v2, hv2⟩ : ∃ v, v = rotl x1 16 := ⟨_, rfl⟩
 have HC1 := fun w => jh (rol_any x1 16 (by omega) w)
 rw [← hv2] at HC1
 have p1 := zdt hB1 hQ1.ed hQ1.len hd
 have r1 := zdt hB1 hQ1.ea hQ1.len ha
 have f1 := hB1.free d
 have HH1 := jh (qi_set hB1 d v2)
 have HQ1 := jh (hQ1.set_d hd hab hac had hbc hbd hcd v2)
 have HG1 := jh (zcs (zbh (HG0.out) d (.int .u32 (wi v2))) 1)
 have Hv2 := jh hv2
 clear hv2
 have Hx1 := jh hx1
 clear hx1
 go_wp2_with fail
 refine wp_region_still_tail 16 (by kernel_rfl) (by kernel_rfl) ?_
 simp only [List.take_succ_cons, List.take_zero, List.drop_succ_cons, List.drop_zero]
 repeat still_step
 still_call ((HC1 _).out.mono fun _ _ h => ⟨h.1, h.2.symm⟩)
 repeat still_step
 refine wpStill_nil ?_
 change wpList _ _ _ _ _ w1.drew
 go_upto_region 2 with (fail)
 change Code.wp _ _ _ _ (w1.drew.setCell ⟨X, d, none⟩ (.int .u32 (wi v2)))
 have hB2 : Blk (w1.drew.setCell ⟨X, d, none⟩ (.int .u32 (wi v2))) X _ 97 := HH1.out
 have HG1 : Hid (w.grownBy (w1.drew.setCell ⟨X, d, none⟩ (.int .u32 (wi v2))) (some X)) := jh HG1.out
 have hQ2 := HQ1.out
 clear HH1 HQ1 p1 r1 f1 s1 hB1 hQ1
 generalize (w1.drew.setCell ⟨X, d, none⟩ (.int .u32 (wi v2))) = w2 at *
 obtain ⟨v3, hv3⟩ : ∃ v, v = vc + v2 := ⟨_, rfl⟩
 have s2 : IntKind.u32.wrap (wi vc + wi v2) = wi v3 := by rw [hv3]; exact zbx _ _
 have p2 := zdt hB2 hQ2.ec hQ2.len hc
 have r2 := zdt hB2 hQ2.ed hQ2.len hd
 have f2 := hB2.free c
 have HH2 := jh (qi_set hB2 c v3)
 have HQ2 := jh (hQ2.set_c hc hab hac had hbc hbd hcd v3)
 have HG2 := jh (zcs (zbh (HG1.out) c (.int .u32 (wi v3))) 1)
 have Hv3 := jh hv3
 clear hv3
 go_wp2_with fail
 go_region
 go_upto_region 3 with (fail)
 change Code.wp _ _ _ _ (w2.setCell ⟨X, c, none⟩ (.int .u32 (wi v3))).drew
 have hB3 : Blk (w2.setCell ⟨X, c, none⟩ (.int .u32 (wi v3))).drew X _ 97 := HH2.out
 have HG2 : Hid (w.grownBy (w2.setCell ⟨X, c, none⟩ (.int .u32 (wi v3))).drew (some X)) := jh HG2.out
 have hQ3 := HQ2.out
 clear HH2 HQ2 p2 r2 f2 s2 hB2 hQ2
 generalize (w2.setCell ⟨X, c, none⟩ (.int .u32 (wi v3))).drew = w3 at *
 obtain ⟨x3, hx3⟩ : ∃ v, v = vb ^^^ v3 := ⟨_, rfl⟩
 have s3 : bits .xor .u32 (wi vb) (wi v3) = wi x3 := by rw [hx3]; exact zcm _ _
 obtain ⟨v4, hv4⟩ : ∃ v, v = rotl x3 12 := ⟨_, rfl⟩
 have HC3 := fun w => jh (rol_any x3 12 (by omega) w)
 rw [← hv4] at HC3
 have p3 := zdt hB3 hQ3.eb hQ3.len hb
 have r3 := zdt hB3 hQ3.ec hQ3.len hc
 have f3 := hB3.free b
 have HH3 := jh (qi_set hB3 b v4)
 have HQ3 := jh (hQ3.set_b hb hab hac had hbc hbd hcd v4)
 have HG3 := jh (zcs (zbh (HG2.out) b (.int .u32 (wi v4))) 1)
 have Hv4 := jh hv4
 clear hv4
 have Hx3 := jh hx3
 clear hx3
 go_wp2_with fail
 refine wp_region_still_tail 16 (by kernel_rfl) (by kernel_rfl) ?_
 simp only [List.take_succ_cons, List.take_zero, List.drop_succ_cons, List.drop_zero]
 repeat still_step
 still_call ((HC3 _).out.mono fun _ _ h => ⟨h.1, h.2.symm⟩)
 repeat still_step
 refine wpStill_nil ?_
 change wpList _ _ _ _ _ w3.drew
 go_upto_region 4 with (fail)
 change Code.wp _ _ _ _ (w3.drew.setCell ⟨X, b, none⟩ (.int .u32 (wi v4)))
 have hB4 : Blk (w3.drew.setCell ⟨X, b, none⟩ (.int .u32 (wi v4))) X _ 97 := HH3.out
 have HG3 : Hid (w.grownBy (w3.drew.setCell ⟨X, b, none⟩ (.int .u32 (wi v4))) (some X)) := jh HG3.out
 have hQ4 := HQ3.out
 clear HH3 HQ3 p3 r3 f3 s3 hB3 hQ3
 generalize (w3.drew.setCell ⟨X, b, none⟩ (.int .u32 (wi v4))) = w4 at *
 obtain ⟨v5, hv5⟩ : ∃ v, v = v1 + v4 := ⟨_, rfl⟩
 have s4 : IntKind.u32.wrap (wi v1 + wi v4) = wi v5 := by rw [hv5]; exact zbx _ _
 have p4 := zdt hB4 hQ4.ea hQ4.len ha
 have r4 := zdt hB4 hQ4.eb hQ4.len hb
 have f4 := hB4.free a
 have HH4 := jh (qi_set hB4 a v5)
 have HQ4 := jh (hQ4.set_a ha hab hac had hbc hbd hcd v5)
 have HG4 := jh (zcs (zbh (HG3.out) a (.int .u32 (wi v5))) 1)
 have Hv5 := jh hv5
 clear hv5
 go_wp2_with fail
 go_region
 go_upto_region 5 with (fail)
 change Code.wp _ _ _ _ (w4.setCell ⟨X, a, none⟩ (.int .u32 (wi v5))).drew
 have hB5 : Blk (w4.setCell ⟨X, a, none⟩ (.int .u32 (wi v5))).drew X _ 97 := HH4.out
 have HG4 : Hid (w.grownBy (w4.setCell ⟨X, a, none⟩ (.int .u32 (wi v5))).drew (some X)) := jh HG4.out
 have hQ5 := HQ4.out
 clear HH4 HQ4 p4 r4 f4 s4 hB4 hQ4
 generalize (w4.setCell ⟨X, a, none⟩ (.int .u32 (wi v5))).drew = w5 at *
 obtain ⟨x5, hx5⟩ : ∃ v, v = v2 ^^^ v5 := ⟨_, rfl⟩
 have s5 : bits .xor .u32 (wi v2) (wi v5) = wi x5 := by rw [hx5]; exact zcm _ _
 obtain ⟨v6, hv6⟩ : ∃ v, v = rotl x5 8 := ⟨_, rfl⟩
 have HC5 := fun w => jh (rol_any x5 8 (by omega) w)
 rw [← hv6] at HC5
 have p5 := zdt hB5 hQ5.ed hQ5.len hd
 have r5 := zdt hB5 hQ5.ea hQ5.len ha
 have f5 := hB5.free d
 have HH5 := jh (qi_set hB5 d v6)
 have HQ5 := jh (hQ5.set_d hd hab hac had hbc hbd hcd v6)
 have HG5 := jh (zcs (zbh (HG4.out) d (.int .u32 (wi v6))) 1)
 have Hv6 := jh hv6
 clear hv6
 have Hx5 := jh hx5
 clear hx5
 go_wp2_with fail
 refine wp_region_still_tail 16 (by kernel_rfl) (by kernel_rfl) ?_
 simp only [List.take_succ_cons, List.take_zero, List.drop_succ_cons, List.drop_zero]
 repeat still_step
 still_call ((HC5 _).out.mono fun _ _ h => ⟨h.1, h.2.symm⟩)
 repeat still_step
 refine wpStill_nil ?_
 change wpList _ _ _ _ _ w5.drew
 go_upto_region 6 with (fail)
 change Code.wp _ _ _ _ (w5.drew.setCell ⟨X, d, none⟩ (.int .u32 (wi v6)))
 have hB6 : Blk (w5.drew.setCell ⟨X, d, none⟩ (.int .u32 (wi v6))) X _ 97 := HH5.out
 have HG5 : Hid (w.grownBy (w5.drew.setCell ⟨X, d, none⟩ (.int .u32 (wi v6))) (some X)) := jh HG5.out
 have hQ6 := HQ5.out
 clear HH5 HQ5 p5 r5 f5 s5 hB5 hQ5
 generalize (w5.drew.setCell ⟨X, d, none⟩ (.int .u32 (wi v6))) = w6 at *
 obtain ⟨v7, hv7⟩ : ∃ v, v = v3 + v6 := ⟨_, rfl⟩
 have s6 : IntKind.u32.wrap (wi v3 + wi v6) = wi v7 := by rw [hv7]; exact zbx _ _
 have p6 := zdt hB6 hQ6.ec hQ6.len hc
 have r6 := zdt hB6 hQ6.ed hQ6.len hd
 have f6 := hB6.free c
 have HH6 := jh (qi_set hB6 c v7)
 have HQ6 := jh (hQ6.set_c hc hab hac had hbc hbd hcd v7)
 have HG6 := jh (zcs (zbh (HG5.out) c (.int .u32 (wi v7))) 1)
 have Hv7 := jh hv7
 clear hv7
 go_wp2_with fail
 go_region
 go_upto_region 7 with (fail)
 change Code.wp _ _ _ _ (w6.setCell ⟨X, c, none⟩ (.int .u32 (wi v7))).drew
 have hB7 : Blk (w6.setCell ⟨X, c, none⟩ (.int .u32 (wi v7))).drew X _ 97 := HH6.out
 have HG6 : Hid (w.grownBy (w6.setCell ⟨X, c, none⟩ (.int .u32 (wi v7))).drew (some X)) := jh HG6.out
 have hQ7 := HQ6.out
 clear HH6 HQ6 p6 r6 f6 s6 hB6 hQ6
 generalize (w6.setCell ⟨X, c, none⟩ (.int .u32 (wi v7))).drew = w7 at *
 obtain ⟨x7, hx7⟩ : ∃ v, v = v4 ^^^ v7 := ⟨_, rfl⟩
 have s7 : bits .xor .u32 (wi v4) (wi v7) = wi x7 := by rw [hx7]; exact zcm _ _
 obtain ⟨v8, hv8⟩ : ∃ v, v = rotl x7 7 := ⟨_, rfl⟩
 have HC7 := fun w => jh (rol_any x7 7 (by omega) w)
 rw [← hv8] at HC7
 have p7 := zdt hB7 hQ7.eb hQ7.len hb
 have r7 := zdt hB7 hQ7.ec hQ7.len hc
 have f7 := hB7.free b
 have HH7 := jh (qi_set hB7 b v8)
 have HQ7 := jh (hQ7.set_b hb hab hac had hbc hbd hcd v8)
 have HG7 := jh (zcs (zbh (HG6.out) b (.int .u32 (wi v8))) 1)
 have Hv8 := jh hv8
 clear hv8
 have Hx7 := jh hx7
 clear hx7
 go_wp2_with fail
 refine wp_region_still_tail 16 (by kernel_rfl) (by kernel_rfl) ?_
 simp only [List.take_succ_cons, List.take_zero, List.drop_succ_cons, List.drop_zero]
 repeat still_step
 still_call ((HC7 _).out.mono fun _ _ h => ⟨h.1, h.2.symm⟩)
 repeat still_step
 refine wpStill_nil ?_
 change wpList _ _ _ _ _ w7.drew
 go_wp2_with fail
 have hq : QI s a b c d (qrt s a b c d) v5 v8 v7 v6 := by
  have q0 : QI s a b c d s va vb vc vd := ⟨hs, HVA.out.symm, HVB.out.symm, HVC.out.symm, HVD.out.symm, fun i _ _ _ _ => rfl⟩
  have e1 := Hv1.out
  have e2 := Hv2.out
  have e3 := Hv3.out
  have e4 := Hv4.out
  have e5 := Hv5.out
  have e6 := Hv6.out
  have e7 := Hv7.out
  have e8 := Hv8.out
  have y1 := Hx1.out
  have y3 := Hx3.out
  have y5 := Hx5.out
  have y7 := Hx7.out
  have hqq : qr4 va vb vc vd = (v5, v8, v7, v6) := by
   rw [e8, y7, e7, e6, y5, e5, e4, y3, e3, e2, y1, e1]
   rfl
  have h := ((((q0.set_a ha hab hac had hbc hbd hcd v5).set_b hb hab hac had hbc hbd hcd v8).set_c hc hab hac had hbc hbd hcd v7).set_d hd hab hac had hbc hbd hcd v6)
  unfold qrt
  rw [← HVA.out, ← HVB.out, ← HVC.out, ← HVD.out, hqq]
  exact h
 have hL := HQ7.out.eq hq
 have hB := HH7.out
 rw [hL] at hB
 refine bodyPost_end (results_none rfl _ _ _) rfl ?_
 exact ⟨rfl, hB.drewN 1, HG7.out⟩
/-- A word is read off four bytes of a block. -/
theorem little_any (c off len cap : Nat) (cs : List UInt8) (t : TypeId) (w : World) (hb : Blk w c (cs.map bval) t) (hl : off + 4 ≤ cs.length) (h4 : 4 ≤ len) :
  Calls Tryz.prog 87 #[.slice (some ⟨c, off, none⟩) len cap] w fun e w' => e = .returned (.int .u32 (wi (leW cs off))) ∧ w' = w.drew := by
 have cc : ∀ j, j ≤ 3 → w.cell? ⟨c, off + j, none⟩ = some (.int .u8 ((cs.getD (off + j) 0).toNat : Int)) := fun j hj => by
  rw [hb.cell, zbb (by omega)]
 have c0 := cc 0 (by omega)
 have c1 := cc 1 (by omega)
 have c2 := cc 2 (by omega)
 have c3 := cc 3 (by omega)
 simp only [Nat.add_zero] at c0
 have d0 := UInt8.toNat_lt (cs.getD off 0)
 have d1 := UInt8.toNat_lt (cs.getD (off + 1) 0)
 have d2 := UInt8.toNat_lt (cs.getD (off + 2) 0)
 have d3 := UInt8.toNat_lt (cs.getD (off + 3) 0)
 have HBE : Hid (leW cs off = BitVec.ofNat 32 ((cs.getD off 0).toNat + 256 * (cs.getD (off + 1) 0).toNat + 65536 * (cs.getD (off + 2) 0).toNat + 16777216 * (cs.getD (off + 3) 0).toNat)) := jh rfl
 generalize (cs.getD off 0).toNat = x0 at *
 generalize (cs.getD (off + 1) 0).toNat = x1 at *
 generalize (cs.getD (off + 2) 0).toNat = x2 at *
 generalize (cs.getD (off + 3) 0).toNat = x3 at *
 clear cc hb hl
 have i0 : (0 : Int) < (len : Int) ∧ (1 : Int) < (len : Int) ∧ (2 : Int) < (len : Int) ∧ (3 : Int) < (len : Int) := by omega
 obtain ⟨i0, i1, i2, i3⟩ := i0
 go_enter Tryz.func87, Tryz.ntmps87
 go_wp2_with fail
 go_region
 go_wp2_with fail
 go_ret
 exact ⟨by rw [HBE.out, ← or4L x0 x1 x2 x3 d0 d1 d2 d3]; rfl, rfl⟩
theorem zeh (X : Nat) (s t : List W32) (a b c d : Nat) (ia ib ic id : Int) (w : World) (hX : Blk w X (ints .u32 (ws s)) 97) (hs : s.length = 16) (ha : ia = a) (hb : ib = b) (hc : ic = c) (hd : id = d) (ht : qrt s a b c d = t)
  (h : a < 16 ∧ b < 16 ∧ c < 16 ∧ d < 16 ∧ a ≠ b ∧ a ≠ c ∧ a ≠ d ∧ b ≠ c ∧ b ≠ d ∧ c ≠ d) :
  Calls Tryz.prog 88 #[.pointer (some ⟨X, 0, none⟩), .int .i64 ia, .int .i64 ib, .int .i64 ic, .int .i64 id] w fun e w' => e = .returned (.tuple #[]) ∧ Blk w' X (ints .u32 (ws t)) 97 ∧ w.grownBy w' (some X) := by
 subst ha hb hc hd ht
 obtain ⟨h1, h2, h3, h4, h5, h6, h7, h8, h9, h10⟩ := h
 exact quarter_any X s a b c d w hX hs h1 h2 h3 h4 h5 h6 h7 h8 h9 h10
theorem rBlock_any (kb nb : List UInt8) (c : Int) (w : World) (hk : kb.length = 32) (hn : nb.length = 12) (hc1 : -9223372036854775808 ≤ c) (hc2 : c ≤ 9223372036854775807) :
  Calls Tryz.prog 55 #[.agg (kb.map bval).toArray, .int .i64 c, .agg (nb.map bval).toArray] w fun e w' => e = .returned (.agg ((chaBlock kb (BitVec.ofInt 32 c) nb).map bval).toArray) ∧ Below w.heap.size w w' := by
 have HKL := jh hk
 have HNL := jh hn
 have HB := jh (boxes4 w (kb.map bval) (nb.map bval) (ints .u8 (List.replicate 64 0)) (ints .u32 (ws (List.replicate 16 0#32))) 23 44 68 97)
 have HA0 := jh (and_mask32 c hc1 hc2)
 have HC0 := jh (ctr_word c)
 obtain ⟨ctr, hctr⟩ : ∃ v, v = BitVec.ofInt 32 c := ⟨_, rfl⟩
 have HCTR := jh hctr
 rw [← hctr] at HC0
 clear hk hn hc1 hc2 hctr
 go_enter Tryz.func55, Tryz.ntmps55
 go_upto_region 2 with (fail)
 obtain ⟨H1, H2, H3, H4, HE⟩ := HB.out
 change Code.wp _ _ _ _ ((((w.alloc (.cells (kb.map bval).toArray 23)).alloc (.cells (nb.map bval).toArray 44)).alloc (.cells (ints .u8 (List.replicate 64 0)).toArray 68)).alloc (.cells (ints .u32 (ws (List.replicate 16 0#32))).toArray 97))
 generalize (((w.alloc (.cells (kb.map bval).toArray 23)).alloc (.cells (nb.map bval).toArray 44)).alloc (.cells (ints .u8 (List.replicate 64 0)).toArray 68)).alloc (.cells (ints .u32 (ws (List.replicate 16 0#32))).toArray 97) = wa at *
 obtain ⟨B, hB⟩ : ∃ B, B = w.heap.size := ⟨_, rfl⟩
 have HBW : Hid (w.heap.size ≤ B) := jh (by omega)
 rw [← hB] at H1 H2 H3 H4 ⊢
 have H1 := jh H1
 have H2 := jh H2
 have H3 := jh H3
 have H4 := jh H4
 have HE : Hid (Ext w wa) := jh HE
 clear hB HB
 obtain ⟨S, hS⟩ : ∃ S, S = B + 1 + 1 + 1 := ⟨_, rfl⟩
 have HSB : Hid (B + 3 ≤ S ∧ S ≤ B + 3) := jh (by omega)
 rw [← hS] at H4 ⊢
 clear hS
 obtain ⟨R, hR⟩ : ∃ R, R = B + 1 + 1 := ⟨_, rfl⟩
 have HRB : Hid (B + 2 ≤ R ∧ R ≤ B + 2) := jh (by omega)
 rw [← hR] at H3 ⊢
 clear hR
 have f0 := H4.out.free 0
 obtain ⟨u0, c0⟩ : ∃ u, wa.cell? ⟨S, 0, none⟩ = some u := ⟨_, zbe H4.out (by simp)⟩
 have HX0 := jh (zea H4.out 0 1634760805 0x61707865#32 rfl)
 have HEn := jh (far_ext (S := S) (i := 0) (v := .int .u32 1634760805) HE.out (by have := HBW.out; have := HSB.out; omega))
 have H1n := jh (H1.out.far (a := ⟨S, 0, none⟩) (by have := HSB.out; simp; omega) (.int .u32 1634760805))
 have H2n := jh (H2.out.far (a := ⟨S, 0, none⟩) (by have := HSB.out; simp; omega) (.int .u32 1634760805))
 have H3n := jh (H3.out.far (a := ⟨S, 0, none⟩) (by have := HSB.out; have := HRB.out; simp; omega) (.int .u32 1634760805))
 go_upto_region 3 with (fail)
 clear H1 H2 H3 H4 HE f0 c0
 generalize wa.setCell ⟨S, 0, none⟩ (.int .u32 1634760805) = wb0 at *
 have H1 := H1n
 have H2 := H2n
 have H3 := H3n
 have H4 := HX0
 have HE := HEn
 clear H1n H2n H3n HX0 HEn
 have f1 := H4.out.free 1
 obtain ⟨u1, c1⟩ : ∃ u, wb0.cell? ⟨S, 1, none⟩ = some u := ⟨_, zbe H4.out (by simp)⟩
 have HX1 := jh (zea H4.out 1 857760878 0x3320646e#32 rfl)
 have HEn := jh (far_ext (S := S) (i := 1) (v := .int .u32 857760878) HE.out (by have := HBW.out; have := HSB.out; omega))
 have H1n := jh (H1.out.far (a := ⟨S, 1, none⟩) (by have := HSB.out; simp; omega) (.int .u32 857760878))
 have H2n := jh (H2.out.far (a := ⟨S, 1, none⟩) (by have := HSB.out; simp; omega) (.int .u32 857760878))
 have H3n := jh (H3.out.far (a := ⟨S, 1, none⟩) (by have := HSB.out; have := HRB.out; simp; omega) (.int .u32 857760878))
 go_upto_region 4 with (fail)
 clear H1 H2 H3 H4 HE f1 c1
 generalize wb0.setCell ⟨S, 1, none⟩ (.int .u32 857760878) = wb1 at *
 have H1 := H1n
 have H2 := H2n
 have H3 := H3n
 have H4 := HX1
 have HE := HEn
 clear H1n H2n H3n HX1 HEn
 have f2 := H4.out.free 2
 obtain ⟨u2, c2⟩ : ∃ u, wb1.cell? ⟨S, 2, none⟩ = some u := ⟨_, zbe H4.out (by simp)⟩
 have HX2 := jh (zea H4.out 2 2036477234 0x79622d32#32 rfl)
 have HEn := jh (far_ext (S := S) (i := 2) (v := .int .u32 2036477234) HE.out (by have := HBW.out; have := HSB.out; omega))
 have H1n := jh (H1.out.far (a := ⟨S, 2, none⟩) (by have := HSB.out; simp; omega) (.int .u32 2036477234))
 have H2n := jh (H2.out.far (a := ⟨S, 2, none⟩) (by have := HSB.out; simp; omega) (.int .u32 2036477234))
 have H3n := jh (H3.out.far (a := ⟨S, 2, none⟩) (by have := HSB.out; have := HRB.out; simp; omega) (.int .u32 2036477234))
 go_upto_region 5 with (fail)
 clear H1 H2 H3 H4 HE f2 c2
 generalize wb1.setCell ⟨S, 2, none⟩ (.int .u32 2036477234) = wb2 at *
 have H1 := H1n
 have H2 := H2n
 have H3 := H3n
 have H4 := HX2
 have HE := HEn
 clear H1n H2n H3n HX2 HEn
 have f3 := H4.out.free 3
 obtain ⟨u3, c3⟩ : ∃ u, wb2.cell? ⟨S, 3, none⟩ = some u := ⟨_, zbe H4.out (by simp)⟩
 have HX3 := jh (zea H4.out 3 1797285236 0x6b206574#32 rfl)
 have HEn := jh (far_ext (S := S) (i := 3) (v := .int .u32 1797285236) HE.out (by have := HBW.out; have := HSB.out; omega))
 have H1n := jh (H1.out.far (a := ⟨S, 3, none⟩) (by have := HSB.out; simp; omega) (.int .u32 1797285236))
 have H2n := jh (H2.out.far (a := ⟨S, 3, none⟩) (by have := HSB.out; simp; omega) (.int .u32 1797285236))
 have H3n := jh (H3.out.far (a := ⟨S, 3, none⟩) (by have := HSB.out; have := HRB.out; simp; omega) (.int .u32 1797285236))
 go_upto_region 6 with (fail)
 clear H1 H2 H3 H4 HE f3 c3
 generalize wb2.setCell ⟨S, 3, none⟩ (.int .u32 1797285236) = wb3 at *
 have H1 := H1n
 have H2 := H2n
 have H3 := H3n
 have H4 := HX3
 have HE := HEn
 clear H1n H2n H3n HX3 HEn
 have H4 : Hid (Blk wb3 S (ints .u32 (ws (chaK kb 0))) 97) := jh H4.out
 go_wp2_with fail
 go_loopw [8] (fun iv wr => ∃ (k : Nat), k ≤ 8 ∧ iv = .int .i64 (k : Int) ∧ Blk wr B (kb.map bval) 23 ∧ Blk wr (B + 1) (nb.map bval) 44 ∧ Blk wr R (ints .u8 (List.replicate 64 0)) 68 ∧ Blk wr S (ints .u32 (ws (chaK kb k))) 97 ∧ Ext w wr) (fun iv _ => 8 - (intOf iv).toNat)
 case atStart => exact ⟨0, by omega, rfl, H1.out, H2.out, H3.out, H4.out, HE.out⟩
 case round =>
  clear H1 H2 H3 H4 HE
  obtain ⟨k, hk, rfl, hb1, hb2, hb3, hb4, hbel⟩ := hrel
  have k0 : (0 : Int) ≤ (k : Int) := Int.natCast_nonneg _
  by_cases hlk : k < 8
  ·have k1 : (k : Int) < 8 := by omega
   have hs := cut_arrL Tryz.underlying23 Tryz.sizeOf5 wr (B) (4 * k) (by omega)
   have e4 : ((4 * k : Nat) : Int) = 4 * (k : Int) := by omega
   rw [e4] at hs
   have HW := jh (little_any (B) (4 * k) (32 - 4 * k) (32 - 4 * k) kb 23 wr hb1 (by have := HKL.out; omega) (by omega))
   have H1 := jh hb1
   have H2 := jh hb2
   have H3 := jh hb3
   have H4 := jh hb4
   have HE := jh hbel
   clear hb1 hb2 hb3 hb4 hbel e4
   go_wp2_with fail
   refine HW.out.mono ?_
   rintro e w5 ⟨rfl, rfl⟩
   have H1 : Hid (Blk wr.drew B (kb.map bval) 23) := jh H1.out
   have H2 : Hid (Blk wr.drew (B + 1) (nb.map bval) 44) := jh H2.out
   have H3 : Hid (Blk wr.drew R (ints .u8 (List.replicate 64 0)) 68) := jh H3.out
   have H4 : Hid (Blk wr.drew S (ints .u32 (ws (chaK kb k))) 97) := jh H4.out
   have HE : Hid (Ext w wr.drew) := jh (HE.out.trans (Ext.drew _))
   clear HW hs
   generalize wr.drew = w5 at *
   have f0 := H4.out.free (4 + k)
   obtain ⟨u, c0⟩ : ∃ u, w5.cell? ⟨S, 4 + k, none⟩ = some u := ⟨_, zbe H4.out (by rw [zdm]; omega)⟩
   have i0 : (0 : Int) ≤ 4 + (k : Int) := by omega
   have i1 : (4 : Int) + (k : Int) < 16 := by omega
   have i2 : ((4 : Int) + (k : Int)).toNat = 4 + k := by omega
   have HX : Hid (Blk (w5.setCell ⟨S, 4 + k, none⟩ (.int .u32 (wi (leW kb (4 * k))))) S (ints .u32 (ws (chaK kb (k + 1)))) 97) := jh (zea H4.out (4 + k) _ (leW kb (4 * k)) rfl)
   generalize leW kb (4 * k) = lw at *
   go_wp2_with fail
   go_roundw
   case rel => exact ⟨k + 1, by omega, by go_num, H1.out.far (by have := HSB.out; simp; omega) _, H2.out.far (by have := HSB.out; simp; omega) _, H3.out.far (by have := HSB.out; have := HRB.out; simp; omega) _, HX.out, far_ext HE.out (by have := HBW.out; have := HSB.out; omega)⟩
   case measure => simp [intOf]; omega
  ·have hk8 : k = 8 := by omega
   subst hk8
   rw [show ((8 : Nat) : Int) = 8 from rfl]
   have H1 := jh hb1
   have H2 := jh hb2
   have H3 := jh hb3
   have H4 := jh hb4
   have HE := jh hbel
   clear hb1 hb2 hb3 hb4 hbel k0 hk
   have f0 := H4.out.free 12
   obtain ⟨u, c0⟩ : ∃ u, wr.cell? ⟨S, 12, none⟩ = some u := ⟨_, zbe H4.out (by rw [zdm]; omega)⟩
   have HX : Hid (Blk (wr.setCell ⟨S, 12, none⟩ (.int .u32 (wi ctr))) S (ints .u32 (ws (chaN kb ctr nb 0))) 97) := jh (zea H4.out 12 _ ctr rfl)
   have ha0 := HA0.out
   have hc0 := HC0.out
   have H1n := jh (H1.out.far (a := ⟨S, 12, none⟩) (by have := HSB.out; simp; omega) (.int .u32 (wi ctr)))
   have H2n := jh (H2.out.far (a := ⟨S, 12, none⟩) (by have := HSB.out; simp; omega) (.int .u32 (wi ctr)))
   have H3n := jh (H3.out.far (a := ⟨S, 12, none⟩) (by have := HSB.out; have := HRB.out; simp; omega) (.int .u32 (wi ctr)))
   have HEn : Hid (Ext w (wr.setCell ⟨S, 12, none⟩ (.int .u32 (wi ctr)))) := jh (far_ext HE.out (by have := HBW.out; have := HSB.out; omega))
   go_upto_region 11 with (fail)
   clear H1 H2 H3 H4 HE f0 c0 ha0 hc0
   generalize wr.setCell ⟨S, 12, none⟩ (.int .u32 (wi ctr)) = w6 at *
   have H1 := H1n
   have H2 := H2n
   have H3 := H3n
   have H4 := HX
   have HE := HEn
   clear H1n H2n H3n HX HEn
   go_wp2_with fail
   go_loopw [9] (fun iv wr => ∃ (k : Nat), k ≤ 3 ∧ iv = .int .i64 (k : Int) ∧ Blk wr B (kb.map bval) 23 ∧ Blk wr (B + 1) (nb.map bval) 44 ∧ Blk wr R (ints .u8 (List.replicate 64 0)) 68 ∧ Blk wr S (ints .u32 (ws (chaN kb ctr nb k))) 97 ∧ Ext w wr) (fun iv _ => 3 - (intOf iv).toNat)
   case atStart => exact ⟨0, by omega, rfl, H1.out, H2.out, H3.out, H4.out, HE.out⟩
   case round =>
    clear H1 H2 H3 H4 HE
    obtain ⟨k, hk, rfl, hb1, hb2, hb3, hb4, hbel⟩ := hrel
    have k0 : (0 : Int) ≤ (k : Int) := Int.natCast_nonneg _
    by_cases hlk : k < 3
    ·have k1 : (k : Int) < 3 := by omega
     have hs := cut_arrL Tryz.underlying44 Tryz.sizeOf5 wr ((B + 1)) (4 * k) (by omega)
     have e4 : ((4 * k : Nat) : Int) = 4 * (k : Int) := by omega
     rw [e4] at hs
     have HW := jh (little_any ((B + 1)) (4 * k) (12 - 4 * k) (12 - 4 * k) nb 44 wr hb2 (by have := HNL.out; omega) (by omega))
     have H1 := jh hb1
     have H2 := jh hb2
     have H3 := jh hb3
     have H4 := jh hb4
     have HE := jh hbel
     clear hb1 hb2 hb3 hb4 hbel e4
     go_wp2_with fail
     refine HW.out.mono ?_
     rintro e w5 ⟨rfl, rfl⟩
     have H1 : Hid (Blk wr.drew B (kb.map bval) 23) := jh H1.out
     have H2 : Hid (Blk wr.drew (B + 1) (nb.map bval) 44) := jh H2.out
     have H3 : Hid (Blk wr.drew R (ints .u8 (List.replicate 64 0)) 68) := jh H3.out
     have H4 : Hid (Blk wr.drew S (ints .u32 (ws (chaN kb ctr nb k))) 97) := jh H4.out
     have HE : Hid (Ext w wr.drew) := jh (HE.out.trans (Ext.drew _))
     clear HW hs
     generalize wr.drew = w5 at *
     have f0 := H4.out.free (13 + k)
     obtain ⟨u, c0⟩ : ∃ u, w5.cell? ⟨S, 13 + k, none⟩ = some u := ⟨_, zbe H4.out (by rw [chaN_length]; omega)⟩
     have i0 : (0 : Int) ≤ 13 + (k : Int) := by omega
     have i1 : (13 : Int) + (k : Int) < 16 := by omega
     have i2 : ((13 : Int) + (k : Int)).toNat = 13 + k := by omega
     have HX : Hid (Blk (w5.setCell ⟨S, 13 + k, none⟩ (.int .u32 (wi (leW nb (4 * k))))) S (ints .u32 (ws (chaN kb ctr nb (k + 1)))) 97) := jh (zea H4.out (13 + k) _ (leW nb (4 * k)) rfl)
     generalize leW nb (4 * k) = lw at *
     go_wp2_with fail
     go_roundw
     case rel => exact ⟨k + 1, by omega, by go_num, H1.out.far (by have := HSB.out; simp; omega) _, H2.out.far (by have := HSB.out; simp; omega) _, H3.out.far (by have := HSB.out; have := HRB.out; simp; omega) _, HX.out, far_ext HE.out (by have := HBW.out; have := HSB.out; omega)⟩
     case measure => simp [intOf]; omega
    ·have hk8 : k = 3 := by omega
     subst hk8
     rw [show ((3 : Nat) : Int) = 3 from rfl]
     have H1 := jh hb1
     have H2 := jh hb2
     have H3 := jh hb3
     have H4 := jh hb4
     have HE := jh hbel
     clear hb1 hb2 hb3 hb4 hbel k0 hk
     rw [chaN_full] at H4
     have HSL := jh (zdz kb ctr nb)
     have HFIN : Hid (leB (wAdd (dRun (chaInit kb ctr nb) 10) (chaInit kb ctr nb)) 64 = chaBlock kb (BitVec.ofInt 32 c) nb) := jh (by rw [← HCTR.out]; rfl)
     generalize chaInit kb ctr nb = s at *
     have HZ := jh (Blk.made wr (ints .u32 (ws (List.replicate 16 0#32))) 97)
     have HXA := Ext.alloc wr (.cells (ints .u32 (ws (List.replicate 16 0#32))).toArray 97)
     have H3 := jh (zaa H3.out HXA)
     have HXS := jh HE.out.size
     have HLS := jh H4.out.lt
     have HLR : Hid (R < wr.heap.size) := jh (by have := HSB.out; have := HRB.out; have := H4.out.lt; omega)
     have H4a := jh (zaa H4.out HXA)
     have HE := jh (HE.out.trans HXA)
     have HIs : Hid ((Tryz.prog.info? 97).map (·.size) = some (ints .u32 (ws s)).length) := jh (by rw [zad, zar, HSL.out]; kernel_rfl)
     have HLs : Hid ((ints .u32 (ws s)).length = (ints .u32 (ws (List.replicate 16 0#32))).length) := jh (by rw [zad, zar, HSL.out, zad, zar, List.length_replicate])
     clear HXA H1 H2 HKL HNL HA0 HC0 HCTR
     go_upto_region 16 with (first | (refine zab rfl _ _ rfl S rfl _ _ _ _ H4.out Tryz.underlying97 HIs.out ?_) | (refine zac rfl _ _ _ rfl wr.heap.size (ints .u32 (ws s)) rfl rfl _ _ HZ.out HLs.out HIs.out (zai _ _) ?_; intro w7 hb7 hg7))
     have H3 := jh (H3.out.grown hg7 (fun e => by have h := Option.some.inj e; have := HLR.out; omega))
     have H4 := jh (H4a.out.grown hg7 (fun e => by have h := Option.some.inj e; have := HLS.out; omega))
     have HE := jh (zae HE.out hg7 HXS.out)
     have H5 := jh hb7
     obtain ⟨X, hX⟩ : ∃ X, X = wr.heap.size := ⟨_, rfl⟩
     have HXW : Hid (w.heap.size ≤ X ∧ S < X ∧ R < X) := jh (by have := HXS.out; have := HLS.out; have := HLR.out; omega)
     rw [← hX] at H5 ⊢
     clear hb7 hg7 HZ H4a HXS HLS HLR HIs HLs hX
     go_wp2_with fail
     go_loopw [11] (fun iv wr => ∃ (k : Nat), k ≤ 10 ∧ iv = .int .i64 (k : Int) ∧ Blk wr R (ints .u8 (List.replicate 64 0)) 68 ∧ Blk wr S (ints .u32 (ws s)) 97 ∧ Blk wr X (ints .u32 (ws (dRun s k))) 97 ∧ Ext w wr) (fun iv _ => 10 - (intOf iv).toNat)
     case atStart => exact ⟨0, by omega, rfl, H3.out, H4.out, H5.out, HE.out⟩
     case round =>
      clear H3 H4 H5 HE
      obtain ⟨k, hk, rfl, hb3, hb4, hb5, hbel⟩ := hrel
      have k0 : (0 : Int) ≤ (k : Int) := Int.natCast_nonneg _
      by_cases hlk : k < 10
      ·have k1 : (k : Int) < 10 := by omega
       have HD : Hid (dround (dRun s k) = dRun s (k + 1)) := jh rfl
       have HL0 : Hid ((dRun s k).length = 16) := jh (by rw [dRun_length]; exact HSL.out)
       have H3 := jh hb3
       have H4 := jh hb4
       have H5 := jh hb5
       have HE := jh hbel
       clear hb3 hb4 hb5 hbel
       generalize dRun s k = q0 at *
       obtain ⟨q1, hq1⟩ : ∃ q, q = qrt q0 0 4 8 12 := ⟨_, rfl⟩
       have HQ0 := jh (zeh X q0 q1 0 4 8 12 0 4 8 12 _ H5.out HL0.out rfl rfl rfl rfl hq1.symm (by decide))
       have HL1 : Hid (q1.length = 16) := jh (by rw [hq1, zdo]; exact HL0.out)
       have Hq1 := jh hq1
       clear hq1
       go_wp2_with fail
       refine HQ0.out.mono ?_
       rintro e v1 ⟨rfl, hb, hg⟩
       have H3 := jh (H3.out.grown hg (fun e => by have h := Option.some.inj e; have := HXW.out; omega))
       have H4 := jh (H4.out.grown hg (fun e => by have h := Option.some.inj e; have := HXW.out; omega))
       have HE := jh (zae HE.out hg HXW.out.1)
       have H5 := jh hb
       clear hb hg HQ0
       obtain ⟨q2, hq2⟩ : ∃ q, q = qrt q1 1 5 9 13 := ⟨_, rfl⟩
       have HQ1 := jh (zeh X q1 q2 1 5 9 13 1 5 9 13 _ H5.out HL1.out rfl rfl rfl rfl hq2.symm (by decide))
       have HL2 : Hid (q2.length = 16) := jh (by rw [hq2, zdo]; exact HL1.out)
       have Hq2 := jh hq2
       clear hq2
       go_wp2_with fail
       refine HQ1.out.mono ?_
       rintro e v2 ⟨rfl, hb, hg⟩
       have H3 := jh (H3.out.grown hg (fun e => by have h := Option.some.inj e; have := HXW.out; omega))
       have H4 := jh (H4.out.grown hg (fun e => by have h := Option.some.inj e; have := HXW.out; omega))
       have HE := jh (zae HE.out hg HXW.out.1)
       have H5 := jh hb
       clear hb hg HQ1
       obtain ⟨q3, hq3⟩ : ∃ q, q = qrt q2 2 6 10 14 := ⟨_, rfl⟩
       have HQ2 := jh (zeh X q2 q3 2 6 10 14 2 6 10 14 _ H5.out HL2.out rfl rfl rfl rfl hq3.symm (by decide))
       have HL3 : Hid (q3.length = 16) := jh (by rw [hq3, zdo]; exact HL2.out)
       have Hq3 := jh hq3
       clear hq3
       go_wp2_with fail
       refine HQ2.out.mono ?_
       rintro e v3 ⟨rfl, hb, hg⟩
       have H3 := jh (H3.out.grown hg (fun e => by have h := Option.some.inj e; have := HXW.out; omega))
       have H4 := jh (H4.out.grown hg (fun e => by have h := Option.some.inj e; have := HXW.out; omega))
       have HE := jh (zae HE.out hg HXW.out.1)
       have H5 := jh hb
       clear hb hg HQ2
       obtain ⟨q4, hq4⟩ : ∃ q, q = qrt q3 3 7 11 15 := ⟨_, rfl⟩
       have HQ3 := jh (zeh X q3 q4 3 7 11 15 3 7 11 15 _ H5.out HL3.out rfl rfl rfl rfl hq4.symm (by decide))
       have HL4 : Hid (q4.length = 16) := jh (by rw [hq4, zdo]; exact HL3.out)
       have Hq4 := jh hq4
       clear hq4
       go_wp2_with fail
       refine HQ3.out.mono ?_
       rintro e v4 ⟨rfl, hb, hg⟩
       have H3 := jh (H3.out.grown hg (fun e => by have h := Option.some.inj e; have := HXW.out; omega))
       have H4 := jh (H4.out.grown hg (fun e => by have h := Option.some.inj e; have := HXW.out; omega))
       have HE := jh (zae HE.out hg HXW.out.1)
       have H5 := jh hb
       clear hb hg HQ3
       obtain ⟨q5, hq5⟩ : ∃ q, q = qrt q4 0 5 10 15 := ⟨_, rfl⟩
       have HQ4 := jh (zeh X q4 q5 0 5 10 15 0 5 10 15 _ H5.out HL4.out rfl rfl rfl rfl hq5.symm (by decide))
       have HL5 : Hid (q5.length = 16) := jh (by rw [hq5, zdo]; exact HL4.out)
       have Hq5 := jh hq5
       clear hq5
       go_wp2_with fail
       refine HQ4.out.mono ?_
       rintro e v5 ⟨rfl, hb, hg⟩
       have H3 := jh (H3.out.grown hg (fun e => by have h := Option.some.inj e; have := HXW.out; omega))
       have H4 := jh (H4.out.grown hg (fun e => by have h := Option.some.inj e; have := HXW.out; omega))
       have HE := jh (zae HE.out hg HXW.out.1)
       have H5 := jh hb
       clear hb hg HQ4
       obtain ⟨q6, hq6⟩ : ∃ q, q = qrt q5 1 6 11 12 := ⟨_, rfl⟩
       have HQ5 := jh (zeh X q5 q6 1 6 11 12 1 6 11 12 _ H5.out HL5.out rfl rfl rfl rfl hq6.symm (by decide))
       have HL6 : Hid (q6.length = 16) := jh (by rw [hq6, zdo]; exact HL5.out)
       have Hq6 := jh hq6
       clear hq6
       go_wp2_with fail
       refine HQ5.out.mono ?_
       rintro e v6 ⟨rfl, hb, hg⟩
       have H3 := jh (H3.out.grown hg (fun e => by have h := Option.some.inj e; have := HXW.out; omega))
       have H4 := jh (H4.out.grown hg (fun e => by have h := Option.some.inj e; have := HXW.out; omega))
       have HE := jh (zae HE.out hg HXW.out.1)
       have H5 := jh hb
       clear hb hg HQ5
       obtain ⟨q7, hq7⟩ : ∃ q, q = qrt q6 2 7 8 13 := ⟨_, rfl⟩
       have HQ6 := jh (zeh X q6 q7 2 7 8 13 2 7 8 13 _ H5.out HL6.out rfl rfl rfl rfl hq7.symm (by decide))
       have HL7 : Hid (q7.length = 16) := jh (by rw [hq7, zdo]; exact HL6.out)
       have Hq7 := jh hq7
       clear hq7
       go_wp2_with fail
       refine HQ6.out.mono ?_
       rintro e v7 ⟨rfl, hb, hg⟩
       have H3 := jh (H3.out.grown hg (fun e => by have h := Option.some.inj e; have := HXW.out; omega))
       have H4 := jh (H4.out.grown hg (fun e => by have h := Option.some.inj e; have := HXW.out; omega))
       have HE := jh (zae HE.out hg HXW.out.1)
       have H5 := jh hb
       clear hb hg HQ6
       obtain ⟨q8, hq8⟩ : ∃ q, q = qrt q7 3 4 9 14 := ⟨_, rfl⟩
       have HQ7 := jh (zeh X q7 q8 3 4 9 14 3 4 9 14 _ H5.out HL7.out rfl rfl rfl rfl hq8.symm (by decide))
       have HL8 : Hid (q8.length = 16) := jh (by rw [hq8, zdo]; exact HL7.out)
       have Hq8 := jh hq8
       clear hq8
       go_wp2_with fail
       refine HQ7.out.mono ?_
       rintro e v8 ⟨rfl, hb, hg⟩
       have H3 := jh (H3.out.grown hg (fun e => by have h := Option.some.inj e; have := HXW.out; omega))
       have H4 := jh (H4.out.grown hg (fun e => by have h := Option.some.inj e; have := HXW.out; omega))
       have HE := jh (zae HE.out hg HXW.out.1)
       have H5 := jh hb
       clear hb hg HQ7
       have HDD : Hid (q8 = dRun s (k + 1)) := jh (by rw [← HD.out, Hq8.out, Hq7.out, Hq6.out, Hq5.out, Hq4.out, Hq3.out, Hq2.out, Hq1.out]; rfl)
       clear Hq1 Hq2 Hq3 Hq4 Hq5 Hq6 Hq7 Hq8
       go_wp2_with fail
       go_roundw
       case rel => exact ⟨k + 1, by omega, by go_num, H3.out, H4.out, by rw [← HDD.out]; exact H5.out, HE.out⟩
       case measure => simp [intOf]; omega
      ·have hk8 : k = 10 := by omega
       subst hk8
       rw [show ((10 : Nat) : Int) = 10 from rfl]
       have H3 := jh hb3
       have H4 := jh hb4
       have H5 := jh hb5
       have HE := jh hbel
       clear hb3 hb4 hb5 hbel k0 hk
       have HXL : Hid ((dRun s 10).length = 16) := jh (by rw [dRun_length]; exact HSL.out)
       generalize dRun s 10 = x at *
       have HWL : Hid ((leB (wAdd x s) 64).length = 64) := jh (leB_length _ _)
       have HOB : Hid (∀ j, j < 64 → (leB (wAdd x s) 64).getD j 0 = UInt8.ofNat ((x.getD (j / 4) 0#32 + s.getD (j / 4) 0#32).toNat / 2 ^ (8 * (j % 4)) % 256)) := jh (fun j hj => by
        rw [← wAdd_getD x s (by omega : j / 4 < 16)]
        exact leB_getD _ hj)
       generalize leB (wAdd x s) 64 = o at *
       obtain ⟨Y, hY⟩ : ∃ Y, Y = wr.heap.size := ⟨_, rfl⟩
       have HYW : Hid (w.heap.size ≤ Y ∧ S < Y ∧ R < Y ∧ X < Y) := jh (by have := HE.out.size; have := H4.out.lt; have := H3.out.lt; have := H5.out.lt; omega)
       have HXA := Ext.alloc wr (.cells (ints .u8 (List.replicate 64 0)).toArray 68)
       have H6 : Hid (Blk (wr.alloc (.cells (ints .u8 (List.replicate 64 0)).toArray 68)) Y ((fill 64 o 0).map bval) 68) := jh (by rw [fill_start, hY]; exact Blk.made wr (ints .u8 (List.replicate 64 0)) 68)
       have H3n := jh (zaa H3.out HXA)
       have H4n := jh (zaa H4.out HXA)
       have H5n := jh (zaa H5.out HXA)
       have HEn := jh (HE.out.trans HXA)
       clear HXA
       go_upto_region 28 with (fail)
       change Code.wp _ _ _ _ (wr.alloc (.cells (ints .u8 (List.replicate 64 0)).toArray 68))
       rw [← hY]
       clear H3 H4 H5 HE hY
       generalize wr.alloc (.cells (ints .u8 (List.replicate 64 0)).toArray 68) = w8 at *
       go_wp2_with fail
       go_loopw [13] (fun iv wr => ∃ (k : Nat), k ≤ 64 ∧ iv = .int .i64 (k : Int) ∧ Blk wr R (ints .u8 (List.replicate 64 0)) 68 ∧ Blk wr S (ints .u32 (ws s)) 97 ∧ Blk wr X (ints .u32 (ws x)) 97 ∧ Blk wr Y ((fill 64 o k).map bval) 68 ∧ Ext w wr) (fun iv _ => 64 - (intOf iv).toNat)
       case atStart => exact ⟨0, by omega, rfl, H3n.out, H4n.out, H5n.out, H6.out, HEn.out⟩
       case round =>
        clear H3n H4n H5n H6 HEn
        obtain ⟨k, hk, rfl, hb3, hb4, hb5, hb6, hbel⟩ := hrel
        have k0 : (0 : Int) ≤ (k : Int) := Int.natCast_nonneg _
        by_cases hlk : k < 64
        ·have k1 : (k : Int) < 64 := by omega
         have c1 := zbe hb5 (i := k / 4) (by rw [HXL.out]; omega)
         have c2 := zbe hb4 (i := k / 4) (by rw [HSL.out]; omega)
         have f3 := hb6.free k
         have hob := HOB.out k hlk
         have s1 := zbx (x.getD (k / 4) 0#32) (s.getD (k / 4) 0#32)
         generalize x.getD (k / 4) 0#32 = xa at *
         generalize s.getD (k / 4) 0#32 = sa at *
         generalize hva : xa + sa = va at *
         obtain ⟨d, hd⟩ : ∃ d, d = k / 4 := ⟨_, rfl⟩
         obtain ⟨r, hr⟩ : ∃ r, r = k % 4 := ⟨_, rfl⟩
         have q1 : (k : Int) / 4 = (d : Int) := by omega
         have q2 : (k : Int) % 4 = (r : Int) := by omega
         have q3 : (d : Int) < 16 := by omega
         have q4 : (0 : Int) ≤ (d : Int) := by omega
         have q5 : (r : Int) < 4 := by omega
         have q6 : (0 : Int) ≤ (r : Int) := by omega
         rw [← hd] at c1 c2
         rw [← hr] at hob
         clear hd hr
         obtain ⟨u6, c6⟩ : ∃ u, wr.cell? ⟨Y, k, none⟩ = some u := ⟨_, by rw [hb6.cell, zbb (by rw [fill_length HWL.out (by omega)]; exact hlk)]⟩
         have H3 := jh hb3
         have H4 := jh hb4
         have H5 := jh hb5
         have H6 := jh hb6
         have HE := jh hbel
         clear hb3 hb4 hb5 hb6 hbel hva
         go_wp2_with fail
         go_region
         go_wp2_with fail
         go_roundw
         case rel =>
          have hz := word_byte va r _ hob
          refine ⟨k + 1, by omega, by go_num, H3.out.far (by have := HYW.out; simp; omega) _, H4.out.far (by have := HYW.out; simp; omega) _, H5.out.far (by have := HYW.out; simp; omega) _, ?_, (far_ext HE.out HYW.out.1).trans (Ext.drew _)⟩
          rw [← fill_set_val HWL.out hlk hz]
          exact H6.out.set k _
         case measure => simp [intOf]; omega
        ·have hk8 : k = 64 := by omega
         subst hk8
         rw [fill_full HWL.out] at hb6
         have H3 := jh hb3
         have H6 := jh hb6
         have HE := jh hbel
         clear hb3 hb4 hb5 hb6 hbel
         have HIo : Hid ((Tryz.prog.info? 68).map (·.size) = some (o.map bval).length) := jh (sig_size HWL.out)
         have HLo : Hid ((o.map bval).length = (ints .u8 (List.replicate 64 0)).length) := jh (by rw [List.length_map, HWL.out, zad, List.length_replicate])
         go_wp2_with (first | (refine zab rfl _ _ rfl Y rfl _ _ _ _ H6.out Tryz.underlying68 HIo.out ?_) | (refine zac rfl _ _ _ rfl R (o.map bval) rfl rfl _ _ H3.out HLo.out HIo.out (zag _) ?_; intro w9 hb9 hg9))
         refine bodyPost_ret (zap rfl _ R _ _ _ _ rfl hb9 Tryz.underlying68 HIo.out) rfl ?_
         exact ⟨by rw [HFIN.out], zae HE.out hg9 (by have := HBW.out; have := HRB.out; omega)⟩
theorem rTurn_any (kb nb b : List UInt8) (bv : Value) (c : Int) (w : World) (hk : kb.length = 32) (hn : nb.length = 12) (hb : Row1 w bv (b.map bval)) (hbl : b.length ≤ 1099511627776) (hc1 : -9223372036854775808 ≤ c) (hc2 : c ≤ 9223372036854775807) :
  Calls Tryz.prog 31 #[.agg (kb.map bval).toArray, .int .i64 c, .agg (nb.map bval).toArray, bv] w fun e w' => ∃ x, e = .returned x ∧ w'.ownsRow w.heap.size 5 1 x b.length ((chaTurn kb c nb b).map bval) ∧ Below w.heap.size w w' := by
 obtain ⟨i0, hi0, hz0, hz1, hz2⟩ := info_parts Tryz.info5
 have HI0 := jh hi0
 have HZ0 := jh hz0
 have HZ1 := jh hz1
 have HZ2 := jh hz2
 have HKL := jh hk
 have HNL := jh hn
 have HBL := jh hbl
 have HR := jh hb
 have HB := jh (boxes2 w (kb.map bval) (nb.map bval) 23 44)
 have HA0 := jh (and_mask32 c hc1 hc2)
 have HIK : Hid ((Tryz.prog.info? 23).map (·.size) = some (kb.map bval).length) := jh (zaf hk)
 have HIN : Hid ((Tryz.prog.info? 44).map (·.size) = some (nb.map bval).length) := jh (zdj hn)
 have HMOD := jh (fun z => ofInt32_mod c z)
 obtain ⟨cm, hcm⟩ : ∃ cm, cm = c % 4294967296 := ⟨_, rfl⟩
 have HCM : Hid (0 ≤ cm ∧ cm < 4294967296) := jh (by omega)
 rw [← hcm] at HA0 HMOD
 clear hk hn hbl hb hi0 hz0 hz1 hz2 hc1 hc2 hcm
 go_enter Tryz.func31, Tryz.ntmps31
 go_upto_region 1 with (fail)
 obtain ⟨H1, H2, HE⟩ := HB.out
 change Code.wp _ _ _ _ ((w.alloc (.cells (kb.map bval).toArray 23)).alloc (.cells (nb.map bval).toArray 44))
 generalize (w.alloc (.cells (kb.map bval).toArray 23)).alloc (.cells (nb.map bval).toArray 44) = wa at *
 obtain ⟨K, hK⟩ : ∃ K, K = w.heap.size := ⟨_, rfl⟩
 have HKW : Hid (w.heap.size ≤ K ∧ K ≤ w.heap.size) := jh (by omega)
 rw [← hK] at H1 H2 ⊢
 have H1 := jh H1
 have H2 := jh H2
 have HE : Hid (Ext w wa) := jh HE
 have HR1 := jh (HR.out.below HE.out)
 have HNIL : Hid (wa.ownsRow wa.heap.size 5 1 (.slice none 0 0) 0 []) := jh (World.ownsRow_nil _ _ _ _)
 have HMM : Hid ((b.map bval).length = b.length) := jh (List.length_map _)
 clear hK HB HR
 go_upto_region 2 with (at_builtin; refine zas rfl _ _ 25 rfl wa.heap.size 5 i0 (.int .u8 0) 1 Tryz.underlying25 HI0.out HZ0.out HZ1.out HZ2.out rfl _ 0 _ rfl HNIL.out rfl HR1.out (zag _) (by have := HBL.out; rw [HMM.out]; unfold maxLen; omega) (by have := HBL.out; rw [HMM.out]; omega) (Nat.le_refl _) ?_; intro x1 w1 hown hgrow)
 have HO : Hid (w1.ownsRow (K + 2) 5 1 x1 b.length (b.map bval)) := jh (by have h := hown; rw [HMM.out, Nat.zero_add, List.nil_append] at h; exact h.mono (by have := H2.out.lt; omega))
 have HE1 : Hid (Ext wa w1) := jh (zck (Ext.refl wa) HNIL.out (Nat.le_refl _) hgrow)
 have H1 := jh (zaa H1.out HE1.out)
 have H2 := jh (zaa H2.out HE1.out)
 have HE := jh (HE.out.trans HE1.out)
 obtain ⟨ax, cx, hxv, _⟩ := id (Row1.of_own HO.out)
 rw [HMM.out] at hxv
 subst hxv
 clear hown hgrow HE1 HNIL HR1 HMM
 have ha0 := HA0.out
 go_upto_region 3 with (fail)
 clear ha0 HA0
 obtain ⟨M, hM⟩ : ∃ M, M = w1.heap.size := ⟨_, rfl⟩
 have HMW : Hid (K + 1 < M) := jh (by have := H2.out.lt; omega)
 have HXA := Ext.alloc w1 (.cells (ints .u8 (List.replicate 64 0)).toArray 68)
 have HXM : Hid (∀ g, ax = some ⟨g, 0, none⟩ → g < M) := jh (fun g hg => by subst hg; rw [hM]; exact (HO.out.lt g rfl).2)
 have H3 : Hid (Blk (w1.alloc (.cells (ints .u8 (List.replicate 64 0)).toArray 68)) M ((List.replicate 64 (0 : UInt8)).map bval) 68) := jh (by
  have e : (List.replicate 64 (0 : UInt8)).map bval = ints .u8 (List.replicate 64 0) := by rw [List.map_replicate]; unfold ints; rw [List.map_replicate]; rfl
  rw [e, hM]
  exact Blk.made w1 (ints .u8 (List.replicate 64 0)) 68)
 have H1 := jh (zaa H1.out HXA)
 have H2 := jh (zaa H2.out HXA)
 have HO := jh (HO.out.alloc (.cells (ints .u8 (List.replicate 64 0)).toArray 68))
 have HE := jh (HE.out.trans HXA)
 clear HXA
 go_upto_region 4 with (fail)
 change Code.wp _ _ _ _ (w1.alloc (.cells (ints .u8 (List.replicate 64 0)).toArray 68))
 rw [← hM]
 clear hM
 generalize w1.alloc (.cells (ints .u8 (List.replicate 64 0)).toArray 68) = w2 at *
 go_wp2_with fail
 go_loopw [12] (fun iv wr => ∃ (k : Nat) (kk : List UInt8), k ≤ b.length ∧ iv = .int .i64 (k : Int) ∧ kk.length = 64 ∧ (k % 64 ≠ 0 → kk = chaBlock kb (BitVec.ofInt 32 (c + ((k / 64 : Nat) : Int))) nb) ∧ wr.ownsRow (K + 2) 5 1 (.slice ax b.length cx) b.length ((chaTo kb c nb b k).map bval) ∧ Blk wr K (kb.map bval) 23 ∧ Blk wr (K + 1) (nb.map bval) 44 ∧ Blk wr M (kk.map bval) 68 ∧ Ext w wr) (fun iv _ => b.length - (intOf iv).toNat)
 case atStart => exact ⟨0, _, by omega, rfl, by simp, fun h => absurd rfl h, HO.out, H1.out, H2.out, H3.out, HE.out⟩
 case round =>
  clear HO H1 H2 H3 HE
  obtain ⟨k, kk, hk, rfl, hkl, hkk, ho, hb1, hb2, hb3, hbel⟩ := hrel
  have k0 : (0 : Int) ≤ (k : Int) := Int.natCast_nonneg _
  have HKK := jh hkk
  have HLK := jh hkl
  have HO := jh ho
  have H1 := jh hb1
  have H2 := jh hb2
  have H3 := jh hb3
  have HE := jh hbel
  clear hkk hkl ho hb1 hb2 hb3 hbel
  by_cases hlk : k < b.length
  ·have k1 : (k : Int) < (b.length : Int) := by omega
   go_upto_if 25 with (fail)
   go_cut [12] from 23 to 32 (fun iv wc => ∃ (k2 : List UInt8), iv = .int .i64 (k : Int) ∧ k2.length = 64 ∧ k2 = chaBlock kb (BitVec.ofInt 32 (c + ((k / 64 : Nat) : Int))) nb ∧ wc.ownsRow (K + 2) 5 1 (.slice ax b.length cx) b.length ((chaTo kb c nb b k).map bval) ∧ Blk wc K (kb.map bval) 23 ∧ Blk wc (K + 1) (nb.map bval) 44 ∧ Blk wc M (k2.map bval) 68 ∧ Ext w wc)
   case first =>
    by_cases hm : k % 64 = 0
    ·have q0 : (k : Int) % 64 = 0 := by omega
     obtain ⟨d, hd⟩ : ∃ d, d = k / 64 := ⟨_, rfl⟩
     have q1 : (k : Int) / 64 = (d : Int) := by omega
     have q2 : (0 : Int) ≤ (d : Int) := by omega
     have q3 : cm + (d : Int) ≤ 9223372036854775807 := by have := HCM.out; have := HBL.out; omega
     have q4 : -9223372036854775808 ≤ cm + (d : Int) := by have := HCM.out; omega
     have q5 : (d : Int) ≤ 9223372036854775807 := by have := HBL.out; omega
     have q6 : -9223372036854775808 ≤ (d : Int) := by omega
     obtain ⟨o, ho⟩ : ∃ o, o = chaBlock kb (BitVec.ofInt 32 (c + ((k / 64 : Nat) : Int))) nb := ⟨_, rfl⟩
     have hblk : chaBlock kb (BitVec.ofInt 32 (cm + (d : Int))) nb = o := by rw [ho, hd, HMOD.out]
     have hbk := rBlock_any kb nb (cm + (d : Int)) wr HKL.out HNL.out q4 q3
     rw [hblk] at hbk
     have HBK := jh hbk
     have HDO := jh ho
     have HLO : Hid (o.length = 64) := jh (by rw [ho]; exact zda _ _ _)
     clear ho hblk hbk
     clear hd hm
     go_wp2_with (first | (refine zab rfl _ _ rfl K rfl _ _ _ _ H1.out Tryz.underlying23 HIK.out ?_) | (refine zab rfl _ _ rfl (K + 1) rfl _ _ _ _ H2.out Tryz.underlying44 HIN.out ?_))
     refine HBK.out.mono ?_
     rintro e w5 ⟨rfl, hb⟩
     have HO := jh (zbz HO.out hb)
     have H1 := jh (zaa H1.out hb)
     have H2 := jh (zaa H2.out hb)
     have H3 := jh (zaa H3.out hb)
     have HE := jh (HE.out.trans hb)
     have HIo : Hid ((Tryz.prog.info? 68).map (·.size) = some (o.map bval).length) := jh (sig_size HLO.out)
     have HLo : Hid ((o.map bval).length = (kk.map bval).length) := jh (by rw [List.length_map, List.length_map, HLO.out, HLK.out])
     clear hb HBK
     go_wp2_with (refine zac rfl _ _ _ rfl M (o.map bval) rfl rfl _ _ H3.out HLo.out HIo.out (zag _) ?_; intro w6 hb6 hg6)
     go_meet
     refine ⟨o, rfl, HLO.out, HDO.out, HO.out.kept hg6 (Or.inr (fun e => ?_)), H1.out.grown hg6 (fun e => by have h := Option.some.inj e; have := HMW.out; omega), H2.out.grown hg6 (fun e => by have h := Option.some.inj e; have := HMW.out; omega), hb6, zae HE.out hg6 (by have := HMW.out; have := HKW.out; omega)⟩
     cases ax with
     | none => cases e
     | some a =>
      have e2 : a.block = M := Option.some.inj e
      obtain ⟨g, cap, hv, _⟩ := HO.out.form (by omega)
      have hg : a = ⟨g, 0, none⟩ := by
       simp only [Value.slice.injEq, Option.some.injEq] at hv
       exact hv.1
      subst hg
      have := HXM.out g rfl
      have e3 : g = M := e2
      omega
    ·have q0 : ((k : Int) % 64 == 0) = false := by simp; omega
     go_wp2_with fail
     go_meet
     exact ⟨kk, rfl, HLK.out, HKK.out hm, HO.out, H1.out, H2.out, H3.out, HE.out⟩
   case rest =>
    obtain ⟨k2, rfl, hl2, hk2, ho, hb1, hb2, hb3, hbel⟩ := hcut
    clear HO H1 H2 H3 HE HKK HLK
    obtain ⟨g, cap, hv, hgK, hgl⟩ := ho.form (by omega)
    have hg2 : ax = some ⟨g, 0, none⟩ := by
     simp only [Value.slice.injEq] at hv
     exact hv.1
    subst hg2
    have HGM := jh (HXM.out g rfl)
    have c1 := ho.cellAt k (by omega)
    have f1 := ho.frozenAt k
    have hx : (chaTo kb c nb b k).getD k 0 = b.getD k 0 := by rw [chaTo_getD _ _ _ _ k hk, if_neg (by omega)]
    rw [zbb (by rw [chaTo_length]; exact hlk), hx] at c1
    have c2 := hb3.cell (k % 64)
    rw [zbb (by rw [hl2]; omega)] at c2
    have hby := chaByte_at kb c nb k2 k hk2
    have x1 := xor_u8 (b.getD k 0) (k2.getD (k % 64) 0)
    have HS := jh (show ((chaTo kb c nb b k).map bval).set k (bval (b.getD k 0 ^^^ k2.getD (k % 64) 0)) = (chaTo kb c nb b (k + 1)).map bval from by rw [← List.map_set, hby]; rfl)
    have HST := jh (ho.stored k (bval (b.getD k 0 ^^^ k2.getD (k % 64) 0)))
    have HK2 := jh hk2
    have HL2 := jh hl2
    have H1 := jh hb1
    have H2 := jh hb2
    have H3 := jh hb3
    have HE := jh hbel
    generalize hz : b.getD k 0 ^^^ k2.getD (k % 64) 0 = z at *
    generalize b.getD k 0 = y1 at *
    generalize k2.getD (k % 64) 0 = y2 at *
    obtain ⟨r, hr⟩ : ∃ r, r = k % 64 := ⟨_, rfl⟩
    have q1 : (k : Int) % 64 = (r : Int) := by omega
    have q2 : (0 : Int) ≤ (r : Int) := by omega
    have q3 : (r : Int) < 64 := by omega
    rw [← hr] at c2
    clear hk2 hl2 hb1 hb2 hb3 hbel hby hx hz hr ho hv hgl
    go_wp2_with fail
    go_region
    have k63 : (k : Int) + 1 ≤ 9223372036854775807 := by have := HBL.out; omega
    go_wp2_with fail
    go_roundw
    case rel =>
     refine ⟨k + 1, k2, by omega, by go_num, HL2.out, fun hm => ?_, ?_, H1.out.far (by simp; omega) _, H2.out.far (by simp; omega) _, H3.out.far (by have := HGM.out; simp; omega) _, Ext.trans (b := wc.setCell ⟨g, k, none⟩ (bval z)) (Below.setCell HE.out (by have := HKW.out; simp; omega) _) (Ext.drew _)⟩
     ·rw [HK2.out]
      congr 2
      omega
     ·rw [← HS.out]
      exact HST.out.1
    case measure =>
     simp [intOf]; omega
  ·have hkb : k = b.length := by omega
   subst hkb
   rw [chaTo_full] at HO
   have hlk2 : ¬ (b.length : Int) < (b.length : Int) := by omega
   go_wp2_with fail
   go_ret
   exact ⟨_, rfl, HO.out.mono (by have := HKW.out; omega), HE.out⟩
theorem Tryz.arr125 : (Tryz.prog.info? 125).map (·.size) = some 17 := by kernel_rfl
theorem zen {l : List Int} (h : l.length = 17) : (Tryz.prog.info? 125).map (·.size) = some (ints .i64 l).length := by rw [zad, h]; exact Tryz.arr125
theorem carried17_any (H : List Int) (w : World) (hl : H.length = 17) (hb : ∀ i, 0 ≤ H.getD i 0 ∧ H.getD i 0 ≤ 1099511627776) :
  Calls Tryz.prog 113 #[.agg (ints .i64 H).toArray] w fun e w' => e = .returned (.agg (ints .i64 (qThree H)).toArray) ∧ Below w.heap.size w w' := by
 have HL := jh hl
 have HBD := jh (qN_le H hl hb)
 have HB := jh (boxes2 w (ints .i64 H) (ints .i64 (List.replicate 17 0)) 125 125)
 clear hl hb
 go_enter Tryz.func113, Tryz.ntmps113
 go_upto_region 1 with (fail)
 obtain ⟨H1, H2, HE⟩ := HB.out
 change Code.wp _ _ _ _ ((w.alloc (.cells (ints .i64 H).toArray 125)).alloc (.cells (ints .i64 (List.replicate 17 0)).toArray 125))
 generalize (w.alloc (.cells (ints .i64 H).toArray 125)).alloc (.cells (ints .i64 (List.replicate 17 0)).toArray 125) = wa at *
 obtain ⟨A, hA⟩ : ∃ A, A = w.heap.size := ⟨_, rfl⟩
 have HAW : Hid (w.heap.size ≤ A) := jh (by omega)
 rw [← hA] at H1 H2 ⊢
 have H1 := jh H1
 have H2 := jh H2
 have HE : Hid (Ext w wa) := jh HE
 clear hA HB
 go_wp2_with fail
 go_loopw [3] (fun kv wr => ∃ (k : Nat), k ≤ 3 ∧ kv = .int .i64 (k : Int) ∧ Blk wr A (ints .i64 (qN H k)) 125 ∧ Blk wr (A + 1) (ints .i64 (List.replicate 17 0)) 125 ∧ Ext w wr) (fun kv _ => 3 - (intOf kv).toNat)
 case atStart => exact ⟨0, by omega, rfl, H1.out, H2.out, HE.out⟩
 case round =>
  clear H1 H2 HE
  obtain ⟨k, hk, rfl, hb1, hb2, hbel⟩ := hrel
  have k0 : (0 : Int) ≤ (k : Int) := Int.natCast_nonneg _
  by_cases hlk : k < 3
  ·have k1 : (k : Int) < 3 := by omega
   have HQ : Hid (qN H (k + 1) = qPass (qN H k)) := jh rfl
   have HBh := jh (HBD.out k (by omega))
   have HLh : Hid ((qN H k).length = 17) := jh (by rw [qN_length]; exact HL.out)
   have H1 := jh hb1
   have H2 := jh hb2
   have HE := jh hbel
   clear hb1 hb2 hbel
   generalize qN H k = h at *
   go_wp2_with fail
   go_loopw [4, 5] (fun uv iv wr => ∃ (i : Nat), i ≤ 16 ∧ uv = .int .i64 (zaq h i).2 ∧ iv = .int .i64 (i : Int) ∧ Blk wr A (ints .i64 (zaq h i).1) 125 ∧ Blk wr (A + 1) (ints .i64 (List.replicate 17 0)) 125 ∧ Ext w wr) (fun _ iv _ => 16 - (intOf iv).toNat)
   case atStart => exact ⟨0, by omega, rfl, rfl, H1.out, H2.out, HE.out⟩
   case round =>
    clear H1 H2 HE
    obtain ⟨i, hi, rfl, rfl, hb1, hb2, hbel⟩ := hrel
    have i0 : (0 : Int) ≤ (i : Int) := Int.natCast_nonneg _
    have hu0 := qRun_nonneg h (fun i => (HBh.out i).1) i
    have hu1 := qRun_top h HBh.out i
    have hrl : (zaq h i).1.length = 17 := by rw [zbt]; exact HLh.out
    have H1 := jh hb1
    have H2 := jh hb2
    have HE := jh hbel
    by_cases hli : i < 16
    ·have i1 : (i : Int) < 17 := by omega
     have i2 : (i : Int) < 16 := by omega
     have c1 := zbs hb1 (i := i) (by rw [hrl]; omega)
     have f1 := hb1.free i
     have hz := HBh.out i
     have hfar := qRun_far h i i (Nat.le_refl _)
     have HS1 : Hid ((zaq h (i + 1)).1 = (zaq h i).1.set i (((zaq h i).2 + (zaq h i).1.getD i 0) % 256)) := jh rfl
     have HS2 : Hid ((zaq h (i + 1)).2 = ((zaq h i).2 + (zaq h i).1.getD i 0) / 256) := jh rfl
     rw [← hfar] at hz
     clear hb1 hb2 hbel hfar
     generalize (zaq h i).1.getD i 0 = z at *
     generalize (zaq h i).2 = u at *
     obtain ⟨z0, z1⟩ := hz
     have a1 := and_i64_255 (u + z) (by omega) (by omega)
     go_wp2_with fail
     go_roundw
     case rel =>
      refine ⟨i + 1, by omega, by rw [HS2.out], by go_num, ?_, H2.out.far (by simp) _, Below.setCell HE.out (by have := HAW.out; simp; omega) _⟩
      rw [HS1.out]
      exact H1.out.seti i _
     case measure => simp [intOf]; omega
    ·have hi16 : i = 16 := by omega
     subst hi16
     rw [show ((16 : Nat) : Int) = 16 from rfl]
     have HP : Hid (qPass h = ((zaq h 16).1.set 16 (((zaq h 16).2 + h.getD 16 0) % 4)).set 0 ((zaq h 16).1.getD 0 0 + 5 * (((zaq h 16).2 + h.getD 16 0) / 4))) := jh rfl
     have c1 := zbs hb1 (i := 16) (by rw [hrl]; omega)
     have f1 := hb1.free 16
     have hz := HBh.out 16
     have hfar := qRun_far h 16 16 (Nat.le_refl _)
     rw [hfar] at c1
     have hsm := qRun_small h HLh.out 16 (Nat.le_refl _) 0 (by omega)
     clear hb1 hb2 hbel hfar
     generalize hqr : (zaq h 16).1 = rr at *
     generalize (zaq h 16).2 = u at *
     generalize h.getD 16 0 = z at *
     obtain ⟨z0, z1⟩ := hz
     have a1 := and_i64_3 (u + z) (by omega) (by omega)
     have H1n : Hid (Blk (wr.setCell ⟨A, 16, none⟩ (.int .i64 ((u + z) % 4))) A (ints .i64 (rr.set 16 ((u + z) % 4))) 125) := jh (H1.out.seti 16 _)
     have H2n := jh (H2.out.far (a := ⟨A, 16, none⟩) (by simp) (.int .i64 ((u + z) % 4)))
     have HEn : Hid (Ext w (wr.setCell ⟨A, 16, none⟩ (.int .i64 ((u + z) % 4)))) := jh (Below.setCell HE.out (by have := HAW.out; simp; omega) _)
     go_upto_region 13 with (fail)
     clear H1 H2 HE c1 f1 a1
     generalize wr.setCell ⟨A, 16, none⟩ (.int .i64 ((u + z) % 4)) = w5 at *
     have c1 := zbs H1n.out (i := 0) (by rw [List.length_set, hrl]; omega)
     rw [zah (by omega)] at c1
     have f1 := H1n.out.free 0
     have H1m := jh (H1n.out.seti 0 (rr.getD 0 0 + 5 * ((u + z) / 4)))
     rw [← HP.out] at H1m
     generalize rr.getD 0 0 = y at *
     obtain ⟨y0, y1⟩ := hsm
     go_wp2_with fail
     go_roundw
     case rel => exact ⟨k + 1, by omega, by go_num, by rw [HQ.out]; exact H1m.out, H2n.out.far (by simp) _, Below.setCell HEn.out (by have := HAW.out; simp; omega) _⟩
     case measure => simp [intOf]; omega
  ·have hk3 : k = 3 := by omega
   subst hk3
   rw [qN_three] at hb1
   have hlen : (qThree H).length = 17 := by rw [← qN_three, qN_length]; exact HL.out
   obtain ⟨o, ho⟩ : ∃ o, o = qThree H := ⟨_, rfl⟩
   rw [← ho] at hb1 hlen
   have HO := jh ho
   have H1 := jh hb1
   have H2 := jh hb2
   have HE := jh hbel
   have HIo := jh (zen hlen)
   have HLo : Hid ((ints .i64 o).length = (ints .i64 (List.replicate 17 0)).length) := jh (by rw [zad, hlen, zad, List.length_replicate])
   clear hb1 hb2 hbel ho hlen
   go_wp2_with (first | (refine zab rfl _ _ rfl A rfl _ _ _ _ H1.out Tryz.underlying125 HIo.out ?_) | (refine zac rfl _ _ _ rfl (A + 1) (ints .i64 o) rfl rfl _ _ H2.out HLo.out HIo.out (zai _ _) ?_; intro w9 hb9 hg9))
   refine bodyPost_ret (zap rfl _ (A + 1) _ _ _ _ rfl hb9 Tryz.underlying125 HIo.out) rfl ?_
   exact ⟨by rw [HO.out], zae HE.out hg9 (by have := HAW.out; omega)⟩
theorem times17_any (H R : List Int) (w : World) (hl : H.length = 17) (rl : R.length = 17) (hh : ∀ i, 0 ≤ H.getD i 0 ∧ H.getD i 0 ≤ 1024) (hr : ∀ i, 0 ≤ R.getD i 0 ∧ R.getD i 0 ≤ 255) :
  Calls Tryz.prog 89 #[.agg (ints .i64 H).toArray, .agg (ints .i64 R).toArray] w fun e w' => e = .returned (.agg (ints .i64 (qThree (tList H R 17))).toArray) ∧ Below w.heap.size w w' := by
 have HHL := jh hl
 have HRL := jh rl
 have HH := jh hh
 have HR := jh hr
 have HB := jh (boxes4 w (ints .i64 H) (ints .i64 R) (ints .i64 (List.replicate 17 0)) (ints .i64 (List.replicate 17 0)) 125 125 125 125)
 clear hl rl hh hr
 go_enter Tryz.func89, Tryz.ntmps89
 go_upto_region 2 with (fail)
 obtain ⟨H1, H2, H3, H4, HE⟩ := HB.out
 change Code.wp _ _ _ _ ((((w.alloc (.cells (ints .i64 H).toArray 125)).alloc (.cells (ints .i64 R).toArray 125)).alloc (.cells (ints .i64 (List.replicate 17 0)).toArray 125)).alloc (.cells (ints .i64 (List.replicate 17 0)).toArray 125))
 generalize (((w.alloc (.cells (ints .i64 H).toArray 125)).alloc (.cells (ints .i64 R).toArray 125)).alloc (.cells (ints .i64 (List.replicate 17 0)).toArray 125)).alloc (.cells (ints .i64 (List.replicate 17 0)).toArray 125) = wa at *
 obtain ⟨A, hA⟩ : ∃ A, A = w.heap.size := ⟨_, rfl⟩
 have HAW : Hid (w.heap.size ≤ A) := jh (by omega)
 rw [← hA] at H1 H2 H3 H4 ⊢
 have H1 := jh H1
 have H2 := jh H2
 have H3 := jh H3
 have H4 : Hid (Blk wa (A + 1 + 1 + 1) (ints .i64 (tList H R 0)) 125) := jh H4
 have HE : Hid (Ext w wa) := jh HE
 clear hA HB
 go_wp2_with fail
 go_loopw [6] (fun iv wr => ∃ (i : Nat), i ≤ 17 ∧ iv = .int .i64 (i : Int) ∧ Blk wr A (ints .i64 H) 125 ∧ Blk wr (A + 1) (ints .i64 R) 125 ∧ Blk wr (A + 1 + 1) (ints .i64 (List.replicate 17 0)) 125 ∧ Blk wr (A + 1 + 1 + 1) (ints .i64 (tList H R i)) 125 ∧ Ext w wr) (fun iv _ => 17 - (intOf iv).toNat)
 case atStart => exact ⟨0, by omega, rfl, H1.out, H2.out, H3.out, H4.out, HE.out⟩
 case round =>
  clear H1 H2 H3 H4 HE
  obtain ⟨i, hi, rfl, hb1, hb2, hb3, hb4, hbel⟩ := hrel
  have i0 : (0 : Int) ≤ (i : Int) := Int.natCast_nonneg _
  have H1 := jh hb1
  have H2 := jh hb2
  have H3 := jh hb3
  have H4 := jh hb4
  have HE := jh hbel
  clear hb1 hb2 hb3 hb4 hbel
  by_cases hli : i < 17
  ·have i1 : (i : Int) < 17 := by omega
   have HTB := jh (fun j => tRun_bound HH.out HR.out i j)
   go_wp2_with fail
   go_loopw [7, 8] (fun uv jv wq => ∃ (j : Nat), j ≤ i + 1 ∧ uv = .int .i64 (tRun H R i j) ∧ jv = .int .i64 (j : Int) ∧ Ext wr wq) (fun _ jv _ => i + 1 - (intOf jv).toNat)
   case atStart => exact ⟨0, by omega, rfl, rfl, Ext.refl _⟩
   case round =>
    obtain ⟨j, hj, rfl, rfl, hX⟩ := hrel
    have j0 : (0 : Int) ≤ (j : Int) := Int.natCast_nonneg _
    have HX := jh hX
    obtain ⟨b0, b1⟩ := HTB.out j
    clear hX
    by_cases hlj : j ≤ i
    ·have j1 : (j : Int) ≤ (i : Int) := by omega
     have j2 : (j : Int) < 17 := by omega
     obtain ⟨d, hd⟩ : ∃ d, d = i - j := ⟨_, rfl⟩
     have d1 : (i : Int) - (j : Int) = (d : Int) := by omega
     have d2 : (0 : Int) ≤ (d : Int) := by omega
     have d3 : (d : Int) < 17 := by omega
     have c1 := zbs (zaa H1.out HX.out) (i := j) (by rw [HHL.out]; omega)
     have c2 := zbs (zaa H2.out HX.out) (i := d) (by rw [HRL.out]; omega)
     obtain ⟨e0, e1⟩ := HH.out j
     obtain ⟨g0, g1⟩ := HR.out d
     have HT : Hid (tRun H R i (j + 1) = tRun H R i j + H.getD j 0 * R.getD d 0) := jh (by rw [tRun, tCo_lo R hlj, hd])
     have b2 : tRun H R i j ≤ 1420492800 := by omega
     generalize H.getD j 0 = x at *
     generalize R.getD d 0 = y at *
     generalize tRun H R i j = u at *
     have p0 : 0 ≤ x * y := Int.mul_nonneg e0 g0
     have p1 : x * y ≤ 1024 * 255 := Int.mul_le_mul e1 g1 g0 (by omega)
     have p2 : x * y ≤ 261120 := p1
     have w1 : -9223372036854775808 ≤ x * y := by omega
     have w2 : x * y ≤ 9223372036854775807 := by omega
     have w3 : -9223372036854775808 ≤ u + x * y := by omega
     have w4 : u + x * y ≤ 9223372036854775807 := by omega
     clear b1 hd p1 p2 p0
     go_wp2_with fail
     go_region
     go_wp2_with fail
     go_roundw
     case rel => exact ⟨j + 1, by omega, by rw [HT.out], by go_num, HX.out.trans (Ext.drew _)⟩
     case measure => simp [intOf]; omega
    ·have hji : j = i + 1 := by omega
     subst hji
     have j1 : ¬ (((i + 1 : Nat) : Int) ≤ (i : Int)) := by omega
     rw [show ((i + 1 : Nat) : Int) = (i : Int) + 1 from by omega] at j1 j0 ⊢
     clear b0 b1
     have H1 := jh (zaa H1.out HX.out)
     have H2 := jh (zaa H2.out HX.out)
     have H3 := jh (zaa H3.out HX.out)
     have H4 := jh (zaa H4.out HX.out)
     have HE := jh (HE.out.trans HX.out)
     clear HX
     go_wp2_with fail
     go_loopw [7, 9] (fun uv jv wq => ∃ (j : Nat), i + 1 ≤ j ∧ j ≤ 17 ∧ uv = .int .i64 (tRun H R i j) ∧ jv = .int .i64 (j : Int) ∧ Ext wr wq) (fun _ jv _ => 17 - (intOf jv).toNat)
     case atStart => exact ⟨i + 1, by omega, by omega, rfl, by rw [show ((i + 1 : Nat) : Int) = (i : Int) + 1 from by omega], Ext.refl _⟩
     case round =>
      clear j0 j1
      obtain ⟨j, hj1, hj2, rfl, rfl, hX⟩ := hrel
      have j0 : (0 : Int) ≤ (j : Int) := Int.natCast_nonneg _
      have HX := jh hX
      obtain ⟨b0, b1⟩ := HTB.out j
      clear hX
      by_cases hlj : j < 17
      ·have j1 : (j : Int) < 17 := by omega
       obtain ⟨d, hd⟩ : ∃ d, d = i + 17 - j := ⟨_, rfl⟩
       have d1 : (i : Int) + 17 - (j : Int) = (d : Int) := by omega
       have d2 : (0 : Int) ≤ (d : Int) := by omega
       have d3 : (d : Int) < 17 := by omega
       have c1 := zbs (zaa H1.out HX.out) (i := j) (by rw [HHL.out]; omega)
       have c2 := zbs (zaa H2.out HX.out) (i := d) (by rw [HRL.out]; omega)
       obtain ⟨e0, e1⟩ := HH.out j
       obtain ⟨g0, g1⟩ := HR.out d
       have HT : Hid (tRun H R i (j + 1) = tRun H R i j + 320 * H.getD j 0 * R.getD d 0) := jh (by rw [tRun, tCo_hi R (by omega), hd, ← Int.mul_assoc, Int.mul_comm (H.getD j 0) 320])
       have b2 : tRun H R i j ≤ 1420492800 := by omega
       generalize H.getD j 0 = x at *
       generalize R.getD d 0 = y at *
       generalize tRun H R i j = u at *
       have p0 : 0 ≤ 320 * x * y := Int.mul_nonneg (by omega) g0
       have p1 : 320 * x * y ≤ 327680 * 255 := Int.mul_le_mul (by omega) g1 g0 (by omega)
       have p2 : 320 * x * y ≤ 83558400 := p1
       have w5 : -9223372036854775808 ≤ 320 * x := by omega
       have w6 : 320 * x ≤ 9223372036854775807 := by omega
       have w1 : -9223372036854775808 ≤ 320 * x * y := by omega
       have w2 : 320 * x * y ≤ 9223372036854775807 := by omega
       have w3 : -9223372036854775808 ≤ u + 320 * x * y := by omega
       have w4 : u + 320 * x * y ≤ 9223372036854775807 := by omega
       clear b1 hd p1 p2 p0
       go_wp2_with fail
       go_region
       go_wp2_with fail
       go_roundw
       case rel => exact ⟨j + 1, by omega, by omega, by rw [HT.out], by go_num, HX.out.trans (Ext.drew _)⟩
       case measure => simp [intOf]; omega
      ·have hji : j = 17 := by omega
       subst hji
       rw [show ((17 : Nat) : Int) = 17 from rfl]
       have hb4 := zaa H4.out HX.out
       have tl := zeg H R i
       have c1 := zbs hb4 (i := i) (by rw [tl]; omega)
       have f1 := hb4.free i
       have H1 := jh (zaa H1.out HX.out)
       have H2 := jh (zaa H2.out HX.out)
       have H3 := jh (zaa H3.out HX.out)
       have H4 := jh hb4
       have HE := jh (HE.out.trans HX.out)
       have HL1 : Hid (tList H R (i + 1) = (tList H R i).set i (tRun H R i 17)) := jh rfl
       clear hb4 tl b0 b1 HX
       generalize tRun H R i 17 = u at *
       go_wp2_with fail
       go_roundw
       case rel => exact ⟨i + 1, by omega, by go_num, H1.out.far (by simp; omega) _, H2.out.far (by simp; omega) _, H3.out.far (by simp) _, by rw [HL1.out]; exact H4.out.seti i _, Below.setCell HE.out (by have := HAW.out; simp; omega) _⟩
       case measure => simp [intOf]; omega
  ·have hi17 : i = 17 := by omega
   subst hi17
   have HLE := jh (tList_le HH.out HR.out)
   have HTL := jh (zeg H R 17)
   have HCAR := jh (fun w => carried17_any (tList H R 17) w HTL.out (fun i => ⟨(HLE.out i).1, Int.le_trans (HLE.out i).2 (by decide)⟩))
   have HQL : Hid ((qThree (tList H R 17)).length = 17) := jh (by rw [← qN_three, qN_length]; exact HTL.out)
   have HI0 := jh (zen HTL.out)
   have HI3 := jh (zen HQL.out)
   generalize hx : tList H R 17 = x at *
   have HXE := jh hx
   clear hx
   have HLo : Hid ((ints .i64 (qThree x)).length = (ints .i64 (List.replicate 17 0)).length) := jh (by rw [zad, HQL.out, zad, List.length_replicate])
   go_wp2_with (refine zab rfl _ _ rfl (A + 1 + 1 + 1) rfl _ _ _ _ H4.out Tryz.underlying125 HI0.out ?_)
   refine (HCAR.out wr).mono ?_
   rintro e w1 ⟨rfl, hb⟩
   have H3 := jh (zaa H3.out hb)
   have HE := jh (HE.out.trans hb)
   clear hb
   go_wp2_with (refine zac rfl _ _ _ rfl (A + 1 + 1) (ints .i64 (qThree x)) rfl rfl _ _ H3.out HLo.out HI3.out (zai _ _) ?_; intro w9 hb9 hg9)
   refine bodyPost_ret (zap rfl _ (A + 1 + 1) _ _ _ _ rfl hb9 Tryz.underlying125 HI3.out) rfl ?_
   exact ⟨by rw [HXE.out], zae HE.out hg9 (by have := HAW.out; omega)⟩
theorem whole17_any (H : List Int) (w : World) (hc : Can17 H) :
  Calls Tryz.prog 90 #[.agg (ints .i64 H).toArray] w fun e w' => e = .returned (.agg (ints .i64 (wOut (qThree H))).toArray) ∧ Below w.heap.size w w' := by
 have HL := jh hc.1
 have HCAR := jh (fun w => carried17_any H w hc.1 (can17_le hc))
 have HC3 := jh (can17_three hc).1
 have HB := jh (boxes2 w (ints .i64 H) (ints .i64 (List.replicate 17 0)) 125 125)
 have HI0 := jh (zen hc.1)
 have HI3 := jh (zen (can17_three hc).1.1)
 have HLH : Hid ((ints .i64 (qThree H)).length = (ints .i64 H).length) := jh (by rw [zad, zad, (can17_three hc).1.1, hc.1])
 clear hc
 go_enter Tryz.func90, Tryz.ntmps90
 go_upto_region 1 with (fail)
 obtain ⟨H1, H2, HE⟩ := HB.out
 change Code.wp _ _ _ _ ((w.alloc (.cells (ints .i64 H).toArray 125)).alloc (.cells (ints .i64 (List.replicate 17 0)).toArray 125))
 generalize (w.alloc (.cells (ints .i64 H).toArray 125)).alloc (.cells (ints .i64 (List.replicate 17 0)).toArray 125) = wa at *
 obtain ⟨A, hA⟩ : ∃ A, A = w.heap.size := ⟨_, rfl⟩
 have HAW : Hid (w.heap.size ≤ A) := jh (by omega)
 rw [← hA] at H1 H2 ⊢
 have H1 := jh H1
 have H2 := jh H2
 have HE : Hid (Ext w wa) := jh HE
 clear hA HB
 go_wp2_with (refine zab rfl _ _ rfl A rfl _ _ _ _ H1.out Tryz.underlying125 HI0.out ?_)
 refine (HCAR.out wa).mono ?_
 rintro e w1 ⟨rfl, hb⟩
 have H1 := jh (zaa H1.out hb)
 have H2 := jh (zaa H2.out hb)
 have HE := jh (HE.out.trans hb)
 clear hb HCAR
 generalize hqh : qThree H = h at *
 have HQH := jh hqh
 clear hqh
 go_upto_region 2 with (refine zac rfl _ _ _ rfl A (ints .i64 h) rfl rfl _ _ H1.out HLH.out HI3.out (zai _ _) ?_; intro w2 hb2 hg2)
 have H2 := jh (H2.out.grown hg2 (fun e => by have h := Option.some.inj e; omega))
 have HE := jh (zae HE.out hg2 HAW.out)
 have H1 := jh hb2
 clear hb2 hg2
 obtain ⟨G, hG⟩ : ∃ G, G = w2.heap.size := ⟨_, rfl⟩
 have HGA : Hid (A + 1 < G) := jh (by have := H2.out.lt; omega)
 have HZ := jh (Blk.made w2 (ints .i64 (List.replicate 17 0)) 125)
 have HXA := Ext.alloc w2 (.cells (ints .i64 (List.replicate 17 0)).toArray 125)
 have H1a := jh (zaa H1.out HXA)
 have H2a := jh (zaa H2.out HXA)
 have HEa := jh (HE.out.trans HXA)
 have HS := jh HE.out.size
 have HLZ : Hid ((ints .i64 h).length = (ints .i64 (List.replicate 17 0)).length) := jh (by rw [zad, HC3.out.1, zad, List.length_replicate])
 clear HXA
 go_upto_region 3 with (first | (refine zab rfl _ _ rfl A rfl _ _ _ _ H1.out Tryz.underlying125 HI3.out ?_) | (refine zac rfl _ _ _ rfl w2.heap.size (ints .i64 h) rfl rfl _ _ HZ.out HLZ.out HI3.out (zai _ _) ?_; intro w3 hb3 hg3))
 have H1 := jh (H1a.out.grown hg3 (fun e => by have h := Option.some.inj e; have := HGA.out; omega))
 have H2 := jh (H2a.out.grown hg3 (fun e => by have h := Option.some.inj e; have := HGA.out; omega))
 have HE := jh (zae HEa.out hg3 HS.out)
 have H3 := jh hb3
 have HGW : Hid (w.heap.size ≤ G) := jh (by rw [hG]; exact HS.out)
 rw [← hG] at H3 ⊢
 clear hb3 hg3 hG HZ H1a H2a HEa HS
 go_wp2_with fail
 go_loopw [4, 5] (fun uv iv wr => ∃ (i : Nat), i ≤ 17 ∧ uv = .int .i64 (wRun h i).2 ∧ iv = .int .i64 (i : Int) ∧ Blk wr A (ints .i64 h) 125 ∧ Blk wr (A + 1) (ints .i64 (List.replicate 17 0)) 125 ∧ Blk wr G (ints .i64 (wRun h i).1) 125 ∧ Ext w wr) (fun _ iv _ => 17 - (intOf iv).toNat)
 case atStart => exact ⟨0, by omega, rfl, rfl, H1.out, H2.out, H3.out, HE.out⟩
 case round =>
  clear H1 H2 H3 HE
  obtain ⟨i, hi, rfl, rfl, hb1, hb2, hb3, hbel⟩ := hrel
  have i0 : (0 : Int) ≤ (i : Int) := Int.natCast_nonneg _
  have hrl : (wRun h i).1.length = 17 := by rw [wRun_length]; exact HC3.out.1
  obtain ⟨hu0, hu1⟩ := wRun_u h HC3.out.digit i
  have H1 := jh hb1
  have H2 := jh hb2
  have H3 := jh hb3
  have HE := jh hbel
  by_cases hli : i < 17
  ·have i1 : (i : Int) < 17 := by omega
   have c1 := zbs hb3 (i := i) (by rw [hrl]; omega)
   have f1 := hb3.free i
   have hz := HC3.out.digit i
   have hfar := wRun_far h i i (Nat.le_refl _)
   have HS1 : Hid ((wRun h (i + 1)).1 = (wRun h i).1.set i (((wRun h i).2 + (wRun h i).1.getD i 0) % 256)) := jh rfl
   have HS2 : Hid ((wRun h (i + 1)).2 = ((wRun h i).2 + (wRun h i).1.getD i 0) / 256) := jh rfl
   rw [← hfar] at hz
   clear hb1 hb2 hb3 hbel hfar
   generalize (wRun h i).1.getD i 0 = z at *
   generalize (wRun h i).2 = u at *
   obtain ⟨z0, z1⟩ := hz
   have a1 := and_i64_255 (u + z) (by omega) (by omega)
   go_wp2_with fail
   go_roundw
   case rel =>
    refine ⟨i + 1, by omega, by rw [HS2.out], by go_num, H1.out.far (by have := HGA.out; simp; omega) _, H2.out.far (by have := HGA.out; simp; omega) _, ?_, Below.setCell HE.out (by have := HGW.out; simp; omega) _⟩
    rw [HS1.out]
    exact H3.out.seti i _
   case measure => simp [intOf]; omega
  ·have hi17 : i = 17 := by omega
   subst hi17
   have c1 := zbs hb3 (i := 16) (by rw [hrl]; omega)
   have f1 := hb3.free 16
   have hsm := wRun_small h HC3.out.1 17 (Nat.le_refl _) 16 (by omega)
   have HW : Hid (wOut h = if 4 ≤ (wRun h 17).1.getD 16 0 then (wRun h 17).1.set 16 ((wRun h 17).1.getD 16 0 - 4) else h) := jh rfl
   have HWL := jh (wOut_length HC3.out)
   clear hb1 hb2 hb3 hbel
   have HRL := jh hrl
   generalize (wRun h 17).1 = rr at *
   clear hu0 hu1
   generalize (wRun h 17).2 = u at *
   have HGS : Hid (∀ z : Int, Blk (wr.setCell ⟨G, 16, none⟩ (.int .i64 z)) G (ints .i64 (rr.set 16 z)) 125) := jh (fun z => H3.out.seti 16 z)
   generalize hzz : rr.getD 16 0 = z at *
   obtain ⟨z0, z1⟩ := hsm
   by_cases h4 : 4 ≤ z
   ·have hw : wOut h = rr.set 16 (z - 4) := by rw [HW.out, if_pos h4]
    obtain ⟨o, ho⟩ : ∃ o, o = wOut h := ⟨_, rfl⟩
    have HO := jh ho
    have HG := jh (HGS.out (z - 4))
    rw [← hw, ← ho] at HG
    rw [← ho] at HWL
    have H2n := jh (H2.out.far (a := ⟨G, 16, none⟩) (by have := HGA.out; simp; omega) (.int .i64 (z - 4)))
    have HEn : Hid (Ext w (wr.setCell ⟨G, 16, none⟩ (.int .i64 (z - 4)))) := jh (Below.setCell HE.out (by have := HGW.out; simp; omega) _)
    have HIo := jh (zen HWL.out)
    have HLo : Hid ((ints .i64 o).length = (ints .i64 (List.replicate 17 0)).length) := jh (by rw [zad, HWL.out, zad, List.length_replicate])
    clear hw ho hzz
    go_wp2_with (first | (refine zab rfl _ _ rfl G rfl _ _ _ _ HG.out Tryz.underlying125 HIo.out ?_) | (refine zac rfl _ _ _ rfl (A + 1) (ints .i64 o) rfl rfl _ _ H2n.out HLo.out HIo.out (zai _ _) ?_; intro w9 hb9 hg9))
    refine bodyPost_ret (zap rfl _ (A + 1) _ _ _ _ rfl hb9 Tryz.underlying125 HIo.out) rfl ?_
    exact ⟨by rw [HQH.out, HO.out], zae HEn.out hg9 (by have := HAW.out; omega)⟩
   ·have hw : wOut h = h := by rw [HW.out, if_neg h4]
    have HO := jh hw
    have z3 : z < 4 := by omega
    clear hw hzz
    go_wp2_with (first | (refine zab rfl _ _ rfl A rfl _ _ _ _ H1.out Tryz.underlying125 HI3.out ?_) | (refine zac rfl _ _ _ rfl (A + 1) (ints .i64 h) rfl rfl _ _ H2.out HLZ.out HI3.out (zai _ _) ?_; intro w9 hb9 hg9))
    refine bodyPost_ret (zap rfl _ (A + 1) _ _ _ _ rfl hb9 Tryz.underlying125 HI3.out) rfl ?_
    exact ⟨by rw [HQH.out, HO.out], zae HE.out hg9 (by have := HAW.out; omega)⟩
theorem rPoly_any (kb b : List UInt8) (bv : Value) (w : World) (hk : kb.length = 32) (hb : Row1 w bv (b.map bval)) (hbl : b.length ≤ 1099511627776) :
  Calls Tryz.prog 58 #[.agg (kb.map bval).toArray, bv] w fun e w' => e = .returned (.agg ((polyTag kb b).map bval).toArray) ∧ Below w.heap.size w w' := by
 have HKL := jh hk
 have HBL := jh hbl
 have HR := jh hb
 obtain ⟨ab, cb, rfl, r1, r2, _, r4⟩ := id hb
 rw [List.length_map] at r1 HR ⊢
 unfold maxLen at r2
 have HC := jh r4
 have HB := jh (boxes4 w (kb.map bval) (ints .u8 (List.replicate 16 0)) (ints .i64 (List.replicate 17 0)) (ints .i64 (List.replicate 17 0)) 23 53 125 125)
 clear hk hb hbl r4
 go_enter Tryz.func58, Tryz.ntmps58
 go_upto_region 3 with (fail)
 obtain ⟨H1, H2, H3, H4, HE⟩ := HB.out
 change Code.wp _ _ _ _ ((((w.alloc (.cells (kb.map bval).toArray 23)).alloc (.cells (ints .u8 (List.replicate 16 0)).toArray 53)).alloc (.cells (ints .i64 (List.replicate 17 0)).toArray 125)).alloc (.cells (ints .i64 (List.replicate 17 0)).toArray 125))
 generalize (((w.alloc (.cells (kb.map bval).toArray 23)).alloc (.cells (ints .u8 (List.replicate 16 0)).toArray 53)).alloc (.cells (ints .i64 (List.replicate 17 0)).toArray 125)).alloc (.cells (ints .i64 (List.replicate 17 0)).toArray 125) = wa at *
 obtain ⟨A, hA⟩ : ∃ A, A = w.heap.size := ⟨_, rfl⟩
 have HAW : Hid (w.heap.size ≤ A) := jh (by omega)
 rw [← hA] at H1 H2 H3 H4 ⊢
 have H1 := jh H1
 have H2 := jh H2
 have H3 : Hid (Blk wa (A + 1 + 1) (ints .i64 (rA kb 0)) 125) := jh H3
 have H4 := jh H4
 have HE : Hid (Ext w wa) := jh HE
 clear hA HB
 go_wp2_with fail
 go_loopw [7] (fun iv wr => ∃ (k : Nat), k ≤ 16 ∧ iv = .int .i64 ((k : Int)) ∧ Blk wr A (kb.map bval) 23 ∧ Blk wr (A + 1) (ints .u8 (List.replicate 16 0)) 53 ∧ Blk wr (A + 1 + 1) (ints .i64 (rA kb k)) 125 ∧ Blk wr (A + 1 + 1 + 1) (ints .i64 (List.replicate 17 0)) 125 ∧ Ext w wr) (fun iv _ => 16 - (intOf iv).toNat)
 case atStart => exact ⟨0, by omega, rfl, H1.out, H2.out, H3.out, H4.out, HE.out⟩
 case round =>
  clear H1 H2 H3 H4 HE
  obtain ⟨k, hk, rfl, hb1, hb2, hb3, hb4, hbel⟩ := hrel
  have k0 : (0 : Int) ≤ (k : Int) := Int.natCast_nonneg _
  have H1 := jh hb1
  have H2 := jh hb2
  have H3 := jh hb3
  have H4 := jh hb4
  have HE := jh hbel
  by_cases hlk : k < 16
  ·have k1 : (k : Int) < 16 := by omega
   have k2 : (k : Int) < 32 := by omega
   have k3 : (k : Int) < 17 := by omega
   have c1 := hb1.cell k
   rw [zbb (by rw [HKL.out]; omega)] at c1
   have c2 := zbs hb3 (i := k) (by rw [rA_length]; omega)
   have f2 := hb3.free k
   have HS : Hid (rA kb (k + 1) = (rA kb k).set k ((kb.getD k 0).toNat : Int)) := jh rfl
   have y0 := (kb.getD k 0).toNat_lt
   clear hb1 hb2 hb3 hb4 hbel
   change wr.cell? ⟨A, k, none⟩ = some (.int .u8 ((kb.getD k 0).toNat : Int)) at c1
   generalize (kb.getD k 0).toNat = y at *
   have y1 : (y : Int) ≤ 255 := by omega
   have y2 : (0 : Int) ≤ (y : Int) := by omega
   go_wp2_with fail
   go_roundw
   case rel => exact ⟨k + 1, by omega, by go_num, H1.out.far (by simp; omega) _, H2.out.far (by simp) _, by rw [HS.out]; exact H3.out.seti k _, H4.out.far (by simp) _, Below.setCell HE.out (by have := HAW.out; simp; omega) _⟩
   case measure => simp [intOf]; omega
  ·have hk16 : k = 16 := by omega
   subst hk16
   rw [show ((16 : Nat) : Int) = 16 from rfl]
   clear hb1 hb2 hb3 hb4 hbel
   have H3 : Hid (Blk wr (A + 1 + 1) (ints .i64 (rB kb 0)) 125) := jh H3.out
   go_wp2_with fail
   go_loopw [8] (fun iv wr => ∃ (k : Nat), k ≤ 4 ∧ iv = .int .i64 (3 + 4 * (k : Int)) ∧ Blk wr A (kb.map bval) 23 ∧ Blk wr (A + 1) (ints .u8 (List.replicate 16 0)) 53 ∧ Blk wr (A + 1 + 1) (ints .i64 (rB kb k)) 125 ∧ Blk wr (A + 1 + 1 + 1) (ints .i64 (List.replicate 17 0)) 125 ∧ Ext w wr) (fun iv _ => 20 - (intOf iv).toNat)
   case atStart => exact ⟨0, by omega, rfl, H1.out, H2.out, H3.out, H4.out, HE.out⟩
   case round =>
    clear H1 H2 H3 H4 HE
    obtain ⟨k, hk, rfl, hb1, hb2, hb3, hb4, hbel⟩ := hrel
    have k0 : (0 : Int) ≤ (k : Int) := Int.natCast_nonneg _
    have H1 := jh hb1
    have H2 := jh hb2
    have H3 := jh hb3
    have H4 := jh hb4
    have HE := jh hbel
    by_cases hlk : k < 4
    ·have k1 : 3 + 4 * (k : Int) < 16 := by omega
     have k2 : (0 : Int) ≤ 3 + 4 * (k : Int) := by omega
     have k3 : 3 + 4 * (k : Int) < 17 := by omega
     have kn : (3 + 4 * (k : Int)).toNat = 3 + 4 * k := by omega
     have c1 := zbs hb3 (i := 3 + 4 * k) (by rw [rB_length]; omega)
     have f1 := hb3.free (3 + 4 * k)
     have hd := rB_digit kb k (3 + 4 * k) (by omega)
     have HS : Hid (rB kb (k + 1) = (rB kb k).set (3 + 4 * k) ((rB kb k).getD (3 + 4 * k) 0 % 16)) := jh rfl
     clear hb1 hb2 hb3 hb4 hbel
     generalize hz : (rB kb k).getD (3 + 4 * k) 0 = z at *
     clear hz
     obtain ⟨z0, z1⟩ := hd
     have a1 := and_i64_15 z (by omega) (by omega)
     go_wp2_with fail
     go_roundw
     case rel => exact ⟨k + 1, by omega, by go_num, H1.out.far (by simp; omega) _, H2.out.far (by simp) _, by rw [HS.out]; exact H3.out.seti _ _, H4.out.far (by simp) _, Below.setCell HE.out (by have := HAW.out; simp; omega) _⟩
     case measure => simp [intOf]; omega
    ·have hk4 : k = 4 := by omega
     subst hk4
     rw [show ((4 : Nat) : Int) = 4 from rfl]
     rw [show (3 : Int) + 4 * 4 = 19 from rfl]
     clear hb1 hb2 hb3 hb4 hbel
     have H3 : Hid (Blk wr (A + 1 + 1) (ints .i64 (rC kb 0)) 125) := jh H3.out
     go_wp2_with fail
     go_loopw [9] (fun iv wr => ∃ (k : Nat), k ≤ 3 ∧ iv = .int .i64 (4 + 4 * (k : Int)) ∧ Blk wr A (kb.map bval) 23 ∧ Blk wr (A + 1) (ints .u8 (List.replicate 16 0)) 53 ∧ Blk wr (A + 1 + 1) (ints .i64 (rC kb k)) 125 ∧ Blk wr (A + 1 + 1 + 1) (ints .i64 (List.replicate 17 0)) 125 ∧ Ext w wr) (fun iv _ => 20 - (intOf iv).toNat)
     case atStart => exact ⟨0, by omega, rfl, H1.out, H2.out, H3.out, H4.out, HE.out⟩
     case round =>
      clear H1 H2 H3 H4 HE
      obtain ⟨k, hk, rfl, hb1, hb2, hb3, hb4, hbel⟩ := hrel
      have k0 : (0 : Int) ≤ (k : Int) := Int.natCast_nonneg _
      have H1 := jh hb1
      have H2 := jh hb2
      have H3 := jh hb3
      have H4 := jh hb4
      have HE := jh hbel
      by_cases hlk : k < 3
      ·have k1 : 4 + 4 * (k : Int) < 16 := by omega
       have k2 : (0 : Int) ≤ 4 + 4 * (k : Int) := by omega
       have k3 : 4 + 4 * (k : Int) < 17 := by omega
       have kn : (4 + 4 * (k : Int)).toNat = 4 + 4 * k := by omega
       have c1 := zbs hb3 (i := 4 + 4 * k) (by rw [zdw]; omega)
       have f1 := hb3.free (4 + 4 * k)
       have hd := rC_digit kb k (4 + 4 * k) (by omega)
       have HS : Hid (rC kb (k + 1) = (rC kb k).set (4 + 4 * k) ((rC kb k).getD (4 + 4 * k) 0 / 4 * 4)) := jh rfl
       clear hb1 hb2 hb3 hb4 hbel
       generalize hz : (rC kb k).getD (4 + 4 * k) 0 = z at *
       clear hz
       obtain ⟨z0, z1⟩ := hd
       have a1 := and_i64_252 z z0 z1
       go_wp2_with fail
       go_roundw
       case rel => exact ⟨k + 1, by omega, by go_num, H1.out.far (by simp; omega) _, H2.out.far (by simp) _, by rw [HS.out]; exact H3.out.seti _ _, H4.out.far (by simp) _, Below.setCell HE.out (by have := HAW.out; simp; omega) _⟩
       case measure => simp [intOf]; omega
      ·have hk3 : k = 3 := by omega
       subst hk3
       rw [show ((3 : Nat) : Int) = 3 from rfl]
       rw [show (4 : Int) + 4 * 3 = 16 from rfl]
       clear hb1 hb2 hb3 hb4 hbel
       clear hk k0 hlk
       have HRL := jh (zdw kb 3)
       have HRD := jh (fun i => rC_digit kb 3 i (by omega))
       have HRV := jh (rC_val kb)
       generalize rC kb 3 = r at *
       go_wp2_with fail
       go_loopw [10] (fun iv wr => ∃ (n f : Nat) (Hn : List Int), f = 16 * n ∧ n ≤ (b.length + 15) / 16 ∧ iv = .int .i64 (f : Int) ∧ Can17 Hn ∧ gV 256 Hn % (pQ : Int) = pAcc (pR kb) b n ∧ Blk wr A (kb.map bval) 23 ∧ Blk wr (A + 1) (ints .u8 (List.replicate 16 0)) 53 ∧ Blk wr (A + 1 + 1) (ints .i64 (r)) 125 ∧ Blk wr (A + 1 + 1 + 1) (ints .i64 (Hn)) 125 ∧ Ext w wr) (fun iv _ => b.length + 16 - (intOf iv).toNat)
       case atStart => exact ⟨0, 0, _, rfl, by omega, rfl, can17_zero, by rw [gV_zeros]; rfl, H1.out, H2.out, H3.out, H4.out, HE.out⟩
       case round =>
        clear H1 H2 H3 H4 HE
        obtain ⟨n, f, Hn, hf, hn, rfl, hcan, hacc, hb1, hb2, hb3, hb4, hbel⟩ := hrel
        have f0 : (0 : Int) ≤ (f : Int) := Int.natCast_nonneg _
        have HF := jh hf
        have HN := jh hn
        have HCAN := jh hcan
        have HACC := jh hacc
        have H1 := jh hb1
        have H2 := jh hb2
        have H3 := jh hb3
        have H4 := jh hb4
        have HE := jh hbel
        clear hf hn hcan hacc hb1 hb2 hb3 hb4 hbel
        by_cases hlf : f < b.length
        ·have f1 : (f : Int) < (b.length : Int) := by omega
         have HXA := Ext.alloc wr (.cells (ints .i64 (List.replicate 17 0)).toArray 125)
         obtain ⟨C, hC⟩ : ∃ C, C = wr.heap.size := ⟨_, rfl⟩
         have HCA : Hid (A + 1 + 1 + 1 < C) := jh (by have := H4.out.lt; omega)
         have H5 : Hid (Blk (wr.alloc (.cells (ints .i64 (List.replicate 17 0)).toArray 125)) C (ints .i64 (cA b n 0)) 125) := jh (by rw [hC]; exact Blk.made wr (ints .i64 (List.replicate 17 0)) 125)
         have H1 := jh (zaa H1.out HXA)
         have H2 := jh (zaa H2.out HXA)
         have H3 := jh (zaa H3.out HXA)
         have H4 := jh (zaa H4.out HXA)
         have HE := jh (HE.out.trans HXA)
         clear HXA
         go_upto_region 19 with (fail)
         change Code.wp _ _ _ _ (wr.alloc (.cells (ints .i64 (List.replicate 17 0)).toArray 125))
         rw [← hC]
         clear hC
         generalize wr.alloc (.cells (ints .i64 (List.replicate 17 0)).toArray 125) = wc at *
         go_upto_if 59 with (fail)
         obtain ⟨m, hm⟩ : ∃ m, m = min 16 (b.length - f) := ⟨_, rfl⟩
         go_cut [12] from 54 to 59 (fun v wq => v = .int .i64 (m : Int) ∧ wq = wc)
         case first =>
          by_cases h16 : 16 < b.length - f
          ·have g1 : (16 : Int) < (b.length : Int) - (f : Int) := by omega
           have hm16 : m = 16 := by omega
           go_wp2_with fail
           go_meet
           exact ⟨by rw [hm16]; rfl, rfl⟩
          ·have g1 : ¬ (16 : Int) < (b.length : Int) - (f : Int) := by omega
           have hm16 : (m : Int) = (b.length : Int) - (f : Int) := by omega
           go_wp2_with fail
           go_meet
           exact ⟨by rw [hm16], rfl⟩
         case rest =>
          obtain ⟨rfl, rfl⟩ := hcut
          have m0 : (0 : Int) ≤ (m : Int) := Int.natCast_nonneg _
          have HM : Hid (m = min 16 (b.length - 16 * n)) := jh (by rw [hm, HF.out])
          have m1 : m ≤ 16 := by omega
          have hfm : f + m ≤ b.length := by omega
          clear hm
          obtain ⟨g, og, rfl, hgs, hgc⟩ := HC.out (by intro e; have h := congrArg List.length e; rw [List.length_map] at h; simp only [List.length_nil] at h; omega)
          have HGS := jh hgs
          have HGC := jh hgc
          clear hgs hgc
          go_wp2_with fail
          go_loopw [13] (fun iv wr => ∃ (i : Nat), i ≤ m ∧ iv = .int .i64 (i : Int) ∧ Blk wr C (ints .i64 (cA b n i)) 125 ∧ Blk wr A (kb.map bval) 23 ∧ Blk wr (A + 1) (ints .u8 (List.replicate 16 0)) 53 ∧ Blk wr (A + 1 + 1) (ints .i64 (r)) 125 ∧ Blk wr (A + 1 + 1 + 1) (ints .i64 (Hn)) 125 ∧ Ext w wr) (fun iv _ => m - (intOf iv).toNat)
          case atStart => exact ⟨0, by omega, rfl, H5.out, H1.out, H2.out, H3.out, H4.out, HE.out⟩
          case round =>
           clear H1 H2 H3 H4 H5 HE
           obtain ⟨i, hi, rfl, hb5, hb1, hb2, hb3, hb4, hbel⟩ := hrel
           have i0 : (0 : Int) ≤ (i : Int) := Int.natCast_nonneg _
           have H1 := jh hb1
           have H2 := jh hb2
           have H3 := jh hb3
           have H4 := jh hb4
           have H5 := jh hb5
           have HE := jh hbel
           by_cases hlm : i < m
           ·have i1 : (i : Int) < (m : Int) := by omega
            have i2 : (i : Int) < 17 := by omega
            obtain ⟨q, hq⟩ : ∃ q, q = f + i := ⟨_, rfl⟩
            have hql : q < b.length := by omega
            have q1 : (f : Int) + (i : Int) = (q : Int) := by omega
            have q2 : (q : Int) < (b.length : Int) := by omega
            have q3 : (0 : Int) ≤ (q : Int) := by omega
            have c1 : wr.cell? ⟨g, og + q, none⟩ = some (.int .u8 ((b.getD q 0).toNat : Int)) := by
             have h := HGC.out q (by rw [List.length_map]; exact hql)
             rw [zbb hql] at h
             rw [← h]
             exact HE.out.cell (p := ⟨g, og + q, none⟩) HGS.out
            have c2 := zbs hb5 (i := i) (by rw [cA_length]; omega)
            have f2 := hb5.free i
            have HS : Hid (cA b n (i + 1) = (cA b n i).set i ((b.getD q 0).toNat : Int)) := jh (by rw [hq, HF.out]; rfl)
            have y0 := (b.getD q 0).toNat_lt
            clear hb1 hb2 hb3 hb4 hb5 hbel hq
            generalize (b.getD q 0).toNat = y at *
            have y1 : (y : Int) ≤ 255 := by omega
            have y2 : (0 : Int) ≤ (y : Int) := by omega
            go_wp2_with fail
            go_roundw
            case rel => exact ⟨i + 1, by omega, by go_num, by rw [HS.out]; exact H5.out.seti i _, H1.out.far (by have := HCA.out; simp; omega) _, H2.out.far (by have := HCA.out; simp; omega) _, H3.out.far (by have := HCA.out; simp; omega) _, H4.out.far (by have := HCA.out; simp; omega) _, Below.setCell HE.out (by have := HAW.out; have := HCA.out; simp; omega) _⟩
            case measure => simp [intOf]; omega
           ·have him : i = m := by omega
            subst him
            clear hb1 hb2 hb3 hb4 hb5 hbel
            have i3 : (i : Int) < 17 := by omega
            have c2 := zbs H5.out (i := i) (by rw [cA_length]; omega)
            have f2 := H5.out.free i
            obtain ⟨cc, hcc⟩ : ∃ cc, cc = (cA b n i).set i 1 := ⟨_, rfl⟩
            have HCC : Hid (gV 256 cc = pBlk b n) := jh (by
             rw [hcc]
             have h := gV_blk b n (by have := HF.out; omega)
             rw [← HM.out] at h
             exact h)
            have HCL : Hid (cc.length = 17) := jh (by rw [hcc, List.length_set, cA_length])
            have HCD := jh (show ∀ j, 0 ≤ cc.getD j 0 ∧ cc.getD j 0 ≤ 255 from fun j => by rw [hcc]; exact blk_digit b n i m1 j)
            have H5n : Hid (Blk (wr.setCell ⟨C, i, none⟩ (.int .i64 1)) C (ints .i64 cc) 125) := jh (by rw [hcc]; exact H5.out.seti i 1)
            have H1n := jh (H1.out.far (a := ⟨C, i, none⟩) (by have := HCA.out; simp; omega) (.int .i64 1))
            have H2n := jh (H2.out.far (a := ⟨C, i, none⟩) (by have := HCA.out; simp; omega) (.int .i64 1))
            have H3n := jh (H3.out.far (a := ⟨C, i, none⟩) (by have := HCA.out; simp; omega) (.int .i64 1))
            have H4n : Hid (Blk (wr.setCell ⟨C, i, none⟩ (.int .i64 1)) (A + 1 + 1 + 1) (ints .i64 (sA Hn cc 0)) 125) := jh (H4.out.far (a := ⟨C, i, none⟩) (by have := HCA.out; simp; omega) (.int .i64 1))
            have HEn : Hid (Ext w (wr.setCell ⟨C, i, none⟩ (.int .i64 1))) := jh (Below.setCell HE.out (by have := HAW.out; have := HCA.out; simp; omega) _)
            go_upto_region 27 with (fail)
            clear H1 H2 H3 H4 H5 HE c2 f2 hcc
            generalize wr.setCell ⟨C, i, none⟩ (.int .i64 1) = wd at *
            go_wp2_with fail
            go_loopw [14] (fun iv wr => ∃ (j : Nat), j ≤ 17 ∧ iv = .int .i64 (j : Int) ∧ Blk wr C (ints .i64 cc) 125 ∧ Blk wr A (kb.map bval) 23 ∧ Blk wr (A + 1) (ints .u8 (List.replicate 16 0)) 53 ∧ Blk wr (A + 1 + 1) (ints .i64 (r)) 125 ∧ Blk wr (A + 1 + 1 + 1) (ints .i64 (sA Hn cc j)) 125 ∧ Ext w wr) (fun iv _ => 17 - (intOf iv).toNat)
            case atStart => exact ⟨0, by omega, rfl, H5n.out, H1n.out, H2n.out, H3n.out, H4n.out, HEn.out⟩
            case round =>
             clear H1n H2n H3n H4n H5n HEn
             obtain ⟨j, hj, rfl, hb5, hb1, hb2, hb3, hb4, hbel⟩ := hrel
             have j0 : (0 : Int) ≤ (j : Int) := Int.natCast_nonneg _
             have H1 := jh hb1
             have H2 := jh hb2
             have H3 := jh hb3
             have H4 := jh hb4
             have H5 := jh hb5
             have HE := jh hbel
             have HSL : Hid ((sA Hn cc j).length = 17) := jh (by rw [sA_length]; exact HCAN.out.1)
             by_cases hlj : j < 17
             ·have j1 : (j : Int) < 17 := by omega
              have c1 := zbs hb4 (i := j) (by rw [HSL.out]; omega)
              have c2 := zbs hb5 (i := j) (by rw [HCL.out]; omega)
              have f1 := hb4.free j
              have hd1 := sA_digit Hn cc HCAN.out.1 (can17_255 HCAN.out) HCD.out j j
              have hd2 := HCD.out j
              have HS : Hid (sA Hn cc (j + 1) = (sA Hn cc j).set j ((sA Hn cc j).getD j 0 + cc.getD j 0)) := jh rfl
              clear hb1 hb2 hb3 hb4 hb5 hbel
              generalize (sA Hn cc j).getD j 0 = y at *
              generalize cc.getD j 0 = z at *
              obtain ⟨y0, y1⟩ := hd1
              obtain ⟨z0, z1⟩ := hd2
              go_wp2_with fail
              go_region
              go_wp2_with fail
              go_roundw
              case rel => exact ⟨j + 1, by omega, by go_num, H5.out.far (by have := HCA.out; simp; omega) _, H1.out.far (by simp; omega) _, H2.out.far (by simp; omega) _, H3.out.far (by simp) _, by rw [HS.out]; exact H4.out.seti j _, Ext.trans (b := wr.setCell ⟨A + 1 + 1 + 1, j, none⟩ (.int .i64 (y + z))) (Below.setCell HE.out (by have := HAW.out; simp; omega) _) (Ext.drew _)⟩
              case measure => simp [intOf]; omega
             ·have hj17 : j = 17 := by omega
              subst hj17
              rw [show ((17 : Nat) : Int) = 17 from rfl]
              clear hb1 hb2 hb3 hb4 hb5 hbel
              have HSD := jh (sA_digit Hn cc HCAN.out.1 (can17_255 HCAN.out) HCD.out 17)
              have HSV := jh (sA_full Hn cc HCAN.out.1 HCL.out)
              generalize sA Hn cc 17 = s at *
              have HMUL := jh (mul17 HSL.out HRL.out HSD.out HRD.out)
              have HTIM := jh (fun w => times17_any s r w HSL.out HRL.out HSD.out HRD.out)
              generalize qThree (tList s r 17) = Hm at *
              have HIs := jh (zen HSL.out)
              have HIr := jh (zen HRL.out)
              have HIm := jh (zen HMUL.out.1.1)
              have HLm : Hid ((ints .i64 Hm).length = (ints .i64 s).length) := jh (by rw [zad, zad, HMUL.out.1.1, HSL.out])
              go_wp2_with (first | (refine zab rfl _ _ rfl (A + 1 + 1 + 1) rfl _ _ _ _ H4.out Tryz.underlying125 HIs.out ?_) | (refine zab rfl _ _ rfl (A + 1 + 1) rfl _ _ _ _ H3.out Tryz.underlying125 HIr.out ?_))
              refine (HTIM.out wr).mono ?_
              rintro e w5 ⟨rfl, hb⟩
              have H1 := jh (zaa H1.out hb)
              have H2 := jh (zaa H2.out hb)
              have H3 := jh (zaa H3.out hb)
              have H4 := jh (zaa H4.out hb)
              have HE := jh (HE.out.trans hb)
              clear hb HTIM
              have f63 : (f : Int) + 16 ≤ 9223372036854775807 := by have := HBL.out; omega
              go_wp2_with (refine zac rfl _ _ _ rfl (A + 1 + 1 + 1) (ints .i64 Hm) rfl rfl _ _ H4.out HLm.out HIm.out (zai _ _) ?_; intro w6 hb6 hg6)
              go_roundw
              case rel =>
               refine ⟨n + 1, f + 16, Hm, by have := HF.out; omega, by have := HF.out; omega, by go_num, HMUL.out.1, ?_, H1.out.grown hg6 (fun e => by have h := Option.some.inj e; omega), H2.out.grown hg6 (fun e => by have h := Option.some.inj e; omega), H3.out.grown hg6 (fun e => by have h := Option.some.inj e; omega), hb6, zae HE.out hg6 (by have := HAW.out; omega)⟩
               rw [HMUL.out.2, HSV.out, HCC.out, HRV.out]
               show _ = (pAcc (pR kb) b n + pBlk b n) * pR kb % (pQ : Int)
               rw [← HACC.out, Int.mul_emod, Int.add_emod, Int.emod_add_emod]
               rw [Int.mul_emod ((gV 256 Hn % (pQ : Int) + pBlk b n)), Int.emod_add_emod]
               simp
              case measure => simp [intOf]; omega
        ·have hnn : n = (b.length + 15) / 16 := by have := HF.out; have := HN.out; omega
         have HNUM : Hid (pAcc (pR kb) b n = pNum kb b) := jh (by rw [hnn]; rfl)
         have HC3 := jh (can17_three HCAN.out)
         have HWV := jh (wOut_val (can17_three HCAN.out).1)
         have HWH := jh (fun w => whole17_any Hn w HCAN.out)
         have HI0 := jh (zen HCAN.out.1)
         clear hnn
         go_wp2_with (refine zab rfl _ _ rfl (A + 1 + 1 + 1) rfl _ _ _ _ H4.out Tryz.underlying125 HI0.out ?_)
         refine (HWH.out wr).mono ?_
         rintro e w5 ⟨rfl, hb⟩
         have H1 := jh (zaa H1.out hb)
         have H2 := jh (zaa H2.out hb)
         have H4 := jh (zaa H4.out hb)
         have HE := jh (HE.out.trans hb)
         clear hb HWH H3
         obtain ⟨h, hh⟩ : ∃ h, h = wOut (qThree Hn) := ⟨_, rfl⟩
         have HHL : Hid (h.length = 17) := jh (by rw [hh]; exact HWV.out.1)
         have HHD : Hid (∀ i, i < 17 → 0 ≤ h.getD i 0 ∧ h.getD i 0 < 256) := jh (by rw [hh]; exact HWV.out.2.1)
         have HHV : Hid (gV 256 h = pNum kb b) := jh (by rw [hh, HWV.out.2.2, HC3.out.2, HACC.out, HNUM.out])
         rw [← hh]
         clear hh HC3 HWV HNUM HACC
         have HTAG := jh (tag_digits HKL.out HHL.out HHD.out HHV.out)
         have HIh := jh (zen HHL.out)
         have HLh : Hid ((ints .i64 h).length = (ints .i64 Hn).length) := jh (by rw [zad, zad, HHL.out, HCAN.out.1])
         go_upto_region 33 with (refine zac rfl _ _ _ rfl (A + 1 + 1 + 1) (ints .i64 h) rfl rfl _ _ H4.out HLh.out HIh.out (zai _ _) ?_; intro w6 hb6 hg6)
         have H1 := jh (H1.out.grown hg6 (fun e => by have h := Option.some.inj e; omega))
         have H2 := jh (H2.out.grown hg6 (fun e => by have h := Option.some.inj e; omega))
         have HE := jh (zae HE.out hg6 (by have := HAW.out; omega))
         have H4 := jh hb6
         clear hb6 hg6 HLh HIh HI0 HCAN HF HN
         have HSL : Hid (((kb.drop 16).take 16).length = 16) := jh (by rw [List.length_take, List.length_drop, HKL.out]; rfl)
         have HSG : Hid (∀ i, i < 16 → ((kb.drop 16).take 16).getD i 0 = kb.getD (16 + i) 0) := jh (fun i hi => by
          simp [List.getD, List.getElem?_take, hi, List.getElem?_drop])
         have HDD : Hid (∀ i, 0 ≤ h.getD i 0 ∧ h.getD i 0 ≤ 255) := jh (fun i => by
          rcases Nat.lt_or_ge i 17 with hi | hi
          ·have := HHD.out i hi
           omega
          ·rw [getD_out (by rw [HHL.out]; exact hi)]
           omega)
         have HUR := jh (uT_range HDD.out ((kb.drop 16).take 16))
         generalize (kb.drop 16).take 16 = s at *
         obtain ⟨o, ho⟩ : ∃ o, o = polyTag kb b := ⟨_, rfl⟩
         have HO := jh ho
         have HOL : Hid (o.length = 16) := jh (by rw [ho]; exact zcf _ _)
         have HOD : Hid (∀ i, i < 16 → tD h s i = ((o.getD i 0).toNat : Int)) := jh (fun i hi => by
          have e := congrArg (fun l => l.getD i 0) HTAG.out
          rw [← ho] at e
          have e1 : (tL h s 16).getD i 0 = tD h s i := by
           simp only [tL, List.getD_eq_getElem?_getD, List.getElem?_map, List.getElem?_range hi]
           rfl
          have hio : i < o.length := by rw [ho, zcf]; exact hi
          have e2 : (o.map fun b => (b.toNat : Int)).getD i 0 = ((o.getD i 0).toNat : Int) := by simp [List.getD, hio]
          rw [← e1, ← e2]
          exact e)
         clear ho HTAG
         obtain ⟨T, hT⟩ : ∃ T, T = w6.heap.size := ⟨_, rfl⟩
         have HTA : Hid (A + 1 + 1 + 1 < T) := jh (by have := H4.out.lt; omega)
         have HXA := Ext.alloc w6 (.cells (ints .u8 (List.replicate 16 0)).toArray 53)
         have H6 : Hid (Blk (w6.alloc (.cells (ints .u8 (List.replicate 16 0)).toArray 53)) T ((fill 16 o 0).map bval) 53) := jh (by rw [fill_start, hT]; exact Blk.made w6 (ints .u8 (List.replicate 16 0)) 53)
         have H1n := jh (zaa H1.out HXA)
         have H2n := jh (zaa H2.out HXA)
         have H4n := jh (zaa H4.out HXA)
         have HEn := jh (HE.out.trans HXA)
         clear HXA
         go_upto_region 34 with (fail)
         change Code.wp _ _ _ _ (w6.alloc (.cells (ints .u8 (List.replicate 16 0)).toArray 53))
         rw [← hT]
         clear H1 H2 H4 HE hT
         generalize w6.alloc (.cells (ints .u8 (List.replicate 16 0)).toArray 53) = w8 at *
         go_wp2_with fail
         go_loopw [16, 17] (fun uv iv wr => ∃ (i : Nat), i ≤ 16 ∧ uv = .int .i64 (uT h s i) ∧ iv = .int .i64 (i : Int) ∧ Blk wr A (kb.map bval) 23 ∧ Blk wr (A + 1) (ints .u8 (List.replicate 16 0)) 53 ∧ Blk wr (A + 1 + 1 + 1) (ints .i64 h) 125 ∧ Blk wr T ((fill 16 o i).map bval) 53 ∧ Ext w wr) (fun _ iv _ => 16 - (intOf iv).toNat)
         case atStart => exact ⟨0, by omega, rfl, rfl, H1n.out, H2n.out, H4n.out, H6.out, HEn.out⟩
         case round =>
          clear H1n H2n H4n H6 HEn
          obtain ⟨i, hi, rfl, rfl, hb1, hb2, hb4, hb6, hbel⟩ := hrel
          have i0 : (0 : Int) ≤ (i : Int) := Int.natCast_nonneg _
          have H1 := jh hb1
          have H2 := jh hb2
          have H4 := jh hb4
          have H6 := jh hb6
          have HE := jh hbel
          by_cases hli : i < 16
          ·have i1 : (i : Int) < 16 := by omega
           have i2 : (i : Int) < 17 := by omega
           obtain ⟨q, hq⟩ : ∃ q, q = 16 + i := ⟨_, rfl⟩
           have q1 : (16 : Int) + (i : Int) = (q : Int) := by omega
           have q2 : (q : Int) < 32 := by omega
           have q3 : (0 : Int) ≤ (q : Int) := by omega
           have c1 := zbs hb4 (i := i) (by rw [HHL.out]; omega)
           have c2 := hb1.cell q
           rw [zbb (by rw [HKL.out]; omega)] at c2
           have hsg := HSG.out i hli
           rw [← hq] at hsg
           rw [← hsg] at c2
           obtain ⟨u6, c6⟩ : ∃ u, wr.cell? ⟨T, i, none⟩ = some u := ⟨_, by rw [hb6.cell, zbb (by rw [fill_length HOL.out (by omega)]; exact hli)]⟩
           have f6 := hb6.free i
           have hu := HUR.out i
           have hz := HDD.out i
           have hy := (s.getD i 0).toNat_lt
           have HU : Hid (uT h s (i + 1) = (uT h s i + h.getD i 0 + ((s.getD i 0).toNat : Int)) / 256) := jh rfl
           have HD : Hid ((uT h s i + h.getD i 0 + ((s.getD i 0).toNat : Int)) % 256 = ((o.getD i 0).toNat : Int)) := jh (HOD.out i hli)
           clear hb1 hb2 hb4 hb6 hbel hq hsg
           change wr.cell? ⟨A, q, none⟩ = some (.int .u8 ((s.getD i 0).toNat : Int)) at c2
           generalize (s.getD i 0).toNat = y at *
           generalize h.getD i 0 = z at *
           generalize uT h s i = u at *
           obtain ⟨u0, u1⟩ := hu
           obtain ⟨z0, z1⟩ := hz
           have y1 : (y : Int) ≤ 255 := by omega
           have y2 : (0 : Int) ≤ (y : Int) := by omega
           have a1 := and_i64_255 (u + z + (y : Int)) (by omega) (by omega)
           go_wp2_with fail
           go_region
           go_wp2_with fail
           go_roundw
           case rel =>
            refine ⟨i + 1, by omega, by rw [HU.out], by go_num, H1.out.far (by have := HTA.out; simp; omega) _, H2.out.far (by have := HTA.out; simp; omega) _, H4.out.far (by have := HTA.out; simp; omega) _, ?_, Ext.trans (b := wr.setCell ⟨T, i, none⟩ (.int .u8 ((u + z + (y : Int)) % 256))) (Below.setCell HE.out (by have := HAW.out; have := HTA.out; simp; omega) _) (Ext.drew _)⟩
            rw [← fill_set_val HOL.out hli HD.out]
            exact H6.out.set i _
           case measure => simp [intOf]; omega
          ·have hi16 : i = 16 := by omega
           subst hi16
           rw [fill_full HOL.out] at hb6
           have H6 := jh hb6
           have HIo : Hid ((Tryz.prog.info? 53).map (·.size) = some (o.map bval).length) := jh (tag_size HOL.out)
           have HLo : Hid ((o.map bval).length = (ints .u8 (List.replicate 16 0)).length) := jh (by rw [List.length_map, HOL.out, zad, List.length_replicate])
           clear hb1 hb2 hb4 hb6 hbel
           go_wp2_with (first | (refine zab rfl _ _ rfl T rfl _ _ _ _ H6.out Tryz.underlying53 HIo.out ?_) | (refine zac rfl _ _ _ rfl (A + 1) (o.map bval) rfl rfl _ _ H2.out HLo.out HIo.out (zag _) ?_; intro w9 hb9 hg9))
           refine bodyPost_ret (zap rfl _ (A + 1) _ _ _ _ rfl hb9 Tryz.underlying53 HIo.out) rfl ?_
           exact ⟨by rw [HO.out], zae HE.out hg9 (by have := HAW.out; omega)⟩
theorem rTag_any (kb nb c s : List UInt8) (cv sv : Value) (w : World) (hk : kb.length = 32) (hn : nb.length = 12) (hc : Row1 w cv (c.map bval)) (hs : Row1 w sv (s.map bval)) (hcl : c.length ≤ 1000000000) (hsl : s.length ≤ 1000000000) :
  Calls Tryz.prog 32 #[.agg (kb.map bval).toArray, .agg (nb.map bval).toArray, cv, sv] w fun e w' => e = .returned (.agg ((aeaTag kb nb c s).map bval).toArray) ∧ Below w.heap.size w w' := by
 obtain ⟨i0, hi, hz0, hz1, hz2⟩ := info_parts Tryz.info5
 have HI0 := jh hi
 have HZ0 := jh hz0
 have HZ1 := jh hz1
 have HZ2 := jh hz2
 have HC0 := jh hc
 have HS0 := jh hs
 obtain ⟨ac, capc, hcv, c1, c2, _⟩ := id hc
 obtain ⟨ad, caps, hsv, s1, s2, _⟩ := id hs
 rw [List.length_map] at hcv c1 hsv s1
 subst hcv hsv
 unfold maxLen at c2 s2
 have HCL := jh hcl
 have HSL := jh hsl
 have HB := jh (boxes3 w (kb.map bval) (nb.map bval) (ints .u8 (List.replicate 16 0)) 23 44 53)
 have HIK : Hid ((Tryz.prog.info? 23).map (·.size) = some (kb.map bval).length) := jh (zaf hk)
 have HIN : Hid ((Tryz.prog.info? 44).map (·.size) = some (nb.map bval).length) := jh (zdj hn)
 have HKL := jh hk
 have HNL := jh hn
 clear hi hz0 hz1 hz2 hc hs hk hn
 go_enter Tryz.func32, Tryz.ntmps32
 go_upto_region 1 with (fail)
 obtain ⟨H1, H2, H3, HE⟩ := HB.out
 change Code.wp _ _ _ _ (((w.alloc (.cells (kb.map bval).toArray 23)).alloc (.cells (nb.map bval).toArray 44)).alloc (.cells (ints .u8 (List.replicate 16 0)).toArray 53))
 generalize ((w.alloc (.cells (kb.map bval).toArray 23)).alloc (.cells (nb.map bval).toArray 44)).alloc (.cells (ints .u8 (List.replicate 16 0)).toArray 53) = wa at *
 obtain ⟨A, hA⟩ : ∃ A, A = w.heap.size := ⟨_, rfl⟩
 have HAW : Hid (w.heap.size ≤ A) := jh (by omega)
 rw [← hA] at H1 H2 H3 ⊢
 have H1 := jh H1
 have H2 := jh H2
 have H3 := jh H3
 have HE : Hid (Ext w wa) := jh HE
 clear hA HB
 go_wp2_with (first | (refine zab rfl _ _ rfl A rfl _ _ _ _ H1.out Tryz.underlying23 HIK.out ?_) | (refine zab rfl _ _ rfl (A + 1) rfl _ _ _ _ H2.out Tryz.underlying44 HIN.out ?_))
 refine (rBlock_any kb nb 0 wa HKL.out HNL.out (by decide) (by decide)).mono ?_
 rintro e w1 ⟨rfl, hb⟩
 have H3 := jh (zaa H3.out hb)
 have HE := jh (HE.out.trans hb)
 clear hb H1 H2
 have HOK : Hid (oneKey kb nb = (chaBlock kb (BitVec.ofInt 32 0) nb).take 32) := jh rfl
 have HBL := jh (zda kb (BitVec.ofInt 32 0) nb)
 generalize chaBlock kb (BitVec.ofInt 32 0) nb = k at *
 have HZ := jh (Blk.made w1 (ints .u8 (List.replicate 64 0)) 68)
 have HEA := jh (Ext.alloc w1 (.cells (ints .u8 (List.replicate 64 0)).toArray 68))
 have HIS : Hid ((Tryz.prog.info? 68).map (·.size) = some (k.map bval).length) := jh (sig_size HBL.out)
 have HLo : Hid ((k.map bval).length = (ints .u8 (List.replicate 64 0)).length) := jh (by rw [List.length_map, HBL.out, zad, List.length_replicate])
 go_upto_region 2 with (refine zac rfl _ _ _ rfl w1.heap.size (k.map bval) rfl rfl _ _ HZ.out HLo.out HIS.out (zag _) ?_; intro w2 hb2 hg2)
 have HE4 := jh (zae HEA.out hg2 (Nat.le_refl _))
 have H3 := jh (zaa H3.out HE4.out)
 have HE := jh (HE.out.trans HE4.out)
 obtain ⟨S, hS⟩ : ∃ S, S = w1.heap.size := ⟨_, rfl⟩
 rw [← hS] at hb2 ⊢
 have H4 := jh hb2
 clear hb2 hg2 HZ HEA HE4 HLo hS
 have HXA := Ext.alloc w2 (.cells (ints .u8 (List.replicate 32 0)).toArray 23)
 obtain ⟨O, hO⟩ : ∃ O, O = w2.heap.size := ⟨_, rfl⟩
 have HOA : Hid (A + 1 + 1 < O ∧ w.heap.size ≤ O) := jh (by have := H3.out.lt; have := HE.out.size; omega)
 have H5 : Hid (Blk (w2.alloc (.cells (ints .u8 (List.replicate 32 0)).toArray 23)) O ((List.replicate 32 (0 : UInt8)).map bval) 23) := jh (by rw [hO]; exact Blk.made w2 (ints .u8 (List.replicate 32 0)) 23)
 have H3 := jh (zaa H3.out HXA)
 have H4 := jh (zaa H4.out HXA)
 have HE := jh (HE.out.trans HXA)
 clear HXA
 go_upto_region 3 with (fail)
 change Code.wp _ _ _ _ (w2.alloc (.cells (ints .u8 (List.replicate 32 0)).toArray 23))
 rw [← hO]
 clear hO
 generalize w2.alloc (.cells (ints .u8 (List.replicate 32 0)).toArray 23) = w3 at *
 refine zal 2 1 2 rfl (by kernel_rfl) (by kernel_rfl) (fun d v c a w h => by cases d <;> exact h) (by kernel_rfl) ?_
 refine zbf (.slice (some ⟨O, 0, none⟩) 32 32) (by rfl) (fun w hw => by go_simp) ?_
 simp only [Act.put, nrm]
 refine zbf (.slice (some ⟨S, 0, none⟩) 32 64) (by rfl) (fun w hw => by go_simp) ?_
 simp only [Act.put, nrm]
 refine zbg (zdy (k := 2) rfl (by kernel_rfl) (by kernel_rfl) (by kernel_rfl) rfl (fun w4 hw4 => ?_))
 have H3 := jh (zaa H3.out hw4)
 have H4 := jh (zaa H4.out hw4)
 have H5 := jh (zaa H5.out hw4)
 have HE := jh (HE.out.trans hw4)
 clear hw4
 have HTL : Hid ((k.take 32).length = 32) := jh (by rw [List.length_take, HBL.out]; rfl)
 refine zdl _ _ 25 25 rfl 5 Tryz.underlying25 byte_one _ _ _ _ _ _ rfl rfl O 0 _ _ H5.out ((k.take 32).map bval) (by rw [List.length_map, HTL.out]; rfl) (fun _ => ⟨rfl, ⟨S, 0, none⟩, rfl, fun j v hj => ?_⟩) (by rw [List.length_map, HTL.out]; simp) (zag _) ?_
 ·have hj2 : j < 32 := by
   rcases Nat.lt_or_ge j 32 with h | h
   ·exact h
   ·rw [List.getElem?_eq_none (by rw [List.length_map, HTL.out]; omega)] at hj; cases hj
  rw [WideShapes.add_plain, Nat.zero_add, H4.out.cell, ← hj, List.getElem?_map, List.getElem?_map, List.getElem?_take, if_pos hj2]
 intro w5 hb5 hg5
 have e32 : splice ((List.replicate 32 (0 : UInt8)).map bval) 0 ((k.take 32).map bval) = (k.take 32).map bval := by
  rw [splice_bytes, HTL.out]
  simp
 rw [e32] at hb5
 have H3 := jh (H3.out.grown hg5 (by have := HOA.out; simp; omega))
 have HE := jh (zae HE.out hg5 HOA.out.2)
 have H5 := jh hb5
 clear hb5 hg5 H4 e32
 generalize goInt ((k.take 32).map bval).length = g1
 simp only [Act.put, nrm]
 rw [← HOK.out] at HTL H5
 have HIO : Hid ((Tryz.prog.info? 23).map (·.size) = some ((oneKey kb nb).map bval).length) := jh (zaf HTL.out)
 have HTG : Hid (aeaTag kb nb c s = polyTag (oneKey kb nb) (aeaMsg c s)) := jh rfl
 generalize oneKey kb nb = ok at *
 -- what is tagged
 obtain ⟨base, hbase⟩ : ∃ base, base = w5.heap.size := ⟨_, rfl⟩
 have HBS : Hid (base ≤ w5.heap.size) := jh (by omega)
 have HBW : Hid (w.heap.size ≤ base) := jh (by rw [hbase]; exact HE.out.size)
 have HBO : Hid (A + 1 + 1 < base ∧ O < base) := jh (by have := H3.out.lt; have := H5.out.lt; omega)
 have HNIL : Hid (w5.ownsRow base 5 1 (.slice none 0 0) 0 []) := jh (World.ownsRow_nil _ _ _ _)
 have HSR := jh (HS0.out.below HE.out)
 have HLM : Hid ((s.map bval).length = s.length) := jh (List.length_map _)
 have HLC : Hid ((c.map bval).length = c.length) := jh (List.length_map _)
 clear hbase
 go_wp2_with (at_builtin; refine zas rfl _ _ 25 rfl base 5 i0 (.int .u8 0) 1 Tryz.underlying25 HI0.out HZ0.out HZ1.out HZ2.out rfl _ 0 [] rfl HNIL.out rfl HSR.out (zag _) (by rw [HLM.out]; have := HSL.out; unfold maxLen; omega) (by rw [HLM.out]; have := HSL.out; omega) HBS.out ?_; intro v6 w6 hown6 hgrow6)
 have HB6 := jh (below_own (Below.refl base w5) HNIL.out hgrow6 HBS.out)
 have HO6 : Hid (w6.ownsRow base 5 1 v6 s.length (s.map bval)) := jh (own_eq hown6 (by rw [HLM.out]; omega) rfl)
 clear hown6 hgrow6 HNIL HSR
 have HS6 : Hid (base ≤ w6.heap.size) := jh (Nat.le_trans HBS.out HB6.out.size)
 go_wp2_with fail
 refine (rFilled_any v6 s base w6 HO6.out HS6.out (by have := HSL.out; omega)).mono ?_
 rintro e w7 ⟨x7, rfl, ho7, hb7⟩
 have HB7 := jh (HB6.out.trans hb7)
 obtain ⟨m7, hm7⟩ : ∃ m7, m7 = s ++ z16 s.length := ⟨_, rfl⟩
 have HL7 : Hid (m7.length ≤ s.length + 16) := jh (by rw [hm7, List.length_append, z16_length]; omega)
 rw [← hm7] at ho7
 have HM7 := jh hm7
 have HO7 := jh ho7
 clear ho7 hb7 hm7 HO6 HB6 HS6
 have HE7 : Hid (Ext w w7) := jh (Below.trans HE.out (Below.mono HB7.out HBW.out))
 have HCR := jh (HC0.out.below HE7.out)
 have HS7 : Hid (base ≤ w7.heap.size) := jh (Nat.le_trans HBS.out HB7.out.size)
 have HF7 : Hid (m7.length + (c.map bval).length ≤ 3000000000) := jh (by rw [HLC.out]; have := HL7.out; have := HCL.out; have := HSL.out; omega)
 go_wp2_with (at_builtin; refine zas rfl _ _ 25 rfl base 5 i0 (.int .u8 0) 1 Tryz.underlying25 HI0.out HZ0.out HZ1.out HZ2.out rfl _ _ _ rfl HO7.out rfl HCR.out (zag _) (by have := HF7.out; unfold maxLen; omega) (by have := HF7.out; omega) HS7.out ?_; intro v8 w8 hown8 hgrow8)
 have HB8 := jh (below_own HB7.out HO7.out hgrow8 HS7.out)
 have HO8 : Hid (w8.ownsRow base 5 1 v8 (m7 ++ c).length ((m7 ++ c).map bval)) := jh (own_eq hown8 (by rw [HLC.out, List.length_append]) (by rw [List.map_append]))
 clear hown8 hgrow8 HO7 HB7 HS7 HCR HE7 HF7
 have HS8 : Hid (base ≤ w8.heap.size) := jh (Nat.le_trans HBS.out HB8.out.size)
 go_wp2_with fail
 refine (rFilled_any v8 (m7 ++ c) base w8 HO8.out HS8.out (by rw [List.length_append]; have := HL7.out; have := HCL.out; have := HSL.out; omega)).mono ?_
 rintro e w9 ⟨x9, rfl, ho9, hb9⟩
 have HB9 := jh (HB8.out.trans hb9)
 have e9 := fill_two s c
 rw [← HM7.out] at e9
 rw [e9] at ho9
 have HMG : Hid (aeaMsg c s = (s ++ (z16 s.length ++ (c ++ z16 c.length))) ++ bytesN 8 s.length ++ bytesN 8 c.length) := jh (by unfold aeaMsg; simp [List.append_assoc])
 have HL9 : Hid ((s ++ (z16 s.length ++ (c ++ z16 c.length))).length ≤ 2000000100) := jh (by simp only [List.length_append, z16_length]; have := HCL.out; have := HSL.out; omega)
 obtain ⟨m9, hm9⟩ : ∃ m9, m9 = s ++ (z16 s.length ++ (c ++ z16 c.length)) := ⟨_, rfl⟩
 rw [← hm9] at ho9 HMG HL9
 have HO9 := jh ho9
 clear ho9 hb9 e9 hm9 HO8 HB8 HS8 HM7 HL7
 have HS9 : Hid (base ≤ w9.heap.size) := jh (Nat.le_trans HBS.out HB9.out.size)
 go_wp2_with fail
 refine (rLength_any s.length w9 (by have := HSL.out; omega)).mono ?_
 rintro e w10 ⟨x10, rfl, ho10, hb10⟩
 have HB10 := jh (HB9.out.trans (Below.mono hb10 HS9.out))
 have HO10 := jh (zbz HO9.out hb10)
 have HR10 := jh (Row1.of_own ho10)
 have HS10 : Hid (base ≤ w10.heap.size) := jh (Nat.le_trans HBS.out HB10.out.size)
 have HF10 : Hid (m9.length + ((bytesN 8 s.length).map bval).length ≤ 2000000200) := jh (by rw [List.length_map, zaz]; have := HL9.out; omega)
 clear ho10 hb10 HO9 HB9 HS9
 go_wp2_with (at_builtin; refine zas rfl _ _ 25 rfl base 5 i0 (.int .u8 0) 1 Tryz.underlying25 HI0.out HZ0.out HZ1.out HZ2.out rfl _ _ _ rfl HO10.out rfl HR10.out (zag _) (by have := HF10.out; unfold maxLen; omega) (by have := HF10.out; omega) HS10.out ?_; intro v11 w11 hown11 hgrow11)
 have HB11 := jh (below_own HB10.out HO10.out hgrow11 HS10.out)
 have HO11 : Hid (w11.ownsRow base 5 1 v11 (m9 ++ bytesN 8 s.length).length ((m9 ++ bytesN 8 s.length).map bval)) := jh (own_eq hown11 (by rw [List.length_map, List.length_append]) (by rw [List.map_append]))
 clear hown11 hgrow11 HO10 HB10 HS10 HR10 HF10
 have HS11 : Hid (base ≤ w11.heap.size) := jh (Nat.le_trans HBS.out HB11.out.size)
 refine (rLength_any c.length w11 (by have := HCL.out; omega)).mono ?_
 rintro e w12 ⟨x12, rfl, ho12, hb12⟩
 have HB12 := jh (HB11.out.trans (Below.mono hb12 HS11.out))
 have HO12 := jh (zbz HO11.out hb12)
 have HR12 := jh (Row1.of_own ho12)
 have HS12 : Hid (base ≤ w12.heap.size) := jh (Nat.le_trans HBS.out HB12.out.size)
 have HF12 : Hid ((m9 ++ bytesN 8 s.length).length + ((bytesN 8 c.length).map bval).length ≤ 2000000300) := jh (by rw [List.length_map, zaz, List.length_append, zaz]; have := HL9.out; omega)
 clear ho12 hb12 HO11 HB11 HS11
 go_upto_region 7 with (at_builtin; refine zas rfl _ _ 25 rfl base 5 i0 (.int .u8 0) 1 Tryz.underlying25 HI0.out HZ0.out HZ1.out HZ2.out rfl _ _ _ rfl HO12.out rfl HR12.out (zag _) (by have := HF12.out; unfold maxLen; omega) (by have := HF12.out; omega) HS12.out ?_; intro v13 w13 hown13 hgrow13)
 have HB13 := jh (below_own HB12.out HO12.out hgrow13 HS12.out)
 have HO13 : Hid (w13.ownsRow base 5 1 v13 (aeaMsg c s).length ((aeaMsg c s).map bval)) := jh (own_eq hown13 (by rw [HMG.out, List.length_map]; simp only [List.length_append]) (by rw [HMG.out]; simp only [List.map_append]))
 clear hown13 hgrow13 HO12 HB12 HS12 HR12 HF12
 have H3 := jh (H3.out.same (HB13.out.block _ HBO.out.1))
 have H5 := jh (H5.out.same (HB13.out.block _ HBO.out.2))
 have HE : Hid (Ext w w13) := jh (Below.trans HE.out (Below.mono HB13.out HBW.out))
 have HRM := jh (Row1.of_own HO13.out)
 have HGL : Hid ((aeaMsg c s).length ≤ 1099511627776) := jh (by have := aeaMsg_length c s; have := HCL.out; have := HSL.out; omega)
 generalize aeaMsg c s = m at *
 clear HMG HO13 HB13 HL9
 have HIT : Hid ((Tryz.prog.info? 53).map (·.size) = some ((polyTag ok m).map bval).length) := jh (tag_size (zcf _ _))
 have HLt : Hid (((polyTag ok m).map bval).length = (ints .u8 (List.replicate 16 0)).length) := jh (by rw [List.length_map, zcf, zad, List.length_replicate])
 go_wp2_with (refine zab rfl _ _ rfl O rfl _ _ _ _ H5.out Tryz.underlying23 HIO.out ?_)
 refine (rPoly_any ok m _ w13 HTL.out HRM.out HGL.out).mono ?_
 rintro e w14 ⟨rfl, hb⟩
 have H3 := jh (zaa H3.out hb)
 have HE := jh (HE.out.trans hb)
 clear hb
 go_wp2_with (refine zac rfl _ _ _ rfl (A + 1 + 1) ((polyTag ok m).map bval) rfl rfl _ _ H3.out HLt.out HIT.out (zag _) ?_; intro w15 hb15 hg15)
 refine bodyPost_ret (zap rfl _ (A + 1 + 1) _ _ _ _ rfl hb15 Tryz.underlying53 HIT.out) rfl ?_
 exact ⟨by rw [HTG.out], zae HE.out hg15 (by have := HAW.out; omega)⟩
theorem freeze_grown (w : World) (a : Addr) (n : Nat) : w.grownBy (w.freeze a n) (some a.block) := by
 unfold World.freeze
 split
 ·exact ⟨rfl, rfl, rfl, Nat.le_refl _, fun _ _ _ => rfl⟩
 ·refine ⟨rfl, rfl, rfl, by simp, fun k hk hne => ?_⟩
  have h : a.block ≠ k := fun e => hne (by rw [e])
  simp [Array.getElem?_modify, h]
theorem freeze_cell (w : World) (a b : Addr) (n : Nat) : (w.freeze a n).cell? b = w.cell? b := by
 unfold World.freeze
 split
 ·rfl
 ·unfold World.cell?
  simp only [Array.getElem?_modify]
  by_cases h : a.block = b.block
  ·rw [if_pos h]
   cases e : w.heap[b.block]? with
   | none => rfl
   | some o => cases o <;> rfl
  ·rw [if_neg h]
theorem freeze_row {w : World} {v : Value} {vs : List Value} (h : Row1 w v vs) (a : Addr) (n : Nat) : Row1 (w.freeze a n) v vs :=
 h.same (freeze_grown w a n).size fun p _ _ => freeze_cell w a p n
theorem run_mark_own {P : Program} {w : World} {t e : TypeId} {base g n cap : Nat} {xs : List Value} (ht : P.underlying t = some (.slice e)) (he : P.underlying e = some (.int .u8)) (h : w.ownsRow base e 1 (.slice (some ⟨g, 0, none⟩) n cap) n xs) :
  ∃ w', (convert t t (.slice (some ⟨g, 0, none⟩) n cap)).run P w = .ok (.slice (some ⟨g, 0, none⟩) n cap) w' ∧ w.grownBy w' (some g) ∧ base ≤ g ∧ ∀ v vs, Row1 w v vs → Row1 w' v vs := by
 rcases h.2 with ⟨h1, _⟩ | ⟨g', cap', cur, hv, hb, hg, _⟩
 ·exact absurd h1 (by simp)
 ·injection hv with e1 e2 e3
  injection e1 with e1
  injection e1 with e1
  subst e1
  have hsh : w.shape? g = some (e, cur.size) := by
   unfold World.shape?
   rw [hg]
  refine ⟨w.freeze ⟨g, cur.size, none⟩ 1, ?_, freeze_grown w _ _, hb, fun v vs hr => freeze_row hr _ _⟩
  simp [convert, run_underlying ht, run_underlying he, markStringish, hsh]
theorem own_ne_blk {w : World} {base size g n m cap c : Nat} {e t : TypeId} {xs cs : List Value} (h : w.ownsRow base e size (.slice (some ⟨g, 0, none⟩) n cap) m xs) (hb : Blk w c cs t) (hne : e ≠ t) : g ≠ c := by
 intro hgc
 subst hgc
 rcases h.2 with ⟨h1, _⟩ | ⟨g', cap', cur, hv, _, hg, _⟩
 ·exact absurd h1 (by simp)
 ·injection hv with e1 e2 e3
  injection e1 with e1
  injection e1 with e1
  subst e1
  unfold Blk at hb
  rw [hb] at hg
  injection hg with hg
  injection hg with _ h2 _
  exact hne h2.symm
theorem rwra_nonce (w : World) : (Instr.build 44 #[]).run Tryz.prog w = .ok (.agg ((zB 12).map bval).toArray) w := by
 simp [Instr.build, Tryz.zeroValue44]
 rfl
theorem rwra_any (eb zb : List UInt8) (w : World) (he : eb.length = 32) (hz : zb.length = 32) (hG : GlobK w) :
  Calls Tryz.prog 20 #[.agg (eb.map bval).toArray, .agg (zb.map bval).toArray] w fun e w' => e = .returned (.agg ((betK eb zb).map bval).toArray) ∧ Below w.heap.size w w' := by
 obtain ⟨i0, hi, hz0, hz1, hz2⟩ := info_parts Tryz.info5
 have HI0 := jh hi
 have HZ0 := jh hz0
 have HZ1 := jh hz1
 have HZ2 := jh hz2
 have HB := jh (boxes3 w (eb.map bval) (zb.map bval) ((zB 32).map bval) 23 23 23)
 have HG := jh hG
 have HEL := jh he
 have HZL := jh hz
 clear he hz hG hi hz0 hz1 hz2
 go_enter Tryz.func20, Tryz.ntmps20
 go_upto_region 2 with (fail)
 obtain ⟨H1, H2, H3, HE⟩ := HB.out
 change Code.wp _ _ _ _ ((((w.alloc (.cells (eb.map bval).toArray 23)).alloc (.cells (zb.map bval).toArray 23)).alloc (.cells ((zB 32).map bval).toArray 23)).alloc (.cells ((zB 32).map bval).toArray 23))
 have HSB : Hid ((((w.alloc (.cells (eb.map bval).toArray 23)).alloc (.cells (zb.map bval).toArray 23)).alloc (.cells ((zB 32).map bval).toArray 23)).heap.size = w.heap.size + 1 + 1 + 1) := jh (by simp)
 generalize ((w.alloc (.cells (eb.map bval).toArray 23)).alloc (.cells (zb.map bval).toArray 23)).alloc (.cells ((zB 32).map bval).toArray 23) = wb at *
 have HE2 : Hid (Ext wb (wb.alloc (.cells ((zB 32).map bval).toArray 23))) := jh (Ext.alloc _ _)
 have HB5 := jh (Blk.made wb ((zB 32).map bval) 23)
 generalize wb.alloc (.cells ((zB 32).map bval).toArray 23) = w2 at *
 obtain ⟨A5, hA5⟩ : ∃ A5, A5 = w.heap.size + 1 + 1 + 1 := ⟨_, rfl⟩
 have hb5 := HB5.out
 rw [HSB.out, ← hA5] at hb5
 have HZ5 := jh hb5
 have HA5 : Hid (wb.heap.size ≤ A5) := jh (by rw [HSB.out, hA5]; omega)
 have HEB : Hid (Ext w wb) := jh HE
 rw [← hA5]
 clear hb5 hA5 HSB HB5 HE
 obtain ⟨A, hA⟩ : ∃ A, A = w.heap.size := ⟨_, rfl⟩
 have HLA : Hid (w.heap.size ≤ A + 1 + 1) := jh (by omega)
 rw [← hA] at H1 H2 H3 ⊢
 have H1 := jh H1
 have H2 := jh H2
 have H3 := jh H3
 clear hA HB
 have z5 := HZ5.out
 have B0 : Ext wb w2.drew := (HE2.out).trans (Ext.drew _)
 refine wp_region_held_drew (S := fun w' => Ext wb w') (by kernel_rfl) B0 (fun hHeld => ?_)
 have z5 := z5.below (Ext.drew _)
 refine tke 0 (.slice (some ⟨A5, 0, none⟩) 32 32) rfl (zbm _ _ _ _ (.pointer (some ⟨A5, 0, none⟩)) (.slice (some ⟨A5, 0, none⟩) 32 32) none none (by rfl) rfl rfl rfl rfl (fun w => zbw Tryz.underlying23 Tryz.sizeOf5 (by omega) _ w)) hHeld ?_
 simp only [Act.put, nrm]
 refine tke 1 (.slice (some ⟨A, 0, none⟩) 32 32) rfl (zbm _ _ _ _ (.pointer (some ⟨A, 0, none⟩)) (.slice (some ⟨A, 0, none⟩) 32 32) none none (by rfl) rfl rfl rfl rfl (fun w => zbw Tryz.underlying23 Tryz.sizeOf5 (by omega) _ w)) hHeld ?_
 simp only [Act.put, nrm]
 refine tke 2 (.slice (some ⟨A + 1, 0, none⟩) 32 32) rfl (zbm _ _ _ _ (.pointer (some ⟨A + 1, 0, none⟩)) (.slice (some ⟨A + 1, 0, none⟩) 32 32) none none (by rfl) rfl rfl rfl rfl (fun w => zbw Tryz.underlying23 Tryz.sizeOf5 (by omega) _ w)) hHeld ?_
 simp only [Act.put, nrm]
 refine wpAnyH_ready (rs := [3, 4]) (by kernel_rfl) (by simp) (AllReadyH.cons rfl (fun K hK => ?_) (AllReadyH.cons rfl (fun K hK => ?_) AllReadyH.nil))
 ·go_simp
  refine (rExtract_any _ _ eb zb w2.drew ((zbo (n := 32) H1.out (by rw [List.length_map]; exact HEL.out) (by unfold maxLen; omega)).below B0) ((zbo (n := 32) H2.out (by rw [List.length_map]; exact HZL.out) (by unfold maxLen; omega)).below B0) (by rw [HEL.out]; decide) (by rw [HZL.out]; decide) (HG.out.ext (HEB.out.trans B0))).mono ?_
  rintro e m1 ⟨rfl, b1⟩
  have z5 := z5.below b1
  have N1 : Ext wb m1 := B0.trans b1
  refine hK.out _ _ N1 (fun hHeld => ?_)
  clear hK K
  try simp only [Act.put, nrm]
  refine rdy 4 rfl fun K hK => ?_
  refine zaw (by rfl) ?_
  refine zcw (some 10) _ _ _ _ rfl rfl #[.int .u8 119, .int .u8 114, .int .u8 97, .int .u8 112] i0 (.int .u8 0) Tryz.underlying25 HI0.out HZ0.out (by rw [HZ1.out]; decide) (by rw [HZ1.out]; decide) (by rw [HZ1.out]; kernel_rfl) ?_
  obtain ⟨m2, hm2⟩ : ∃ wNew, wNew = World.alloc m1 (.cells #[.int .u8 119, .int .u8 114, .int .u8 97, .int .u8 112] 5) := ⟨_, rfl⟩
  rw [← hm2]
  have b2 : Ext m1 m2 := by rw [hm2]; exact Ext.alloc _ _
  obtain ⟨g2, hg2⟩ : ∃ gNew, gNew = (m1).heap.size := ⟨_, rfl⟩
  rw [← hg2]
  have z5 := z5.below b2
  have r2 : Row1 m2 (.slice (some ⟨g2, 0, none⟩) 4 4) (([119, 114, 97, 112] : List UInt8).map bval) := by rw [hm2, hg2]; exact Row1.made _ _ _ _ _ _ rfl rfl rfl (by unfold maxLen; omega)
  have o2 : World.ownsRow m2 (wb).heap.size 5 1 (.slice (some ⟨g2, 0, none⟩) 4 4) 4 (([119, 114, 97, 112] : List UInt8).map bval) := by rw [hm2, hg2]; exact own_made _ _ _ _ _ _ rfl rfl (by unfold maxLen; omega) N1.size
  clear hm2 hg2
  have N2 : Ext wb m2 := N1.trans b2
  have q2 : g2 ≠ A5 := own_ne_blk o2 z5 (by decide)
  refine hK.out _ _ N2 (fun hHeld => ?_)
  clear hK K
  try simp only [Act.put, nrm]
  refine rdy 5 rfl fun K hK => ?_
  obtain ⟨m3, hcv3, hgr3, hge3, hrw3⟩ := run_mark_own (P := Tryz.prog) (t := 25) Tryz.underlying25 Tryz.underlying5 o2
  refine zaw (by rfl) ?_
  refine wp_conv_d (some 11) _ _ _ _ _ _ rfl rfl rfl hcv3 ?_
  have r2 := hrw3 _ _ r2
  have z5 := z5.grown hgr3 (fun e => q2 (Option.some.inj e))
  have N3 : Ext wb m3 := zae N2 hgr3 hge3
  refine hK.out _ _ N3 (fun hHeld => ?_)
  clear hK K
  try simp only [Act.put, nrm]
  refine rdy 6 rfl fun K hK => ?_
  go_simp
  refine (rExpand_any _ (hmac eb zb) wraN 32 _ (zbr _ _) r2 (by decide) (by omega) (HG.out.ext (HEB.out.trans N3))).mono ?_
  rintro e m4 ⟨x4, rfl, o4, b4⟩
  have r2 := r2.below b4
  have z5 := z5.below b4
  have r4 : Row1 m4 x4 ((hExpand (hmac eb zb) wraN 32).map bval) := Row1.of_own o4
  obtain ⟨a4, c4, hx4, _⟩ := id r4
  rw [show ((hExpand (hmac eb zb) wraN 32).map bval).length = 32 from by rw [List.length_map]; simp only [zat]] at hx4
  subst hx4
  have N4 : Ext wb m4 := N3.trans b4
  refine hK.out _ _ N4 (fun hHeld => ?_)
  clear hK K
  try simp only [Act.put, nrm]
  refine rdy 7 rfl fun K hK => ?_
  refine zaw (by rfl) ?_
  refine zdl _ _ 25 25 rfl 5 Tryz.underlying25 one_u8 _ _ _ _ _ _ rfl rfl A5 0 _ _ z5 ((hExpand (hmac eb zb) wraN 32).map bval) (by rw [List.length_map]; simp only [zat]; rfl) (fun h => ⟨rfl, row_src r4 (hExpand (hmac eb zb) wraN 32) (by rw [List.take_length]) (Nat.le_refl _) (Ext.refl _) h⟩) (by rw [List.length_map]; simp only [zat]; decide) (zag _) ?_
  intro m5 hb5 hg5
  have N5 : Ext wb m5 := zae N4 hg5 HA5.out
  refine hK.out _ _ N5 (fun hHeld => ?_)
  clear hK K
  try simp only [Act.put, nrm]
  refine dne ?_
  have hfin := hb5
  have hNN := N5
  generalize m5 = w11 at hfin hNN ⊢
  have hsp := zdb 32 (hExpand (hmac eb zb) wraN 32)
  rw [show List.replicate (32 - (hExpand (hmac eb zb) wraN 32).length) (0 : UInt8) = [] from by rw [zat]; rfl, List.append_nil] at hsp
  rw [hsp] at hfin
  have HZ11 := jh (H3.out.below hNN)
  have HIO : Hid ((Tryz.prog.info? 23).map (·.size) = some ((hExpand (hmac eb zb) wraN 32).map bval).length) := jh (zaf (zat _ _ _))
  have HLO : Hid (((hExpand (hmac eb zb) wraN 32).map bval).length = ((zB 32).map bval).length) := jh (by rw [List.length_map, List.length_map, zat, zch])
  clear hsp
  go_wp2_with (first | (refine zab rfl _ _ rfl A5 rfl _ _ _ _ hfin Tryz.underlying23 HIO.out ?_) | (refine zac rfl _ _ _ rfl (A + 1 + 1) ((hExpand (hmac eb zb) wraN 32).map bval) rfl rfl _ _ HZ11.out HLO.out HIO.out (zag _) ?_; intro w12 hb12 hg12))
  refine bodyPost_ret (zap rfl _ (A + 1 + 1) _ _ _ _ rfl hb12 Tryz.underlying23 HIO.out) rfl ?_
  exact ⟨rfl, zae (HEB.out.trans hNN) hg12 HLA.out⟩
 ·refine zaw (by rfl) ?_
  refine zcw (some 10) _ _ _ _ rfl rfl #[.int .u8 119, .int .u8 114, .int .u8 97, .int .u8 112] i0 (.int .u8 0) Tryz.underlying25 HI0.out HZ0.out (by rw [HZ1.out]; decide) (by rw [HZ1.out]; decide) (by rw [HZ1.out]; kernel_rfl) ?_
  obtain ⟨m1, hm1⟩ : ∃ wNew, wNew = World.alloc w2.drew (.cells #[.int .u8 119, .int .u8 114, .int .u8 97, .int .u8 112] 5) := ⟨_, rfl⟩
  rw [← hm1]
  have b1 : Ext w2.drew m1 := by rw [hm1]; exact Ext.alloc _ _
  obtain ⟨g1, hg1⟩ : ∃ gNew, gNew = (w2.drew).heap.size := ⟨_, rfl⟩
  rw [← hg1]
  have z5 := z5.below b1
  have r1 : Row1 m1 (.slice (some ⟨g1, 0, none⟩) 4 4) (([119, 114, 97, 112] : List UInt8).map bval) := by rw [hm1, hg1]; exact Row1.made _ _ _ _ _ _ rfl rfl rfl (by unfold maxLen; omega)
  have o1 : World.ownsRow m1 (wb).heap.size 5 1 (.slice (some ⟨g1, 0, none⟩) 4 4) 4 (([119, 114, 97, 112] : List UInt8).map bval) := by rw [hm1, hg1]; exact own_made _ _ _ _ _ _ rfl rfl (by unfold maxLen; omega) B0.size
  clear hm1 hg1
  have N1 : Ext wb m1 := B0.trans b1
  have q1 : g1 ≠ A5 := own_ne_blk o1 z5 (by decide)
  refine hK.out _ _ N1 (fun hHeld => ?_)
  clear hK K
  try simp only [Act.put, nrm]
  refine wpAnyH_ready (rs := [3, 5]) (by kernel_rfl) (by simp) (AllReadyH.cons rfl (fun K hK => ?_) (AllReadyH.cons rfl (fun K hK => ?_) AllReadyH.nil))
  ·go_simp
   refine (rExtract_any _ _ eb zb m1 ((zbo (n := 32) H1.out (by rw [List.length_map]; exact HEL.out) (by unfold maxLen; omega)).below N1) ((zbo (n := 32) H2.out (by rw [List.length_map]; exact HZL.out) (by unfold maxLen; omega)).below N1) (by rw [HEL.out]; decide) (by rw [HZL.out]; decide) (HG.out.ext (HEB.out.trans N1))).mono ?_
   rintro e m2 ⟨rfl, b2⟩
   have r1 := r1.below b2
   have o1 := zbz o1 b2
   have z5 := z5.below b2
   have N2 : Ext wb m2 := N1.trans b2
   refine hK.out _ _ N2 (fun hHeld => ?_)
   clear hK K
   try simp only [Act.put, nrm]
   refine rdy 5 rfl fun K hK => ?_
   obtain ⟨m3, hcv3, hgr3, hge3, hrw3⟩ := run_mark_own (P := Tryz.prog) (t := 25) Tryz.underlying25 Tryz.underlying5 o1
   refine zaw (by rfl) ?_
   refine wp_conv_d (some 11) _ _ _ _ _ _ rfl rfl rfl hcv3 ?_
   have r1 := hrw3 _ _ r1
   have z5 := z5.grown hgr3 (fun e => q1 (Option.some.inj e))
   have N3 : Ext wb m3 := zae N2 hgr3 hge3
   refine hK.out _ _ N3 (fun hHeld => ?_)
   clear hK K
   try simp only [Act.put, nrm]
   refine rdy 6 rfl fun K hK => ?_
   go_simp
   refine (rExpand_any _ (hmac eb zb) wraN 32 _ (zbr _ _) r1 (by decide) (by omega) (HG.out.ext (HEB.out.trans N3))).mono ?_
   rintro e m4 ⟨x4, rfl, o4, b4⟩
   have r1 := r1.below b4
   have z5 := z5.below b4
   have r4 : Row1 m4 x4 ((hExpand (hmac eb zb) wraN 32).map bval) := Row1.of_own o4
   obtain ⟨a4, c4, hx4, _⟩ := id r4
   rw [show ((hExpand (hmac eb zb) wraN 32).map bval).length = 32 from by rw [List.length_map]; simp only [zat]] at hx4
   subst hx4
   have N4 : Ext wb m4 := N3.trans b4
   refine hK.out _ _ N4 (fun hHeld => ?_)
   clear hK K
   try simp only [Act.put, nrm]
   refine rdy 7 rfl fun K hK => ?_
   refine zaw (by rfl) ?_
   refine zdl _ _ 25 25 rfl 5 Tryz.underlying25 one_u8 _ _ _ _ _ _ rfl rfl A5 0 _ _ z5 ((hExpand (hmac eb zb) wraN 32).map bval) (by rw [List.length_map]; simp only [zat]; rfl) (fun h => ⟨rfl, row_src r4 (hExpand (hmac eb zb) wraN 32) (by rw [List.take_length]) (Nat.le_refl _) (Ext.refl _) h⟩) (by rw [List.length_map]; simp only [zat]; decide) (zag _) ?_
   intro m5 hb5 hg5
   have N5 : Ext wb m5 := zae N4 hg5 HA5.out
   refine hK.out _ _ N5 (fun hHeld => ?_)
   clear hK K
   try simp only [Act.put, nrm]
   refine dne ?_
   have hfin := hb5
   have hNN := N5
   generalize m5 = w11 at hfin hNN ⊢
   have hsp := zdb 32 (hExpand (hmac eb zb) wraN 32)
   rw [show List.replicate (32 - (hExpand (hmac eb zb) wraN 32).length) (0 : UInt8) = [] from by rw [zat]; rfl, List.append_nil] at hsp
   rw [hsp] at hfin
   have HZ11 := jh (H3.out.below hNN)
   have HIO : Hid ((Tryz.prog.info? 23).map (·.size) = some ((hExpand (hmac eb zb) wraN 32).map bval).length) := jh (zaf (zat _ _ _))
   have HLO : Hid (((hExpand (hmac eb zb) wraN 32).map bval).length = ((zB 32).map bval).length) := jh (by rw [List.length_map, List.length_map, zat, zch])
   clear hsp
   go_wp2_with (first | (refine zab rfl _ _ rfl A5 rfl _ _ _ _ hfin Tryz.underlying23 HIO.out ?_) | (refine zac rfl _ _ _ rfl (A + 1 + 1) ((hExpand (hmac eb zb) wraN 32).map bval) rfl rfl _ _ HZ11.out HLO.out HIO.out (zag _) ?_; intro w12 hb12 hg12))
   refine bodyPost_ret (zap rfl _ (A + 1 + 1) _ _ _ _ rfl hb12 Tryz.underlying23 HIO.out) rfl ?_
   exact ⟨rfl, zae (HEB.out.trans hNN) hg12 HLA.out⟩
  ·obtain ⟨m2, hcv2, hgr2, hge2, hrw2⟩ := run_mark_own (P := Tryz.prog) (t := 25) Tryz.underlying25 Tryz.underlying5 o1
   refine zaw (by rfl) ?_
   refine wp_conv_d (some 11) _ _ _ _ _ _ rfl rfl rfl hcv2 ?_
   have r1 := hrw2 _ _ r1
   have z5 := z5.grown hgr2 (fun e => q1 (Option.some.inj e))
   have N2 : Ext wb m2 := zae N1 hgr2 hge2
   refine hK.out _ _ N2 (fun hHeld => ?_)
   clear hK K
   try simp only [Act.put, nrm]
   refine rdy 3 rfl fun K hK => ?_
   go_simp
   refine (rExtract_any _ _ eb zb m2 ((zbo (n := 32) H1.out (by rw [List.length_map]; exact HEL.out) (by unfold maxLen; omega)).below N2) ((zbo (n := 32) H2.out (by rw [List.length_map]; exact HZL.out) (by unfold maxLen; omega)).below N2) (by rw [HEL.out]; decide) (by rw [HZL.out]; decide) (HG.out.ext (HEB.out.trans N2))).mono ?_
   rintro e m3 ⟨rfl, b3⟩
   have r1 := r1.below b3
   have z5 := z5.below b3
   have N3 : Ext wb m3 := N2.trans b3
   refine hK.out _ _ N3 (fun hHeld => ?_)
   clear hK K
   try simp only [Act.put, nrm]
   refine rdy 6 rfl fun K hK => ?_
   go_simp
   refine (rExpand_any _ (hmac eb zb) wraN 32 _ (zbr _ _) r1 (by decide) (by omega) (HG.out.ext (HEB.out.trans N3))).mono ?_
   rintro e m4 ⟨x4, rfl, o4, b4⟩
   have r1 := r1.below b4
   have z5 := z5.below b4
   have r4 : Row1 m4 x4 ((hExpand (hmac eb zb) wraN 32).map bval) := Row1.of_own o4
   obtain ⟨a4, c4, hx4, _⟩ := id r4
   rw [show ((hExpand (hmac eb zb) wraN 32).map bval).length = 32 from by rw [List.length_map]; simp only [zat]] at hx4
   subst hx4
   have N4 : Ext wb m4 := N3.trans b4
   refine hK.out _ _ N4 (fun hHeld => ?_)
   clear hK K
   try simp only [Act.put, nrm]
   refine rdy 7 rfl fun K hK => ?_
   refine zaw (by rfl) ?_
   refine zdl _ _ 25 25 rfl 5 Tryz.underlying25 one_u8 _ _ _ _ _ _ rfl rfl A5 0 _ _ z5 ((hExpand (hmac eb zb) wraN 32).map bval) (by rw [List.length_map]; simp only [zat]; rfl) (fun h => ⟨rfl, row_src r4 (hExpand (hmac eb zb) wraN 32) (by rw [List.take_length]) (Nat.le_refl _) (Ext.refl _) h⟩) (by rw [List.length_map]; simp only [zat]; decide) (zag _) ?_
   intro m5 hb5 hg5
   have N5 : Ext wb m5 := zae N4 hg5 HA5.out
   refine hK.out _ _ N5 (fun hHeld => ?_)
   clear hK K
   try simp only [Act.put, nrm]
   refine dne ?_
   have hfin := hb5
   have hNN := N5
   generalize m5 = w11 at hfin hNN ⊢
   have hsp := zdb 32 (hExpand (hmac eb zb) wraN 32)
   rw [show List.replicate (32 - (hExpand (hmac eb zb) wraN 32).length) (0 : UInt8) = [] from by rw [zat]; rfl, List.append_nil] at hsp
   rw [hsp] at hfin
   have HZ11 := jh (H3.out.below hNN)
   have HIO : Hid ((Tryz.prog.info? 23).map (·.size) = some ((hExpand (hmac eb zb) wraN 32).map bval).length) := jh (zaf (zat _ _ _))
   have HLO : Hid (((hExpand (hmac eb zb) wraN 32).map bval).length = ((zB 32).map bval).length) := jh (by rw [List.length_map, List.length_map, zat, zch])
   clear hsp
   go_wp2_with (first | (refine zab rfl _ _ rfl A5 rfl _ _ _ _ hfin Tryz.underlying23 HIO.out ?_) | (refine zac rfl _ _ _ rfl (A + 1 + 1) ((hExpand (hmac eb zb) wraN 32).map bval) rfl rfl _ _ HZ11.out HLO.out HIO.out (zag _) ?_; intro w12 hb12 hg12))
   refine bodyPost_ret (zap rfl _ (A + 1 + 1) _ _ _ _ rfl hb12 Tryz.underlying23 HIO.out) rfl ?_
   exact ⟨rfl, zae (HEB.out.trans hNN) hg12 HLA.out⟩
end Go.Proofs.YtimmnieopifcbaaGreatDoor
