/- Texts that belong together, one behind the other. -/
import Derived.Test.YthafgicndklgfaaGreatDoorQz02
namespace Go.Proofs.YthafgicndklgfaaGreatDoor
set_option linter.unusedVariables false
set_option maxRecDepth 100000
set_option maxHeartbeats 32000000
set_option linter.unusedSimpArgs false
open Go.RowKit
theorem result_pt {P : Program} {w : World} {fn : Func} {p : Tmp} {ty : TypeId} {fs : Array Field} (h : fn.results = #[.cell p ty]) (tmps : Array Value) (c : Nat) (t : TypeId) (cs : List Value)
  (hp : tmps.getD p undef = .pointer (some ⟨c, 0, none⟩)) (hb : Blk w c cs t) (hu : P.underlying ty = some (.struct fs)) (hi : (P.info? ty).map (·.size) = some cs.length) :
  (results fn tmps).run P w = .ok (.agg cs.toArray) w :=
 results_cell_row h tmps w c t cs.toArray (0, 0) _ hp hb hu rfl (by simpa using hi)
theorem rsum_f (u v : Value) (p q : ES) (w : World) (hu : PtV u p) (hv : PtV v q) (hG : GlobD w) : Calls Tryz.prog 71 #[u, v] w fun e w' => ∃ r, e = .returned r ∧ PtV r (p.sum q) ∧ Below w.heap.size w w' := by
 obtain ⟨pa, pb, pc, pd, rfl, hp⟩ := hu
 obtain ⟨qa, qb, qc, qd, rfl, hq⟩ := hv
 obtain ⟨z1, z2, z3, z4⟩ := id hp
 have Hpx := jh z1
 have Hpy := jh z2
 have Hpz := jh z3
 have Hpt := jh z4
 have HIp := jh (zcw hp)
 clear z1 z2 z3 z4 hp
 obtain ⟨z1, z2, z3, z4⟩ := id hq
 have Hqx := jh z1
 have Hqy := jh z2
 have Hqz := jh z3
 have Hqt := jh z4
 have HIq := jh (zcw hq)
 clear z1 z2 z3 z4 hq
 have HG0 := jh hG
 clear hG
 have HB := jh (boxes3 w (ptC pa pb pc pd) (ptC qa qb qc qd) (ints .i64 (List.replicate 64 0)) 70 70 70)
 go_enter Tryz.func71, Tryz.ntmps71
 go_upto_region 1 with (fail)
 obtain ⟨H1, H2, H3, HE⟩ := HB.out
 change Code.wp _ _ _ _ (((w.alloc (.cells (ptC pa pb pc pd).toArray 70)).alloc (.cells (ptC qa qb qc qd).toArray 70)).alloc (.cells (ints .i64 (List.replicate 64 0)).toArray 70))
 generalize ((w.alloc (.cells (ptC pa pb pc pd).toArray 70)).alloc (.cells (ptC qa qb qc qd).toArray 70)).alloc (.cells (ints .i64 (List.replicate 64 0)).toArray 70) = wa at *
 obtain ⟨A, hA⟩ : ∃ A, A = w.heap.size := ⟨_, rfl⟩
 have HO : Hid (w.heap.size ≤ A) := jh (by omega)
 rw [← hA] at H1 H2 H3 ⊢
 have HP := jh H1
 have HQ := jh H2
 have HR := jh H3
 have HE : Hid (Ext w wa) := jh HE
 clear hA HB H1 H2 H3
 try go_wp2_with fail
 try simp only [Act.put, nrm]
 go_cut [5] from 13 to 23 (fun vq wq => ∃ g, vq = .pointer (some ⟨g, 0, none⟩) ∧ wa.heap.size ≤ g ∧ ElB wq g ((p.y - p.x) * (q.y - q.x)) ∧ Ext wa wq)
 case first =>
  have B0 : Ext wa wa.drew := Ext.drew _
  refine wp_region_held_drew (S := fun w' => Ext wa w') (by kernel_rfl) B0 (fun hHeld => ?_)
  refine tke 0 (.pointer (some ⟨A, 16, none⟩)) rfl (zbl (.pointer (some ⟨A, 16, none⟩)) (by rfl) (fun w _ => by go_simp)) hHeld ?_
  simp only [Act.put, nrm]
  refine tke 1 (.agg (ints .i64 pb).toArray) rfl (yieldsIf_load_mid (by rfl) _ _ rfl A 16 rfl _ _ (fun w h => rng_y (zaa HP.out h) Hpx.out.len) Tryz.underlying68 rfl (zau Hpy.out.len)) hHeld ?_
  simp only [Act.put, nrm]
  refine tke 2 (.pointer (some ⟨A, 0, none⟩)) rfl (zbl (.pointer (some ⟨A, 0, none⟩)) (by rfl) (fun w _ => by go_simp)) hHeld ?_
  simp only [Act.put, nrm]
  refine tke 3 (.agg (ints .i64 pa).toArray) rfl (yieldsIf_load_mid (by rfl) _ _ rfl A 0 rfl _ _ (fun w h => rng_x (zaa HP.out h)) Tryz.underlying68 rfl (zau Hpx.out.len)) hHeld ?_
  simp only [Act.put, nrm]
  refine tke 5 (.pointer (some ⟨(A + 1), 16, none⟩)) rfl (zbl (.pointer (some ⟨(A + 1), 16, none⟩)) (by rfl) (fun w _ => by go_simp)) hHeld ?_
  simp only [Act.put, nrm]
  refine tke 6 (.agg (ints .i64 qb).toArray) rfl (yieldsIf_load_mid (by rfl) _ _ rfl (A + 1) 16 rfl _ _ (fun w h => rng_y (zaa HQ.out h) Hqx.out.len) Tryz.underlying68 rfl (zau Hqy.out.len)) hHeld ?_
  simp only [Act.put, nrm]
  refine tke 7 (.pointer (some ⟨(A + 1), 0, none⟩)) rfl (zbl (.pointer (some ⟨(A + 1), 0, none⟩)) (by rfl) (fun w _ => by go_simp)) hHeld ?_
  simp only [Act.put, nrm]
  refine tke 8 (.agg (ints .i64 qa).toArray) rfl (yieldsIf_load_mid (by rfl) _ _ rfl (A + 1) 0 rfl _ _ (fun w h => rng_x (zaa HQ.out h)) Tryz.underlying68 rfl (zau Hqx.out.len)) hHeld ?_
  simp only [Act.put, nrm]
  refine wpAnyH_ready (rs := [4, 11]) (by kernel_rfl) (by simp) (AllReadyH.cons rfl (fun K hK => ?_) (AllReadyH.cons rfl (fun K hK => ?_) AllReadyH.nil))
  ·go_simp
   refine (rsub_f _ Hpy.out.el Hpx.out.el).mono ?_
   rintro e m1 ⟨v1, rfl, e1, b1⟩
   obtain ⟨z1, hz1, l1⟩ := e1.form
   subst hz1
   have N1 : Ext wa m1 := B0.trans b1
   refine hK.out _ _ N1 (fun hHeld => ?_)
   clear hK K
   try simp only [Act.put, nrm]
   refine wpAnyH_ready (rs := [9, 11]) (by kernel_rfl) (by simp) (AllReadyH.cons rfl (fun K hK => ?_) (AllReadyH.cons rfl (fun K hK => ?_) AllReadyH.nil))
   ·go_simp
    refine (rsub_f _ Hqy.out.el Hqx.out.el).mono ?_
    rintro e m2 ⟨v2, rfl, e2, b2⟩
    obtain ⟨z2, hz2, l2⟩ := e2.form
    subst hz2
    have N2 : Ext wa m2 := N1.trans b2
    refine hK.out _ _ N2 (fun hHeld => ?_)
    clear hK K
    try simp only [Act.put, nrm]
    refine wpAnyH_ready (rs := [10, 11]) (by kernel_rfl) (by simp) (AllReadyH.cons rfl (fun K hK => ?_) (AllReadyH.cons rfl (fun K hK => ?_) AllReadyH.nil))
    ·go_simp
     refine (zcn _ e1 e2).mono ?_
     rintro e m3 ⟨v3, rfl, e3, b3⟩
     obtain ⟨z3, hz3, l3⟩ := e3.form
     subst hz3
     have N3 : Ext wa m3 := N2.trans b3
     refine hK.out _ _ N3 (fun hHeld => ?_)
     clear hK K
     try simp only [Act.put, nrm]
     refine rdy 11 rfl fun K hK => ?_
     refine zan (by rfl) ?_
     refine zax (some 5) _ (ints .i64 (List.replicate 16 0)) rfl rfl Tryz.zeroValue68 ?_
     obtain ⟨m4, hm4⟩ : ∃ wNew, wNew = World.alloc m3 (.cells ((ints .i64 (List.replicate 16 0))).toArray 68) := ⟨_, rfl⟩
     rw [← hm4]
     have b4 : Ext m3 m4 := by rw [hm4]; exact Ext.alloc _ _
     obtain ⟨g4, hg4⟩ : ∃ gNew, gNew = (m3).heap.size := ⟨_, rfl⟩
     rw [← hg4]
     have z4 : Blk m4 g4 (ints .i64 (List.replicate 16 0)) 68 := by rw [hm4, hg4]; exact Blk.made _ _ _
     have l4 : (wa).heap.size ≤ g4 := by rw [hg4]; exact N3.size
     clear hm4 hg4
     have N4 : Ext wa m4 := N3.trans b4
     refine hK.out _ _ N4 (fun hHeld => ?_)
     clear hK K
     try simp only [Act.put, nrm]
     refine rdy 12 rfl fun K hK => ?_
     refine zan (by rfl) ?_
     refine zak _ _ _ rfl g4 (ints .i64 z3) rfl rfl _ _ z4 (by rw [zac, l3]; rfl) (zau l3) (zao _ _) ?_
     intro m5 hb5 hg5
     have N5 : Ext wa m5 := zad N4 hg5 l4
     refine hK.out _ _ N5 (fun hHeld => ?_)
     clear hK K
     try simp only [Act.put, nrm]
     refine dne ?_
     go_wp2_with fail
     go_meet
     exact ⟨_, rfl, l4, ⟨z3, l3, hb5, e3⟩, N5⟩
    ·refine zan (by rfl) ?_
     refine zax (some 5) _ (ints .i64 (List.replicate 16 0)) rfl rfl Tryz.zeroValue68 ?_
     obtain ⟨m3, hm3⟩ : ∃ wNew, wNew = World.alloc m2 (.cells ((ints .i64 (List.replicate 16 0))).toArray 68) := ⟨_, rfl⟩
     rw [← hm3]
     have b3 : Ext m2 m3 := by rw [hm3]; exact Ext.alloc _ _
     obtain ⟨g3, hg3⟩ : ∃ gNew, gNew = (m2).heap.size := ⟨_, rfl⟩
     rw [← hg3]
     have z3 : Blk m3 g3 (ints .i64 (List.replicate 16 0)) 68 := by rw [hm3, hg3]; exact Blk.made _ _ _
     have l3 : (wa).heap.size ≤ g3 := by rw [hg3]; exact N2.size
     clear hm3 hg3
     have N3 : Ext wa m3 := N2.trans b3
     refine hK.out _ _ N3 (fun hHeld => ?_)
     clear hK K
     try simp only [Act.put, nrm]
     refine rdy 10 rfl fun K hK => ?_
     go_simp
     refine (zcn _ e1 e2).mono ?_
     rintro e m4 ⟨v4, rfl, e4, b4⟩
     obtain ⟨z4, hz4, l4⟩ := e4.form
     subst hz4
     have z3 := z3.below b4
     have N4 : Ext wa m4 := N3.trans b4
     refine hK.out _ _ N4 (fun hHeld => ?_)
     clear hK K
     try simp only [Act.put, nrm]
     refine rdy 12 rfl fun K hK => ?_
     refine zan (by rfl) ?_
     refine zak _ _ _ rfl g3 (ints .i64 z4) rfl rfl _ _ z3 (by rw [zac, l4]; rfl) (zau l4) (zao _ _) ?_
     intro m5 hb5 hg5
     have N5 : Ext wa m5 := zad N4 hg5 l3
     refine hK.out _ _ N5 (fun hHeld => ?_)
     clear hK K
     try simp only [Act.put, nrm]
     refine dne ?_
     go_wp2_with fail
     go_meet
     exact ⟨_, rfl, l3, ⟨z4, l4, hb5, e4⟩, N5⟩
   ·refine zan (by rfl) ?_
    refine zax (some 5) _ (ints .i64 (List.replicate 16 0)) rfl rfl Tryz.zeroValue68 ?_
    obtain ⟨m2, hm2⟩ : ∃ wNew, wNew = World.alloc m1 (.cells ((ints .i64 (List.replicate 16 0))).toArray 68) := ⟨_, rfl⟩
    rw [← hm2]
    have b2 : Ext m1 m2 := by rw [hm2]; exact Ext.alloc _ _
    obtain ⟨g2, hg2⟩ : ∃ gNew, gNew = (m1).heap.size := ⟨_, rfl⟩
    rw [← hg2]
    have z2 : Blk m2 g2 (ints .i64 (List.replicate 16 0)) 68 := by rw [hm2, hg2]; exact Blk.made _ _ _
    have l2 : (wa).heap.size ≤ g2 := by rw [hg2]; exact N1.size
    clear hm2 hg2
    have N2 : Ext wa m2 := N1.trans b2
    refine hK.out _ _ N2 (fun hHeld => ?_)
    clear hK K
    try simp only [Act.put, nrm]
    refine rdy 9 rfl fun K hK => ?_
    go_simp
    refine (rsub_f _ Hqy.out.el Hqx.out.el).mono ?_
    rintro e m3 ⟨v3, rfl, e3, b3⟩
    obtain ⟨z3, hz3, l3⟩ := e3.form
    subst hz3
    have z2 := z2.below b3
    have N3 : Ext wa m3 := N2.trans b3
    refine hK.out _ _ N3 (fun hHeld => ?_)
    clear hK K
    try simp only [Act.put, nrm]
    refine rdy 10 rfl fun K hK => ?_
    go_simp
    refine (zcn _ e1 e3).mono ?_
    rintro e m4 ⟨v4, rfl, e4, b4⟩
    obtain ⟨z4, hz4, l4⟩ := e4.form
    subst hz4
    have z2 := z2.below b4
    have N4 : Ext wa m4 := N3.trans b4
    refine hK.out _ _ N4 (fun hHeld => ?_)
    clear hK K
    try simp only [Act.put, nrm]
    refine rdy 12 rfl fun K hK => ?_
    refine zan (by rfl) ?_
    refine zak _ _ _ rfl g2 (ints .i64 z4) rfl rfl _ _ z2 (by rw [zac, l4]; rfl) (zau l4) (zao _ _) ?_
    intro m5 hb5 hg5
    have N5 : Ext wa m5 := zad N4 hg5 l2
    refine hK.out _ _ N5 (fun hHeld => ?_)
    clear hK K
    try simp only [Act.put, nrm]
    refine dne ?_
    go_wp2_with fail
    go_meet
    exact ⟨_, rfl, l2, ⟨z4, l4, hb5, e4⟩, N5⟩
  ·refine zan (by rfl) ?_
   refine zax (some 5) _ (ints .i64 (List.replicate 16 0)) rfl rfl Tryz.zeroValue68 ?_
   obtain ⟨m1, hm1⟩ : ∃ wNew, wNew = World.alloc wa.drew (.cells ((ints .i64 (List.replicate 16 0))).toArray 68) := ⟨_, rfl⟩
   rw [← hm1]
   have b1 : Ext wa.drew m1 := by rw [hm1]; exact Ext.alloc _ _
   obtain ⟨g1, hg1⟩ : ∃ gNew, gNew = (wa.drew).heap.size := ⟨_, rfl⟩
   rw [← hg1]
   have z1 : Blk m1 g1 (ints .i64 (List.replicate 16 0)) 68 := by rw [hm1, hg1]; exact Blk.made _ _ _
   have l1 : (wa).heap.size ≤ g1 := by rw [hg1]; exact B0.size
   clear hm1 hg1
   have N1 : Ext wa m1 := B0.trans b1
   refine hK.out _ _ N1 (fun hHeld => ?_)
   clear hK K
   try simp only [Act.put, nrm]
   refine rdy 4 rfl fun K hK => ?_
   go_simp
   refine (rsub_f _ Hpy.out.el Hpx.out.el).mono ?_
   rintro e m2 ⟨v2, rfl, e2, b2⟩
   obtain ⟨z2, hz2, l2⟩ := e2.form
   subst hz2
   have z1 := z1.below b2
   have N2 : Ext wa m2 := N1.trans b2
   refine hK.out _ _ N2 (fun hHeld => ?_)
   clear hK K
   try simp only [Act.put, nrm]
   refine rdy 9 rfl fun K hK => ?_
   go_simp
   refine (rsub_f _ Hqy.out.el Hqx.out.el).mono ?_
   rintro e m3 ⟨v3, rfl, e3, b3⟩
   obtain ⟨z3, hz3, l3⟩ := e3.form
   subst hz3
   have z1 := z1.below b3
   have N3 : Ext wa m3 := N2.trans b3
   refine hK.out _ _ N3 (fun hHeld => ?_)
   clear hK K
   try simp only [Act.put, nrm]
   refine rdy 10 rfl fun K hK => ?_
   go_simp
   refine (zcn _ e2 e3).mono ?_
   rintro e m4 ⟨v4, rfl, e4, b4⟩
   obtain ⟨z4, hz4, l4⟩ := e4.form
   subst hz4
   have z1 := z1.below b4
   have N4 : Ext wa m4 := N3.trans b4
   refine hK.out _ _ N4 (fun hHeld => ?_)
   clear hK K
   try simp only [Act.put, nrm]
   refine rdy 12 rfl fun K hK => ?_
   refine zan (by rfl) ?_
   refine zak _ _ _ rfl g1 (ints .i64 z4) rfl rfl _ _ z1 (by rw [zac, l4]; rfl) (zau l4) (zao _ _) ?_
   intro m5 hb5 hg5
   have N5 : Ext wa m5 := zad N4 hg5 l1
   refine hK.out _ _ N5 (fun hHeld => ?_)
   clear hK K
   try simp only [Act.put, nrm]
   refine dne ?_
   go_wp2_with fail
   go_meet
   exact ⟨_, rfl, l1, ⟨z4, l4, hb5, e4⟩, N5⟩
 case rest =>
  obtain ⟨TAa, rfl, hTg, hEl, hX⟩ := hcut
  have HTAa : Hid (A + 1 + 1 < TAa) := jh (Nat.lt_of_lt_of_le HR.out.lt hTg)
  have HP := jh (zaa HP.out hX)
  have HQ := jh (zaa HQ.out hX)
  have HR := jh (zaa HR.out hX)
  have HE := jh (HE.out.trans hX)
  have EAa := jh hEl
  have HO := jh (And.intro HO.out HTAa.out)
  clear hEl hX hTg
  generalize wc = wl1 at *
  try go_wp2_with fail
  try simp only [Act.put, nrm]
  go_cut [6] from 24 to 34 (fun vq wq => ∃ g, vq = .pointer (some ⟨g, 0, none⟩) ∧ wl1.heap.size ≤ g ∧ ElB wq g ((p.y + p.x) * (q.y + q.x)) ∧ Ext wl1 wq)
  case first =>
   have B0 : Ext wl1 wl1.drew := Ext.drew _
   refine wp_region_held_drew (S := fun w' => Ext wl1 w') (by kernel_rfl) B0 (fun hHeld => ?_)
   refine tke 0 (.pointer (some ⟨A, 16, none⟩)) rfl (zbl (.pointer (some ⟨A, 16, none⟩)) (by rfl) (fun w _ => by go_simp)) hHeld ?_
   simp only [Act.put, nrm]
   refine tke 1 (.agg (ints .i64 pb).toArray) rfl (yieldsIf_load_mid (by rfl) _ _ rfl A 16 rfl _ _ (fun w h => rng_y (zaa HP.out h) Hpx.out.len) Tryz.underlying68 rfl (zau Hpy.out.len)) hHeld ?_
   simp only [Act.put, nrm]
   refine tke 2 (.pointer (some ⟨A, 0, none⟩)) rfl (zbl (.pointer (some ⟨A, 0, none⟩)) (by rfl) (fun w _ => by go_simp)) hHeld ?_
   simp only [Act.put, nrm]
   refine tke 3 (.agg (ints .i64 pa).toArray) rfl (yieldsIf_load_mid (by rfl) _ _ rfl A 0 rfl _ _ (fun w h => rng_x (zaa HP.out h)) Tryz.underlying68 rfl (zau Hpx.out.len)) hHeld ?_
   simp only [Act.put, nrm]
   refine tke 5 (.pointer (some ⟨(A + 1), 16, none⟩)) rfl (zbl (.pointer (some ⟨(A + 1), 16, none⟩)) (by rfl) (fun w _ => by go_simp)) hHeld ?_
   simp only [Act.put, nrm]
   refine tke 6 (.agg (ints .i64 qb).toArray) rfl (yieldsIf_load_mid (by rfl) _ _ rfl (A + 1) 16 rfl _ _ (fun w h => rng_y (zaa HQ.out h) Hqx.out.len) Tryz.underlying68 rfl (zau Hqy.out.len)) hHeld ?_
   simp only [Act.put, nrm]
   refine tke 7 (.pointer (some ⟨(A + 1), 0, none⟩)) rfl (zbl (.pointer (some ⟨(A + 1), 0, none⟩)) (by rfl) (fun w _ => by go_simp)) hHeld ?_
   simp only [Act.put, nrm]
   refine tke 8 (.agg (ints .i64 qa).toArray) rfl (yieldsIf_load_mid (by rfl) _ _ rfl (A + 1) 0 rfl _ _ (fun w h => rng_x (zaa HQ.out h)) Tryz.underlying68 rfl (zau Hqx.out.len)) hHeld ?_
   simp only [Act.put, nrm]
   refine wpAnyH_ready (rs := [4, 11]) (by kernel_rfl) (by simp) (AllReadyH.cons rfl (fun K hK => ?_) (AllReadyH.cons rfl (fun K hK => ?_) AllReadyH.nil))
   ·go_simp
    refine (radd_f _ Hpy.out.el Hpx.out.el).mono ?_
    rintro e m1 ⟨v1, rfl, e1, b1⟩
    obtain ⟨z1, hz1, l1⟩ := e1.form
    subst hz1
    have N1 : Ext wl1 m1 := B0.trans b1
    refine hK.out _ _ N1 (fun hHeld => ?_)
    clear hK K
    try simp only [Act.put, nrm]
    refine wpAnyH_ready (rs := [9, 11]) (by kernel_rfl) (by simp) (AllReadyH.cons rfl (fun K hK => ?_) (AllReadyH.cons rfl (fun K hK => ?_) AllReadyH.nil))
    ·go_simp
     refine (radd_f _ Hqy.out.el Hqx.out.el).mono ?_
     rintro e m2 ⟨v2, rfl, e2, b2⟩
     obtain ⟨z2, hz2, l2⟩ := e2.form
     subst hz2
     have N2 : Ext wl1 m2 := N1.trans b2
     refine hK.out _ _ N2 (fun hHeld => ?_)
     clear hK K
     try simp only [Act.put, nrm]
     refine wpAnyH_ready (rs := [10, 11]) (by kernel_rfl) (by simp) (AllReadyH.cons rfl (fun K hK => ?_) (AllReadyH.cons rfl (fun K hK => ?_) AllReadyH.nil))
     ·go_simp
      refine (zcn _ e1 e2).mono ?_
      rintro e m3 ⟨v3, rfl, e3, b3⟩
      obtain ⟨z3, hz3, l3⟩ := e3.form
      subst hz3
      have N3 : Ext wl1 m3 := N2.trans b3
      refine hK.out _ _ N3 (fun hHeld => ?_)
      clear hK K
      try simp only [Act.put, nrm]
      refine rdy 11 rfl fun K hK => ?_
      refine zan (by rfl) ?_
      refine zax (some 6) _ (ints .i64 (List.replicate 16 0)) rfl rfl Tryz.zeroValue68 ?_
      obtain ⟨m4, hm4⟩ : ∃ wNew, wNew = World.alloc m3 (.cells ((ints .i64 (List.replicate 16 0))).toArray 68) := ⟨_, rfl⟩
      rw [← hm4]
      have b4 : Ext m3 m4 := by rw [hm4]; exact Ext.alloc _ _
      obtain ⟨g4, hg4⟩ : ∃ gNew, gNew = (m3).heap.size := ⟨_, rfl⟩
      rw [← hg4]
      have z4 : Blk m4 g4 (ints .i64 (List.replicate 16 0)) 68 := by rw [hm4, hg4]; exact Blk.made _ _ _
      have l4 : (wl1).heap.size ≤ g4 := by rw [hg4]; exact N3.size
      clear hm4 hg4
      have N4 : Ext wl1 m4 := N3.trans b4
      refine hK.out _ _ N4 (fun hHeld => ?_)
      clear hK K
      try simp only [Act.put, nrm]
      refine rdy 12 rfl fun K hK => ?_
      refine zan (by rfl) ?_
      refine zak _ _ _ rfl g4 (ints .i64 z3) rfl rfl _ _ z4 (by rw [zac, l3]; rfl) (zau l3) (zao _ _) ?_
      intro m5 hb5 hg5
      have N5 : Ext wl1 m5 := zad N4 hg5 l4
      refine hK.out _ _ N5 (fun hHeld => ?_)
      clear hK K
      try simp only [Act.put, nrm]
      refine dne ?_
      go_wp2_with fail
      go_meet
      exact ⟨_, rfl, l4, ⟨z3, l3, hb5, e3⟩, N5⟩
     ·refine zan (by rfl) ?_
      refine zax (some 6) _ (ints .i64 (List.replicate 16 0)) rfl rfl Tryz.zeroValue68 ?_
      obtain ⟨m3, hm3⟩ : ∃ wNew, wNew = World.alloc m2 (.cells ((ints .i64 (List.replicate 16 0))).toArray 68) := ⟨_, rfl⟩
      rw [← hm3]
      have b3 : Ext m2 m3 := by rw [hm3]; exact Ext.alloc _ _
      obtain ⟨g3, hg3⟩ : ∃ gNew, gNew = (m2).heap.size := ⟨_, rfl⟩
      rw [← hg3]
      have z3 : Blk m3 g3 (ints .i64 (List.replicate 16 0)) 68 := by rw [hm3, hg3]; exact Blk.made _ _ _
      have l3 : (wl1).heap.size ≤ g3 := by rw [hg3]; exact N2.size
      clear hm3 hg3
      have N3 : Ext wl1 m3 := N2.trans b3
      refine hK.out _ _ N3 (fun hHeld => ?_)
      clear hK K
      try simp only [Act.put, nrm]
      refine rdy 10 rfl fun K hK => ?_
      go_simp
      refine (zcn _ e1 e2).mono ?_
      rintro e m4 ⟨v4, rfl, e4, b4⟩
      obtain ⟨z4, hz4, l4⟩ := e4.form
      subst hz4
      have z3 := z3.below b4
      have N4 : Ext wl1 m4 := N3.trans b4
      refine hK.out _ _ N4 (fun hHeld => ?_)
      clear hK K
      try simp only [Act.put, nrm]
      refine rdy 12 rfl fun K hK => ?_
      refine zan (by rfl) ?_
      refine zak _ _ _ rfl g3 (ints .i64 z4) rfl rfl _ _ z3 (by rw [zac, l4]; rfl) (zau l4) (zao _ _) ?_
      intro m5 hb5 hg5
      have N5 : Ext wl1 m5 := zad N4 hg5 l3
      refine hK.out _ _ N5 (fun hHeld => ?_)
      clear hK K
      try simp only [Act.put, nrm]
      refine dne ?_
      go_wp2_with fail
      go_meet
      exact ⟨_, rfl, l3, ⟨z4, l4, hb5, e4⟩, N5⟩
    ·refine zan (by rfl) ?_
     refine zax (some 6) _ (ints .i64 (List.replicate 16 0)) rfl rfl Tryz.zeroValue68 ?_
     obtain ⟨m2, hm2⟩ : ∃ wNew, wNew = World.alloc m1 (.cells ((ints .i64 (List.replicate 16 0))).toArray 68) := ⟨_, rfl⟩
     rw [← hm2]
     have b2 : Ext m1 m2 := by rw [hm2]; exact Ext.alloc _ _
     obtain ⟨g2, hg2⟩ : ∃ gNew, gNew = (m1).heap.size := ⟨_, rfl⟩
     rw [← hg2]
     have z2 : Blk m2 g2 (ints .i64 (List.replicate 16 0)) 68 := by rw [hm2, hg2]; exact Blk.made _ _ _
     have l2 : (wl1).heap.size ≤ g2 := by rw [hg2]; exact N1.size
     clear hm2 hg2
     have N2 : Ext wl1 m2 := N1.trans b2
     refine hK.out _ _ N2 (fun hHeld => ?_)
     clear hK K
     try simp only [Act.put, nrm]
     refine rdy 9 rfl fun K hK => ?_
     go_simp
     refine (radd_f _ Hqy.out.el Hqx.out.el).mono ?_
     rintro e m3 ⟨v3, rfl, e3, b3⟩
     obtain ⟨z3, hz3, l3⟩ := e3.form
     subst hz3
     have z2 := z2.below b3
     have N3 : Ext wl1 m3 := N2.trans b3
     refine hK.out _ _ N3 (fun hHeld => ?_)
     clear hK K
     try simp only [Act.put, nrm]
     refine rdy 10 rfl fun K hK => ?_
     go_simp
     refine (zcn _ e1 e3).mono ?_
     rintro e m4 ⟨v4, rfl, e4, b4⟩
     obtain ⟨z4, hz4, l4⟩ := e4.form
     subst hz4
     have z2 := z2.below b4
     have N4 : Ext wl1 m4 := N3.trans b4
     refine hK.out _ _ N4 (fun hHeld => ?_)
     clear hK K
     try simp only [Act.put, nrm]
     refine rdy 12 rfl fun K hK => ?_
     refine zan (by rfl) ?_
     refine zak _ _ _ rfl g2 (ints .i64 z4) rfl rfl _ _ z2 (by rw [zac, l4]; rfl) (zau l4) (zao _ _) ?_
     intro m5 hb5 hg5
     have N5 : Ext wl1 m5 := zad N4 hg5 l2
     refine hK.out _ _ N5 (fun hHeld => ?_)
     clear hK K
     try simp only [Act.put, nrm]
     refine dne ?_
     go_wp2_with fail
     go_meet
     exact ⟨_, rfl, l2, ⟨z4, l4, hb5, e4⟩, N5⟩
   ·refine zan (by rfl) ?_
    refine zax (some 6) _ (ints .i64 (List.replicate 16 0)) rfl rfl Tryz.zeroValue68 ?_
    obtain ⟨m1, hm1⟩ : ∃ wNew, wNew = World.alloc wl1.drew (.cells ((ints .i64 (List.replicate 16 0))).toArray 68) := ⟨_, rfl⟩
    rw [← hm1]
    have b1 : Ext wl1.drew m1 := by rw [hm1]; exact Ext.alloc _ _
    obtain ⟨g1, hg1⟩ : ∃ gNew, gNew = (wl1.drew).heap.size := ⟨_, rfl⟩
    rw [← hg1]
    have z1 : Blk m1 g1 (ints .i64 (List.replicate 16 0)) 68 := by rw [hm1, hg1]; exact Blk.made _ _ _
    have l1 : (wl1).heap.size ≤ g1 := by rw [hg1]; exact B0.size
    clear hm1 hg1
    have N1 : Ext wl1 m1 := B0.trans b1
    refine hK.out _ _ N1 (fun hHeld => ?_)
    clear hK K
    try simp only [Act.put, nrm]
    refine rdy 4 rfl fun K hK => ?_
    go_simp
    refine (radd_f _ Hpy.out.el Hpx.out.el).mono ?_
    rintro e m2 ⟨v2, rfl, e2, b2⟩
    obtain ⟨z2, hz2, l2⟩ := e2.form
    subst hz2
    have z1 := z1.below b2
    have N2 : Ext wl1 m2 := N1.trans b2
    refine hK.out _ _ N2 (fun hHeld => ?_)
    clear hK K
    try simp only [Act.put, nrm]
    refine rdy 9 rfl fun K hK => ?_
    go_simp
    refine (radd_f _ Hqy.out.el Hqx.out.el).mono ?_
    rintro e m3 ⟨v3, rfl, e3, b3⟩
    obtain ⟨z3, hz3, l3⟩ := e3.form
    subst hz3
    have z1 := z1.below b3
    have N3 : Ext wl1 m3 := N2.trans b3
    refine hK.out _ _ N3 (fun hHeld => ?_)
    clear hK K
    try simp only [Act.put, nrm]
    refine rdy 10 rfl fun K hK => ?_
    go_simp
    refine (zcn _ e2 e3).mono ?_
    rintro e m4 ⟨v4, rfl, e4, b4⟩
    obtain ⟨z4, hz4, l4⟩ := e4.form
    subst hz4
    have z1 := z1.below b4
    have N4 : Ext wl1 m4 := N3.trans b4
    refine hK.out _ _ N4 (fun hHeld => ?_)
    clear hK K
    try simp only [Act.put, nrm]
    refine rdy 12 rfl fun K hK => ?_
    refine zan (by rfl) ?_
    refine zak _ _ _ rfl g1 (ints .i64 z4) rfl rfl _ _ z1 (by rw [zac, l4]; rfl) (zau l4) (zao _ _) ?_
    intro m5 hb5 hg5
    have N5 : Ext wl1 m5 := zad N4 hg5 l1
    refine hK.out _ _ N5 (fun hHeld => ?_)
    clear hK K
    try simp only [Act.put, nrm]
    refine dne ?_
    go_wp2_with fail
    go_meet
    exact ⟨_, rfl, l1, ⟨z4, l4, hb5, e4⟩, N5⟩
  case rest =>
   obtain ⟨TBb, rfl, hTg, hEl, hX⟩ := hcut
   have HTBb : Hid (TAa < TBb) := jh (Nat.lt_of_lt_of_le EAa.out.lt hTg)
   have EAa := jh (EAa.out.ext hX)
   have HP := jh (zaa HP.out hX)
   have HQ := jh (zaa HQ.out hX)
   have HR := jh (zaa HR.out hX)
   have HE := jh (HE.out.trans hX)
   have EBb := jh hEl
   have HO := jh (And.intro HO.out HTBb.out)
   clear hEl hX hTg
   generalize wc = wl2 at *
   try go_wp2_with fail
   try simp only [Act.put, nrm]
   go_cut [7] from 35 to 43 (fun vq wq => ∃ g, vq = .pointer (some ⟨g, 0, none⟩) ∧ wl2.heap.size ≤ g ∧ ElB wq g (p.t * q.t * (dF + dF)) ∧ Ext wl2 wq)
   case first =>
    have B0 : Ext wl2 wl2.drew := Ext.drew _
    refine wp_region_held_drew (S := fun w' => Ext wl2 w') (by kernel_rfl) B0 (fun hHeld => ?_)
    refine tke 0 (.pointer (some ⟨A, 48, none⟩)) rfl (zbl (.pointer (some ⟨A, 48, none⟩)) (by rfl) (fun w _ => by go_simp)) hHeld ?_
    simp only [Act.put, nrm]
    refine tke 1 (.agg (ints .i64 pd).toArray) rfl (yieldsIf_load_mid (by rfl) _ _ rfl A 48 rfl _ _ (fun w h => rng_t (zaa HP.out h) Hpx.out.len Hpy.out.len Hpz.out.len) Tryz.underlying68 rfl (zau Hpt.out.len)) hHeld ?_
    simp only [Act.put, nrm]
    refine tke 2 (.pointer (some ⟨(A + 1), 48, none⟩)) rfl (zbl (.pointer (some ⟨(A + 1), 48, none⟩)) (by rfl) (fun w _ => by go_simp)) hHeld ?_
    simp only [Act.put, nrm]
    refine tke 3 (.agg (ints .i64 qd).toArray) rfl (yieldsIf_load_mid (by rfl) _ _ rfl (A + 1) 48 rfl _ _ (fun w h => rng_t (zaa HQ.out h) Hqx.out.len Hqy.out.len Hqz.out.len) Tryz.underlying68 rfl (zau Hqt.out.len)) hHeld ?_
    simp only [Act.put, nrm]
    refine tke 5 (.agg (ints .i64 dL).toArray) rfl (yieldsIf_load_mid (by rfl) _ _ rfl 2 0 rfl _ _ (fun w h => HG0.out.ext (HE.out.trans h)) Tryz.underlying68 rfl (zau d_el.len)) hHeld ?_
    simp only [Act.put, nrm]
    refine tke 6 (.agg (ints .i64 dL).toArray) rfl (yieldsIf_load_mid (by rfl) _ _ rfl 2 0 rfl _ _ (fun w h => HG0.out.ext (HE.out.trans h)) Tryz.underlying68 rfl (zau d_el.len)) hHeld ?_
    simp only [Act.put, nrm]
    refine wpAnyH_ready (rs := [4, 9]) (by kernel_rfl) (by simp) (AllReadyH.cons rfl (fun K hK => ?_) (AllReadyH.cons rfl (fun K hK => ?_) AllReadyH.nil))
    ·go_simp
     refine (zcn _ Hpt.out.el Hqt.out.el).mono ?_
     rintro e m1 ⟨v1, rfl, e1, b1⟩
     obtain ⟨z1, hz1, l1⟩ := e1.form
     subst hz1
     have N1 : Ext wl2 m1 := B0.trans b1
     refine hK.out _ _ N1 (fun hHeld => ?_)
     clear hK K
     try simp only [Act.put, nrm]
     refine wpAnyH_ready (rs := [7, 9]) (by kernel_rfl) (by simp) (AllReadyH.cons rfl (fun K hK => ?_) (AllReadyH.cons rfl (fun K hK => ?_) AllReadyH.nil))
     ·go_simp
      refine (radd_f _ d_el.el d_el.el).mono ?_
      rintro e m2 ⟨v2, rfl, e2, b2⟩
      obtain ⟨z2, hz2, l2⟩ := e2.form
      subst hz2
      have N2 : Ext wl2 m2 := N1.trans b2
      refine hK.out _ _ N2 (fun hHeld => ?_)
      clear hK K
      try simp only [Act.put, nrm]
      refine wpAnyH_ready (rs := [8, 9]) (by kernel_rfl) (by simp) (AllReadyH.cons rfl (fun K hK => ?_) (AllReadyH.cons rfl (fun K hK => ?_) AllReadyH.nil))
      ·go_simp
       refine (zcn _ e1 e2).mono ?_
       rintro e m3 ⟨v3, rfl, e3, b3⟩
       obtain ⟨z3, hz3, l3⟩ := e3.form
       subst hz3
       have N3 : Ext wl2 m3 := N2.trans b3
       refine hK.out _ _ N3 (fun hHeld => ?_)
       clear hK K
       try simp only [Act.put, nrm]
       refine rdy 9 rfl fun K hK => ?_
       refine zan (by rfl) ?_
       refine zax (some 7) _ (ints .i64 (List.replicate 16 0)) rfl rfl Tryz.zeroValue68 ?_
       obtain ⟨m4, hm4⟩ : ∃ wNew, wNew = World.alloc m3 (.cells ((ints .i64 (List.replicate 16 0))).toArray 68) := ⟨_, rfl⟩
       rw [← hm4]
       have b4 : Ext m3 m4 := by rw [hm4]; exact Ext.alloc _ _
       obtain ⟨g4, hg4⟩ : ∃ gNew, gNew = (m3).heap.size := ⟨_, rfl⟩
       rw [← hg4]
       have z4 : Blk m4 g4 (ints .i64 (List.replicate 16 0)) 68 := by rw [hm4, hg4]; exact Blk.made _ _ _
       have l4 : (wl2).heap.size ≤ g4 := by rw [hg4]; exact N3.size
       clear hm4 hg4
       have N4 : Ext wl2 m4 := N3.trans b4
       refine hK.out _ _ N4 (fun hHeld => ?_)
       clear hK K
       try simp only [Act.put, nrm]
       refine rdy 10 rfl fun K hK => ?_
       refine zan (by rfl) ?_
       refine zak _ _ _ rfl g4 (ints .i64 z3) rfl rfl _ _ z4 (by rw [zac, l3]; rfl) (zau l3) (zao _ _) ?_
       intro m5 hb5 hg5
       have N5 : Ext wl2 m5 := zad N4 hg5 l4
       refine hK.out _ _ N5 (fun hHeld => ?_)
       clear hK K
       try simp only [Act.put, nrm]
       refine dne ?_
       go_wp2_with fail
       go_meet
       exact ⟨_, rfl, l4, ⟨z3, l3, hb5, e3⟩, N5⟩
      ·refine zan (by rfl) ?_
       refine zax (some 7) _ (ints .i64 (List.replicate 16 0)) rfl rfl Tryz.zeroValue68 ?_
       obtain ⟨m3, hm3⟩ : ∃ wNew, wNew = World.alloc m2 (.cells ((ints .i64 (List.replicate 16 0))).toArray 68) := ⟨_, rfl⟩
       rw [← hm3]
       have b3 : Ext m2 m3 := by rw [hm3]; exact Ext.alloc _ _
       obtain ⟨g3, hg3⟩ : ∃ gNew, gNew = (m2).heap.size := ⟨_, rfl⟩
       rw [← hg3]
       have z3 : Blk m3 g3 (ints .i64 (List.replicate 16 0)) 68 := by rw [hm3, hg3]; exact Blk.made _ _ _
       have l3 : (wl2).heap.size ≤ g3 := by rw [hg3]; exact N2.size
       clear hm3 hg3
       have N3 : Ext wl2 m3 := N2.trans b3
       refine hK.out _ _ N3 (fun hHeld => ?_)
       clear hK K
       try simp only [Act.put, nrm]
       refine rdy 8 rfl fun K hK => ?_
       go_simp
       refine (zcn _ e1 e2).mono ?_
       rintro e m4 ⟨v4, rfl, e4, b4⟩
       obtain ⟨z4, hz4, l4⟩ := e4.form
       subst hz4
       have z3 := z3.below b4
       have N4 : Ext wl2 m4 := N3.trans b4
       refine hK.out _ _ N4 (fun hHeld => ?_)
       clear hK K
       try simp only [Act.put, nrm]
       refine rdy 10 rfl fun K hK => ?_
       refine zan (by rfl) ?_
       refine zak _ _ _ rfl g3 (ints .i64 z4) rfl rfl _ _ z3 (by rw [zac, l4]; rfl) (zau l4) (zao _ _) ?_
       intro m5 hb5 hg5
       have N5 : Ext wl2 m5 := zad N4 hg5 l3
       refine hK.out _ _ N5 (fun hHeld => ?_)
       clear hK K
       try simp only [Act.put, nrm]
       refine dne ?_
       go_wp2_with fail
       go_meet
       exact ⟨_, rfl, l3, ⟨z4, l4, hb5, e4⟩, N5⟩
     ·refine zan (by rfl) ?_
      refine zax (some 7) _ (ints .i64 (List.replicate 16 0)) rfl rfl Tryz.zeroValue68 ?_
      obtain ⟨m2, hm2⟩ : ∃ wNew, wNew = World.alloc m1 (.cells ((ints .i64 (List.replicate 16 0))).toArray 68) := ⟨_, rfl⟩
      rw [← hm2]
      have b2 : Ext m1 m2 := by rw [hm2]; exact Ext.alloc _ _
      obtain ⟨g2, hg2⟩ : ∃ gNew, gNew = (m1).heap.size := ⟨_, rfl⟩
      rw [← hg2]
      have z2 : Blk m2 g2 (ints .i64 (List.replicate 16 0)) 68 := by rw [hm2, hg2]; exact Blk.made _ _ _
      have l2 : (wl2).heap.size ≤ g2 := by rw [hg2]; exact N1.size
      clear hm2 hg2
      have N2 : Ext wl2 m2 := N1.trans b2
      refine hK.out _ _ N2 (fun hHeld => ?_)
      clear hK K
      try simp only [Act.put, nrm]
      refine rdy 7 rfl fun K hK => ?_
      go_simp
      refine (radd_f _ d_el.el d_el.el).mono ?_
      rintro e m3 ⟨v3, rfl, e3, b3⟩
      obtain ⟨z3, hz3, l3⟩ := e3.form
      subst hz3
      have z2 := z2.below b3
      have N3 : Ext wl2 m3 := N2.trans b3
      refine hK.out _ _ N3 (fun hHeld => ?_)
      clear hK K
      try simp only [Act.put, nrm]
      refine rdy 8 rfl fun K hK => ?_
      go_simp
      refine (zcn _ e1 e3).mono ?_
      rintro e m4 ⟨v4, rfl, e4, b4⟩
      obtain ⟨z4, hz4, l4⟩ := e4.form
      subst hz4
      have z2 := z2.below b4
      have N4 : Ext wl2 m4 := N3.trans b4
      refine hK.out _ _ N4 (fun hHeld => ?_)
      clear hK K
      try simp only [Act.put, nrm]
      refine rdy 10 rfl fun K hK => ?_
      refine zan (by rfl) ?_
      refine zak _ _ _ rfl g2 (ints .i64 z4) rfl rfl _ _ z2 (by rw [zac, l4]; rfl) (zau l4) (zao _ _) ?_
      intro m5 hb5 hg5
      have N5 : Ext wl2 m5 := zad N4 hg5 l2
      refine hK.out _ _ N5 (fun hHeld => ?_)
      clear hK K
      try simp only [Act.put, nrm]
      refine dne ?_
      go_wp2_with fail
      go_meet
      exact ⟨_, rfl, l2, ⟨z4, l4, hb5, e4⟩, N5⟩
    ·refine zan (by rfl) ?_
     refine zax (some 7) _ (ints .i64 (List.replicate 16 0)) rfl rfl Tryz.zeroValue68 ?_
     obtain ⟨m1, hm1⟩ : ∃ wNew, wNew = World.alloc wl2.drew (.cells ((ints .i64 (List.replicate 16 0))).toArray 68) := ⟨_, rfl⟩
     rw [← hm1]
     have b1 : Ext wl2.drew m1 := by rw [hm1]; exact Ext.alloc _ _
     obtain ⟨g1, hg1⟩ : ∃ gNew, gNew = (wl2.drew).heap.size := ⟨_, rfl⟩
     rw [← hg1]
     have z1 : Blk m1 g1 (ints .i64 (List.replicate 16 0)) 68 := by rw [hm1, hg1]; exact Blk.made _ _ _
     have l1 : (wl2).heap.size ≤ g1 := by rw [hg1]; exact B0.size
     clear hm1 hg1
     have N1 : Ext wl2 m1 := B0.trans b1
     refine hK.out _ _ N1 (fun hHeld => ?_)
     clear hK K
     try simp only [Act.put, nrm]
     refine rdy 4 rfl fun K hK => ?_
     go_simp
     refine (zcn _ Hpt.out.el Hqt.out.el).mono ?_
     rintro e m2 ⟨v2, rfl, e2, b2⟩
     obtain ⟨z2, hz2, l2⟩ := e2.form
     subst hz2
     have z1 := z1.below b2
     have N2 : Ext wl2 m2 := N1.trans b2
     refine hK.out _ _ N2 (fun hHeld => ?_)
     clear hK K
     try simp only [Act.put, nrm]
     refine rdy 7 rfl fun K hK => ?_
     go_simp
     refine (radd_f _ d_el.el d_el.el).mono ?_
     rintro e m3 ⟨v3, rfl, e3, b3⟩
     obtain ⟨z3, hz3, l3⟩ := e3.form
     subst hz3
     have z1 := z1.below b3
     have N3 : Ext wl2 m3 := N2.trans b3
     refine hK.out _ _ N3 (fun hHeld => ?_)
     clear hK K
     try simp only [Act.put, nrm]
     refine rdy 8 rfl fun K hK => ?_
     go_simp
     refine (zcn _ e2 e3).mono ?_
     rintro e m4 ⟨v4, rfl, e4, b4⟩
     obtain ⟨z4, hz4, l4⟩ := e4.form
     subst hz4
     have z1 := z1.below b4
     have N4 : Ext wl2 m4 := N3.trans b4
     refine hK.out _ _ N4 (fun hHeld => ?_)
     clear hK K
     try simp only [Act.put, nrm]
     refine rdy 10 rfl fun K hK => ?_
     refine zan (by rfl) ?_
     refine zak _ _ _ rfl g1 (ints .i64 z4) rfl rfl _ _ z1 (by rw [zac, l4]; rfl) (zau l4) (zao _ _) ?_
     intro m5 hb5 hg5
     have N5 : Ext wl2 m5 := zad N4 hg5 l1
     refine hK.out _ _ N5 (fun hHeld => ?_)
     clear hK K
     try simp only [Act.put, nrm]
     refine dne ?_
     go_wp2_with fail
     go_meet
     exact ⟨_, rfl, l1, ⟨z4, l4, hb5, e4⟩, N5⟩
   case rest =>
    obtain ⟨TCc, rfl, hTg, hEl, hX⟩ := hcut
    have HTCc : Hid (TBb < TCc) := jh (Nat.lt_of_lt_of_le EBb.out.lt hTg)
    have EAa := jh (EAa.out.ext hX)
    have EBb := jh (EBb.out.ext hX)
    have HP := jh (zaa HP.out hX)
    have HQ := jh (zaa HQ.out hX)
    have HR := jh (zaa HR.out hX)
    have HE := jh (HE.out.trans hX)
    have ECc := jh hEl
    have HO := jh (And.intro HO.out HTCc.out)
    clear hEl hX hTg
    generalize wc = wl3 at *
    go_wp2_with (first | (refine wpList_load_mid rfl _ _ rfl A 32 rfl _ _ (rng_z (HP.out) Hpx.out.len Hpy.out.len) Tryz.underlying68 rfl (zau Hpz.out.len) ?_) | (refine wpList_load_mid rfl _ _ rfl (A + 1) 32 rfl _ _ (rng_z (HQ.out) Hqx.out.len Hqy.out.len) Tryz.underlying68 rfl (zau Hqz.out.len) ?_))
    refine (zcn wl3 Hpz.out.el Hqz.out.el).mono ?_
    rintro e wl4 ⟨r, rfl, hr, hb⟩
    obtain ⟨z, hz, lz⟩ := hr.form
    subst hz
    have EAa := jh (EAa.out.ext hb)
    have EBb := jh (EBb.out.ext hb)
    have ECc := jh (ECc.out.ext hb)
    have HP := jh (zaa HP.out hb)
    have HQ := jh (zaa HQ.out hb)
    have HR := jh (zaa HR.out hb)
    have HE := jh (HE.out.trans hb)
    clear hb
    have HZ := jh (Blk.made wl4 (ints .i64 (List.replicate 16 0)) 68)
    have HEA := jh (Ext.alloc wl4 (.cells (ints .i64 (List.replicate 16 0)).toArray 68))
    have HI := jh (zau lz)
    have HL : Hid ((ints .i64 z).length = (ints .i64 (List.replicate 16 0)).length) := jh (by rw [zac, lz]; rfl)
    go_upto_region 5 with (refine zab rfl _ _ _ rfl wl4.heap.size (ints .i64 z) rfl rfl _ _ HZ.out HL.out HI.out (zao _ _) ?_; intro wl5 hbm hgm)
    have HX := jh (zad HEA.out hgm (Nat.le_refl _))
    obtain ⟨TEe, hT⟩ : ∃ T, T = wl4.heap.size := ⟨_, rfl⟩
    have HTEe : Hid (TCc < TEe) := jh (by rw [hT]; exact ECc.out.lt)
    rw [← hT] at hbm ⊢
    have EAa := jh (EAa.out.ext HX.out)
    have EBb := jh (EBb.out.ext HX.out)
    have ECc := jh (ECc.out.ext HX.out)
    have HP := jh (zaa HP.out HX.out)
    have HQ := jh (zaa HQ.out HX.out)
    have HR := jh (zaa HR.out HX.out)
    have HE := jh (HE.out.trans HX.out)
    have EEe : Hid (ElB wl5 TEe (p.z * q.z)) := jh ⟨z, lz, hbm, hr⟩
    have HO := jh (And.intro HO.out HTEe.out)
    clear hbm hgm HZ HEA HX hT hr HI HL lz
    obtain ⟨zEe, lEe, bEe, eEe⟩ := EEe.out
    have HbEe := jh bEe
    have HeEe := jh eEe
    have HlEe := jh lEe
    have HiEe := jh (zau lEe)
    clear bEe eEe lEe
    go_wp2_with (first | (refine zae rfl _ _ rfl TEe rfl _ _ _ _ HbEe.out Tryz.underlying68 HiEe.out ?_))
    refine (radd_f wl5 HeEe.out HeEe.out).mono ?_
    rintro e wl6 ⟨r, rfl, hr, hb⟩
    obtain ⟨z, hz, lz⟩ := hr.form
    subst hz
    have EAa := jh (EAa.out.ext hb)
    have EBb := jh (EBb.out.ext hb)
    have ECc := jh (ECc.out.ext hb)
    have EEe := jh (EEe.out.ext hb)
    have HP := jh (zaa HP.out hb)
    have HQ := jh (zaa HQ.out hb)
    have HR := jh (zaa HR.out hb)
    have HE := jh (HE.out.trans hb)
    clear hb
    obtain ⟨zEe, lEe, bEe, eEe⟩ := EEe.out
    have HbEe := jh bEe
    have HeEe := jh eEe
    have HlEe := jh lEe
    have HiEe := jh (zau lEe)
    clear bEe eEe lEe
    have HI := jh (zau lz)
    have HL : Hid ((ints .i64 z).length = (ints .i64 zEe).length) := jh (by rw [zac, zac, lz, HlEe.out])
    go_upto_region 6 with (refine zab rfl _ _ _ rfl TEe (ints .i64 z) rfl rfl _ _ HbEe.out HL.out HI.out (zao _ _) ?_; intro wl7 hbm hgm)
    have EAa := jh (EAa.out.grown hgm (by have := HO.out; simp; omega))
    have EBb := jh (EBb.out.grown hgm (by have := HO.out; simp; omega))
    have ECc := jh (ECc.out.grown hgm (by have := HO.out; simp; omega))
    have HP := jh (HP.out.grown hgm (by have := HO.out; simp; omega))
    have HQ := jh (HQ.out.grown hgm (by have := HO.out; simp; omega))
    have HR := jh (HR.out.grown hgm (by have := HO.out; simp; omega))
    have HE := jh (zad HE.out hgm (by have := HO.out; omega))
    have EEe : Hid (ElB wl7 TEe (p.z * q.z + p.z * q.z)) := jh ⟨z, lz, hbm, hr⟩
    clear hbm hgm hr HI HL lz
    obtain ⟨zBb, lBb, bBb, eBb⟩ := EBb.out
    have HbBb := jh bBb
    have HeBb := jh eBb
    have HlBb := jh lBb
    have HiBb := jh (zau lBb)
    clear bBb eBb lBb
    obtain ⟨zAa, lAa, bAa, eAa⟩ := EAa.out
    have HbAa := jh bAa
    have HeAa := jh eAa
    have HlAa := jh lAa
    have HiAa := jh (zau lAa)
    clear bAa eAa lAa
    go_wp2_with (first | (refine zae rfl _ _ rfl TBb rfl _ _ _ _ HbBb.out Tryz.underlying68 HiBb.out ?_) | (refine zae rfl _ _ rfl TAa rfl _ _ _ _ HbAa.out Tryz.underlying68 HiAa.out ?_))
    refine (rsub_f wl7 HeBb.out HeAa.out).mono ?_
    rintro e wl8 ⟨r, rfl, hr, hb⟩
    obtain ⟨z, hz, lz⟩ := hr.form
    subst hz
    have EAa := jh (EAa.out.ext hb)
    have EBb := jh (EBb.out.ext hb)
    have ECc := jh (ECc.out.ext hb)
    have EEe := jh (EEe.out.ext hb)
    have HP := jh (zaa HP.out hb)
    have HQ := jh (zaa HQ.out hb)
    have HR := jh (zaa HR.out hb)
    have HE := jh (HE.out.trans hb)
    clear hb
    have HZ := jh (Blk.made wl8 (ints .i64 (List.replicate 16 0)) 68)
    have HEA := jh (Ext.alloc wl8 (.cells (ints .i64 (List.replicate 16 0)).toArray 68))
    have HI := jh (zau lz)
    have HL : Hid ((ints .i64 z).length = (ints .i64 (List.replicate 16 0)).length) := jh (by rw [zac, lz]; rfl)
    go_upto_region 7 with (refine zab rfl _ _ _ rfl wl8.heap.size (ints .i64 z) rfl rfl _ _ HZ.out HL.out HI.out (zao _ _) ?_; intro wl9 hbm hgm)
    have HX := jh (zad HEA.out hgm (Nat.le_refl _))
    obtain ⟨THh, hT⟩ : ∃ T, T = wl8.heap.size := ⟨_, rfl⟩
    have HTHh : Hid (TEe < THh) := jh (by rw [hT]; exact EEe.out.lt)
    rw [← hT] at hbm ⊢
    have EAa := jh (EAa.out.ext HX.out)
    have EBb := jh (EBb.out.ext HX.out)
    have ECc := jh (ECc.out.ext HX.out)
    have EEe := jh (EEe.out.ext HX.out)
    have HP := jh (zaa HP.out HX.out)
    have HQ := jh (zaa HQ.out HX.out)
    have HR := jh (zaa HR.out HX.out)
    have HE := jh (HE.out.trans HX.out)
    have EHh : Hid (ElB wl9 THh (((p.y + p.x) * (q.y + q.x)) - ((p.y - p.x) * (q.y - q.x)))) := jh ⟨z, lz, hbm, hr⟩
    have HO := jh (And.intro HO.out HTHh.out)
    clear hbm hgm HZ HEA HX hT hr HI HL lz
    obtain ⟨zEe, lEe, bEe, eEe⟩ := EEe.out
    have HbEe := jh bEe
    have HeEe := jh eEe
    have HlEe := jh lEe
    have HiEe := jh (zau lEe)
    clear bEe eEe lEe
    obtain ⟨zCc, lCc, bCc, eCc⟩ := ECc.out
    have HbCc := jh bCc
    have HeCc := jh eCc
    have HlCc := jh lCc
    have HiCc := jh (zau lCc)
    clear bCc eCc lCc
    go_wp2_with (first | (refine zae rfl _ _ rfl TEe rfl _ _ _ _ HbEe.out Tryz.underlying68 HiEe.out ?_) | (refine zae rfl _ _ rfl TCc rfl _ _ _ _ HbCc.out Tryz.underlying68 HiCc.out ?_))
    refine (rsub_f wl9 HeEe.out HeCc.out).mono ?_
    rintro e wl10 ⟨r, rfl, hr, hb⟩
    obtain ⟨z, hz, lz⟩ := hr.form
    subst hz
    have EAa := jh (EAa.out.ext hb)
    have EBb := jh (EBb.out.ext hb)
    have ECc := jh (ECc.out.ext hb)
    have EEe := jh (EEe.out.ext hb)
    have EHh := jh (EHh.out.ext hb)
    have HP := jh (zaa HP.out hb)
    have HQ := jh (zaa HQ.out hb)
    have HR := jh (zaa HR.out hb)
    have HE := jh (HE.out.trans hb)
    clear hb
    have HZ := jh (Blk.made wl10 (ints .i64 (List.replicate 16 0)) 68)
    have HEA := jh (Ext.alloc wl10 (.cells (ints .i64 (List.replicate 16 0)).toArray 68))
    have HI := jh (zau lz)
    have HL : Hid ((ints .i64 z).length = (ints .i64 (List.replicate 16 0)).length) := jh (by rw [zac, lz]; rfl)
    go_upto_region 8 with (refine zab rfl _ _ _ rfl wl10.heap.size (ints .i64 z) rfl rfl _ _ HZ.out HL.out HI.out (zao _ _) ?_; intro wl11 hbm hgm)
    have HX := jh (zad HEA.out hgm (Nat.le_refl _))
    obtain ⟨TFf, hT⟩ : ∃ T, T = wl10.heap.size := ⟨_, rfl⟩
    have HTFf : Hid (THh < TFf) := jh (by rw [hT]; exact EHh.out.lt)
    rw [← hT] at hbm ⊢
    have EAa := jh (EAa.out.ext HX.out)
    have EBb := jh (EBb.out.ext HX.out)
    have ECc := jh (ECc.out.ext HX.out)
    have EEe := jh (EEe.out.ext HX.out)
    have EHh := jh (EHh.out.ext HX.out)
    have HP := jh (zaa HP.out HX.out)
    have HQ := jh (zaa HQ.out HX.out)
    have HR := jh (zaa HR.out HX.out)
    have HE := jh (HE.out.trans HX.out)
    have EFf : Hid (ElB wl11 TFf ((p.z * q.z + p.z * q.z) - (p.t * q.t * (dF + dF)))) := jh ⟨z, lz, hbm, hr⟩
    have HO := jh (And.intro HO.out HTFf.out)
    clear hbm hgm HZ HEA HX hT hr HI HL lz
    obtain ⟨zEe, lEe, bEe, eEe⟩ := EEe.out
    have HbEe := jh bEe
    have HeEe := jh eEe
    have HlEe := jh lEe
    have HiEe := jh (zau lEe)
    clear bEe eEe lEe
    obtain ⟨zCc, lCc, bCc, eCc⟩ := ECc.out
    have HbCc := jh bCc
    have HeCc := jh eCc
    have HlCc := jh lCc
    have HiCc := jh (zau lCc)
    clear bCc eCc lCc
    go_wp2_with (first | (refine zae rfl _ _ rfl TEe rfl _ _ _ _ HbEe.out Tryz.underlying68 HiEe.out ?_) | (refine zae rfl _ _ rfl TCc rfl _ _ _ _ HbCc.out Tryz.underlying68 HiCc.out ?_))
    refine (radd_f wl11 HeEe.out HeCc.out).mono ?_
    rintro e wl12 ⟨r, rfl, hr, hb⟩
    obtain ⟨z, hz, lz⟩ := hr.form
    subst hz
    have EAa := jh (EAa.out.ext hb)
    have EBb := jh (EBb.out.ext hb)
    have ECc := jh (ECc.out.ext hb)
    have EEe := jh (EEe.out.ext hb)
    have EHh := jh (EHh.out.ext hb)
    have EFf := jh (EFf.out.ext hb)
    have HP := jh (zaa HP.out hb)
    have HQ := jh (zaa HQ.out hb)
    have HR := jh (zaa HR.out hb)
    have HE := jh (HE.out.trans hb)
    clear hb
    have HZ := jh (Blk.made wl12 (ints .i64 (List.replicate 16 0)) 68)
    have HEA := jh (Ext.alloc wl12 (.cells (ints .i64 (List.replicate 16 0)).toArray 68))
    have HI := jh (zau lz)
    have HL : Hid ((ints .i64 z).length = (ints .i64 (List.replicate 16 0)).length) := jh (by rw [zac, lz]; rfl)
    go_upto_region 9 with (refine zab rfl _ _ _ rfl wl12.heap.size (ints .i64 z) rfl rfl _ _ HZ.out HL.out HI.out (zao _ _) ?_; intro wl13 hbm hgm)
    have HX := jh (zad HEA.out hgm (Nat.le_refl _))
    obtain ⟨TGg, hT⟩ : ∃ T, T = wl12.heap.size := ⟨_, rfl⟩
    have HTGg : Hid (TFf < TGg) := jh (by rw [hT]; exact EFf.out.lt)
    rw [← hT] at hbm ⊢
    have EAa := jh (EAa.out.ext HX.out)
    have EBb := jh (EBb.out.ext HX.out)
    have ECc := jh (ECc.out.ext HX.out)
    have EEe := jh (EEe.out.ext HX.out)
    have EHh := jh (EHh.out.ext HX.out)
    have EFf := jh (EFf.out.ext HX.out)
    have HP := jh (zaa HP.out HX.out)
    have HQ := jh (zaa HQ.out HX.out)
    have HR := jh (zaa HR.out HX.out)
    have HE := jh (HE.out.trans HX.out)
    have EGg : Hid (ElB wl13 TGg ((p.z * q.z + p.z * q.z) + (p.t * q.t * (dF + dF)))) := jh ⟨z, lz, hbm, hr⟩
    have HO := jh (And.intro HO.out HTGg.out)
    clear hbm hgm HZ HEA HX hT hr HI HL lz
    obtain ⟨zBb, lBb, bBb, eBb⟩ := EBb.out
    have HbBb := jh bBb
    have HeBb := jh eBb
    have HlBb := jh lBb
    have HiBb := jh (zau lBb)
    clear bBb eBb lBb
    obtain ⟨zAa, lAa, bAa, eAa⟩ := EAa.out
    have HbAa := jh bAa
    have HeAa := jh eAa
    have HlAa := jh lAa
    have HiAa := jh (zau lAa)
    clear bAa eAa lAa
    go_wp2_with (first | (refine zae rfl _ _ rfl TBb rfl _ _ _ _ HbBb.out Tryz.underlying68 HiBb.out ?_) | (refine zae rfl _ _ rfl TAa rfl _ _ _ _ HbAa.out Tryz.underlying68 HiAa.out ?_))
    refine (radd_f wl13 HeBb.out HeAa.out).mono ?_
    rintro e wl14 ⟨r, rfl, hr, hb⟩
    obtain ⟨z, hz, lz⟩ := hr.form
    subst hz
    have EAa := jh (EAa.out.ext hb)
    have EBb := jh (EBb.out.ext hb)
    have ECc := jh (ECc.out.ext hb)
    have EEe := jh (EEe.out.ext hb)
    have EHh := jh (EHh.out.ext hb)
    have EFf := jh (EFf.out.ext hb)
    have EGg := jh (EGg.out.ext hb)
    have HP := jh (zaa HP.out hb)
    have HQ := jh (zaa HQ.out hb)
    have HR := jh (zaa HR.out hb)
    have HE := jh (HE.out.trans hb)
    clear hb
    have HZ := jh (Blk.made wl14 (ints .i64 (List.replicate 16 0)) 68)
    have HEA := jh (Ext.alloc wl14 (.cells (ints .i64 (List.replicate 16 0)).toArray 68))
    have HI := jh (zau lz)
    have HL : Hid ((ints .i64 z).length = (ints .i64 (List.replicate 16 0)).length) := jh (by rw [zac, lz]; rfl)
    go_upto_region 10 with (refine zab rfl _ _ _ rfl wl14.heap.size (ints .i64 z) rfl rfl _ _ HZ.out HL.out HI.out (zao _ _) ?_; intro wl15 hbm hgm)
    have HX := jh (zad HEA.out hgm (Nat.le_refl _))
    obtain ⟨TIi, hT⟩ : ∃ T, T = wl14.heap.size := ⟨_, rfl⟩
    have HTIi : Hid (TGg < TIi) := jh (by rw [hT]; exact EGg.out.lt)
    rw [← hT] at hbm ⊢
    have EAa := jh (EAa.out.ext HX.out)
    have EBb := jh (EBb.out.ext HX.out)
    have ECc := jh (ECc.out.ext HX.out)
    have EEe := jh (EEe.out.ext HX.out)
    have EHh := jh (EHh.out.ext HX.out)
    have EFf := jh (EFf.out.ext HX.out)
    have EGg := jh (EGg.out.ext HX.out)
    have HP := jh (zaa HP.out HX.out)
    have HQ := jh (zaa HQ.out HX.out)
    have HR := jh (zaa HR.out HX.out)
    have HE := jh (HE.out.trans HX.out)
    have EIi : Hid (ElB wl15 TIi (((p.y + p.x) * (q.y + q.x)) + ((p.y - p.x) * (q.y - q.x)))) := jh ⟨z, lz, hbm, hr⟩
    have HO := jh (And.intro HO.out HTIi.out)
    clear hbm hgm HZ HEA HX hT hr HI HL lz
    obtain ⟨zHh, lHh, bHh, eHh⟩ := EHh.out
    have HbHh := jh bHh
    have HeHh := jh eHh
    have HlHh := jh lHh
    have HiHh := jh (zau lHh)
    clear bHh eHh lHh
    obtain ⟨zFf, lFf, bFf, eFf⟩ := EFf.out
    have HbFf := jh bFf
    have HeFf := jh eFf
    have HlFf := jh lFf
    have HiFf := jh (zau lFf)
    clear bFf eFf lFf
    obtain ⟨zGg, lGg, bGg, eGg⟩ := EGg.out
    have HbGg := jh bGg
    have HeGg := jh eGg
    have HlGg := jh lGg
    have HiGg := jh (zau lGg)
    clear bGg eGg lGg
    obtain ⟨zIi, lIi, bIi, eIi⟩ := EIi.out
    have HbIi := jh bIi
    have HeIi := jh eIi
    have HlIi := jh lIi
    have HiIi := jh (zau lIi)
    clear bIi eIi lIi
    have B0 : Ext wl15 wl15.drew := Ext.drew _
    refine wp_region_held_drew (S := fun w' => Far (A + 1 + 1) wl15 w') (by kernel_rfl) (zbx B0) (fun hHeld => ?_)
    refine tke 0 (.agg (ints .i64 zHh).toArray) rfl (yieldsIf_load_mid (by rfl) _ _ rfl THh 0 rfl _ _ (fun w h => zbr HbHh.out (by have := HO.out; omega) h) Tryz.underlying68 rfl HiHh.out) hHeld ?_
    simp only [Act.put, nrm]
    refine tke 1 (.agg (ints .i64 zFf).toArray) rfl (yieldsIf_load_mid (by rfl) _ _ rfl TFf 0 rfl _ _ (fun w h => zbr HbFf.out (by have := HO.out; omega) h) Tryz.underlying68 rfl HiFf.out) hHeld ?_
    simp only [Act.put, nrm]
    refine tke 3 (.agg (ints .i64 zIi).toArray) rfl (yieldsIf_load_mid (by rfl) _ _ rfl TIi 0 rfl _ _ (fun w h => zbr HbIi.out (by have := HO.out; omega) h) Tryz.underlying68 rfl HiIi.out) hHeld ?_
    simp only [Act.put, nrm]
    refine tke 4 (.agg (ints .i64 zGg).toArray) rfl (yieldsIf_load_mid (by rfl) _ _ rfl TGg 0 rfl _ _ (fun w h => zbr HbGg.out (by have := HO.out; omega) h) Tryz.underlying68 rfl HiGg.out) hHeld ?_
    simp only [Act.put, nrm]
    refine tke 6 (.agg (ints .i64 zFf).toArray) rfl (yieldsIf_load_mid (by rfl) _ _ rfl TFf 0 rfl _ _ (fun w h => zbr HbFf.out (by have := HO.out; omega) h) Tryz.underlying68 rfl HiFf.out) hHeld ?_
    simp only [Act.put, nrm]
    refine tke 7 (.agg (ints .i64 zGg).toArray) rfl (yieldsIf_load_mid (by rfl) _ _ rfl TGg 0 rfl _ _ (fun w h => zbr HbGg.out (by have := HO.out; omega) h) Tryz.underlying68 rfl HiGg.out) hHeld ?_
    simp only [Act.put, nrm]
    refine tke 9 (.agg (ints .i64 zHh).toArray) rfl (yieldsIf_load_mid (by rfl) _ _ rfl THh 0 rfl _ _ (fun w h => zbr HbHh.out (by have := HO.out; omega) h) Tryz.underlying68 rfl HiHh.out) hHeld ?_
    simp only [Act.put, nrm]
    refine tke 10 (.agg (ints .i64 zIi).toArray) rfl (yieldsIf_load_mid (by rfl) _ _ rfl TIi 0 rfl _ _ (fun w h => zbr HbIi.out (by have := HO.out; omega) h) Tryz.underlying68 rfl HiIi.out) hHeld ?_
    simp only [Act.put, nrm]
    refine rdy 2 rfl fun K hK => ?_
    go_simp
    refine (zcn _ HeHh.out HeFf.out).mono ?_
    rintro e m1 ⟨v1, rfl, e1, b1⟩
    obtain ⟨z1, hz1, l1⟩ := e1.form
    subst hz1
    have N1 : Ext wl15 m1 := B0.trans b1
    refine hK.out _ _ (zbx N1) (fun hHeld => ?_)
    clear hK K
    try simp only [Act.put, nrm]
    refine rdy 5 rfl fun K hK => ?_
    go_simp
    refine (zcn _ HeIi.out HeGg.out).mono ?_
    rintro e m2 ⟨v2, rfl, e2, b2⟩
    obtain ⟨z2, hz2, l2⟩ := e2.form
    subst hz2
    have N2 : Ext wl15 m2 := N1.trans b2
    refine hK.out _ _ (zbx N2) (fun hHeld => ?_)
    clear hK K
    try simp only [Act.put, nrm]
    refine rdy 8 rfl fun K hK => ?_
    go_simp
    refine (zcn _ HeFf.out HeGg.out).mono ?_
    rintro e m3 ⟨v3, rfl, e3, b3⟩
    obtain ⟨z3, hz3, l3⟩ := e3.form
    subst hz3
    have N3 : Ext wl15 m3 := N2.trans b3
    refine hK.out _ _ (zbx N3) (fun hHeld => ?_)
    clear hK K
    try simp only [Act.put, nrm]
    refine rdy 11 rfl fun K hK => ?_
    go_simp
    refine (zcn _ HeHh.out HeIi.out).mono ?_
    rintro e m4 ⟨v4, rfl, e4, b4⟩
    obtain ⟨z4, hz4, l4⟩ := e4.form
    subst hz4
    have N4 : Ext wl15 m4 := N3.trans b4
    refine hK.out _ _ (zbx N4) (fun hHeld => ?_)
    clear hK K
    try simp only [Act.put, nrm]
    refine tke 12 (.agg (ptC z1 z2 z3 z4).toArray) rfl (yi_build _ _ _ _ (build_pt (⟨⟨l1, e1⟩, ⟨l2, e2⟩, ⟨l3, e3⟩, ⟨l4, e4⟩⟩ : PtZ z1 z2 z3 z4 (p.sum q))) (by rfl) rfl (by simp [Act.eval])) hHeld ?_
    simp only [Act.put, nrm]
    refine rdy 13 rfl fun K hK => ?_
    refine zan (by rfl) ?_
    refine zak _ _ _ rfl (A + 1 + 1) (ptC z1 z2 z3 z4) rfl rfl _ _ (zaa HR.out N4) (by rw [zci ((⟨⟨l1, e1⟩, ⟨l2, e2⟩, ⟨l3, e3⟩, ⟨l4, e4⟩⟩ : PtZ z1 z2 z3 z4 (p.sum q))), zac]; rfl) (zcw ((⟨⟨l1, e1⟩, ⟨l2, e2⟩, ⟨l3, e3⟩, ⟨l4, e4⟩⟩ : PtZ z1 z2 z3 z4 (p.sum q)))) (zfa _ _ _ _) ?_
    intro m5 hb5 hg5
    refine hK.out _ _ (zdk N4 hg5) (fun hHeld => ?_)
    clear hK K
    try simp only [Act.put, nrm]
    refine dne ?_
    go_wp2_with fail
    refine bodyPost_ret (result_pt rfl _ (A + 1 + 1) _ _ rfl hb5 Tryz.underlying70 (zcw (⟨⟨l1, e1⟩, ⟨l2, e2⟩, ⟨l3, e3⟩, ⟨l4, e4⟩⟩ : PtZ z1 z2 z3 z4 (p.sum q)))) rfl ?_
    exact ⟨_, rfl, ⟨_, _, _, _, rfl, (⟨⟨l1, e1⟩, ⟨l2, e2⟩, ⟨l3, e3⟩, ⟨l4, e4⟩⟩ : PtZ z1 z2 z3 z4 (p.sum q))⟩, zad (HE.out.trans N4) hg5 (by have := HO.out; omega)⟩
end Go.Proofs.YthafgicndklgfaaGreatDoor
