/- Lemmas. -/
import Derived.Test.YthafgicndklgfaaGreatDoorQy05
namespace Go.Proofs.YthafgicndklgfaaGreatDoor
set_option linter.unusedVariables false
set_option maxRecDepth 100000
set_option maxHeartbeats 32000000
set_option linter.unusedSimpArgs false
open Go.RowKit
theorem result_pt {P : Program} {w : World} {fn : Func} {p : Tmp} {ty : TypeId} {fs : Array Field} (h : fn.results = #[.cell p ty]) (tmps : Array Value) (c : Nat) (t : TypeId) (cs : List Value)
  (hp : tmps.getD p undef = .pointer (some ⟨c, 0, none⟩)) (hb : Blk w c cs t) (hu : P.underlying ty = some (.struct fs)) (hi : (P.info? ty).map (·.size) = some cs.length) :
  (results fn tmps).run P w = .ok (.agg cs.toArray) w :=
 results_cell_row h tmps w c t cs.toArray (0, 0) _ hp hb hu rfl (by simpa using hi)
theorem rsum_f (u v : Value) (p q : ES) (w : World) (hu : PtV u p) (hv : PtV v q) (hG : GlobD w) : Calls Tryz.prog 71 #[u, v] w fun e w' => ∃ r, e = .returned r ∧ PtV r (p.sum q) ∧ Below w.heap.size w w' := by
 obtain ⟨pa, pb, pc, pd, rfl, hp⟩ := hu
 obtain ⟨qa, qb, qc, qd, rfl, hq⟩ := hv
 obtain ⟨z1, z2, z3, z4⟩ := id hp
 have Hpx := jh z1
 have Hpy := jh z2
 have Hpz := jh z3
 have Hpt := jh z4
 have HIp := jh (zcl hp)
 clear z1 z2 z3 z4 hp
 obtain ⟨z1, z2, z3, z4⟩ := id hq
 have Hqx := jh z1
 have Hqy := jh z2
 have Hqz := jh z3
 have Hqt := jh z4
 have HIq := jh (zcl hq)
 clear z1 z2 z3 z4 hq
 have HG0 := jh hG
 clear hG
 have HB := jh (boxes3 w (ptC pa pb pc pd) (ptC qa qb qc qd) (ints .i64 (List.replicate 64 0)) 70 70 70)
 go_enter Tryz.func71, Tryz.ntmps71
 go_upto_region 1 with (fail)
 obtain ⟨H1, H2, H3, HE⟩ := HB.out
 change Code.wp _ _ _ _ (((w.alloc (.cells (ptC pa pb pc pd).toArray 70)).alloc (.cells (ptC qa qb qc qd).toArray 70)).alloc (.cells (ints .i64 (List.replicate 64 0)).toArray 70))
 generalize ((w.alloc (.cells (ptC pa pb pc pd).toArray 70)).alloc (.cells (ptC qa qb qc qd).toArray 70)).alloc (.cells (ints .i64 (List.replicate 64 0)).toArray 70) = wa at *
 obtain ⟨A, hA⟩ : ∃ A, A = w.heap.size := ⟨_, rfl⟩
 have HO : Hid (w.heap.size ≤ A) := jh (by omega)
 rw [← hA] at H1 H2 H3 ⊢
 have HP := jh H1
 have HQ := jh H2
 have HR := jh H3
 have HE : Hid (Ext w wa) := jh HE
 clear hA HB H1 H2 H3
 try go_wp2_with fail
 try simp only [nm]
 go_cut [5] from 13 to 23 (fun vq wq => ∃ g, vq = .pointer (some ⟨g, 0, none⟩) ∧ wa.heap.size ≤ g ∧ ElB wq g ((p.y - p.x) * (q.y - q.x)) ∧ Ext wa wq)
 case first =>
  have B0 : Ext wa wa.drew := Ext.drew _
  refine wp_region_held_drew (S := fun w' => Ext wa w') (by kernel_rfl) B0 (fun hW => ?_)
  refine tke 0 (.pointer (some ⟨A, 16, none⟩)) rfl (zbj (.pointer (some ⟨A, 16, none⟩)) (by rfl) (fun w _ => by go_simp)) hW ?_
  simp only [nm]
  refine tke 1 (.agg (ints .i64 pb).toArray) rfl (sld A 16 (fun w h => rng_y (zad HP.out h) Hpx.out.len) q103 (zau Hpy.out.len)) hW ?_
  simp only [nm]
  refine tke 2 (.pointer (some ⟨A, 0, none⟩)) rfl (zbj (.pointer (some ⟨A, 0, none⟩)) (by rfl) (fun w _ => by go_simp)) hW ?_
  simp only [nm]
  refine tke 3 (.agg (ints .i64 pa).toArray) rfl (sld A 0 (fun w h => rng_x (zad HP.out h)) q103 (zau Hpx.out.len)) hW ?_
  simp only [nm]
  refine tke 5 (.pointer (some ⟨(A + 1), 16, none⟩)) rfl (zbj (.pointer (some ⟨(A + 1), 16, none⟩)) (by rfl) (fun w _ => by go_simp)) hW ?_
  simp only [nm]
  refine tke 6 (.agg (ints .i64 qb).toArray) rfl (sld (A + 1) 16 (fun w h => rng_y (zad HQ.out h) Hqx.out.len) q103 (zau Hqy.out.len)) hW ?_
  simp only [nm]
  refine tke 7 (.pointer (some ⟨(A + 1), 0, none⟩)) rfl (zbj (.pointer (some ⟨(A + 1), 0, none⟩)) (by rfl) (fun w _ => by go_simp)) hW ?_
  simp only [nm]
  refine tke 8 (.agg (ints .i64 qa).toArray) rfl (sld (A + 1) 0 (fun w h => rng_x (zad HQ.out h)) q103 (zau Hqx.out.len)) hW ?_
  simp only [nm]
  refine Fl.go (f := 11) (d := 5) (zs := (ints .i64 (List.replicate 16 0))) (T := 68) (B := (wa).heap.size) ?_ hW
  clear hW
  refine Fl.step 4 rfl rfl rfl rfl rfl q123 (fun _ _ h1 h2 => h1.trans h2) (fun _ h => h.size) (fun z1 u K hz1 hSz hK => ?_)
  have NZ1 : Ext wa z1 := B0.trans hz1
  clear hSz
  go_simp
  refine (rsub_f _ Hpy.out.el Hpx.out.el).mono ?_
  rintro e m1 ⟨v1, rfl, e1, b1⟩
  obtain ⟨z1, hz1, l1⟩ := e1.form
  subst hz1
  have N1 : Ext wa m1 := NZ1.trans b1
  refine hK.out (.agg (ints .i64 z1).toArray) _ b1 N1 ?_
  clear hK K u
  try simp only [nm]
  refine Fl.step 9 rfl rfl rfl rfl rfl q123 (fun _ _ h1 h2 => h1.trans h2) (fun _ h => h.size) (fun z2 u K hz2 hSz hK => ?_)
  have NZ2 : Ext wa z2 := N1.trans hz2
  clear hSz
  go_simp
  refine (rsub_f _ Hqy.out.el Hqx.out.el).mono ?_
  rintro e m2 ⟨v2, rfl, e2, b2⟩
  obtain ⟨z2, hz2, l2⟩ := e2.form
  subst hz2
  have N2 : Ext wa m2 := NZ2.trans b2
  refine hK.out (.agg (ints .i64 z2).toArray) _ b2 N2 ?_
  clear hK K u
  try simp only [nm]
  refine Fl.step 10 rfl rfl rfl rfl rfl q123 (fun _ _ h1 h2 => h1.trans h2) (fun _ h => h.size) (fun z3 u K hz3 hSz hK => ?_)
  have NZ3 : Ext wa z3 := N2.trans hz3
  clear hSz
  go_simp
  refine (zfg _ e1 e2).mono ?_
  rintro e m3 ⟨v3, rfl, e3, b3⟩
  obtain ⟨z3, hz3, l3⟩ := e3.form
  subst hz3
  have N3 : Ext wa m3 := NZ3.trans b3
  refine hK.out (.agg (ints .i64 z3).toArray) _ b3 N3 ?_
  clear hK K u
  try simp only [nm]
  refine Fl.last rfl rfl rfl rfl q123 (fun _ _ h1 h2 => h1.trans h2) (fun _ h => h.size) (fun m4 g4 b4 hW l4 z4 => ?_)
  try simp only [nm]
  have N4 : Ext wa m4 := N3.trans b4
  refine rdy 12 rfl fun K hK => ?_
  refine zbn (by rfl) ?_
  refine zak _ _ _ rfl g4 (ints .i64 z3) rfl rfl _ _ z4 (by rw [zaa, l3]; rfl) (zau l3) (zaj _ _) ?_
  intro m5 hb5 hg5
  have N5 : Ext wa m5 := zab N4 hg5 l4
  refine hK.out _ _ N5 (fun hW => ?_)
  clear hK K
  try simp only [nm]
  refine dne ?_
  go_wp2_with fail
  go_meet
  exact ⟨_, rfl, l4, ⟨z3, l3, hb5, e3⟩, N5⟩
 case rest =>
  obtain ⟨TAa, rfl, hTg, hEl, hX⟩ := hcut
  have HTAa : Hid (A + 1 + 1 < TAa) := jh (q114 HR.out.lt hTg)
  have HP := xb HP hX
  have HQ := xb HQ hX
  have HR := xb HR hX
  have HE := xt HE hX
  have EAa := jh hEl
  have HO := jh (And.intro HO.out HTAa.out)
  clear hEl hX hTg
  generalize wc = wl1 at *
  try go_wp2_with fail
  try simp only [nm]
  go_cut [6] from 24 to 34 (fun vq wq => ∃ g, vq = .pointer (some ⟨g, 0, none⟩) ∧ wl1.heap.size ≤ g ∧ ElB wq g ((p.y + p.x) * (q.y + q.x)) ∧ Ext wl1 wq)
  case first =>
   have B0 : Ext wl1 wl1.drew := Ext.drew _
   refine wp_region_held_drew (S := fun w' => Ext wl1 w') (by kernel_rfl) B0 (fun hW => ?_)
   refine tke 0 (.pointer (some ⟨A, 16, none⟩)) rfl (zbj (.pointer (some ⟨A, 16, none⟩)) (by rfl) (fun w _ => by go_simp)) hW ?_
   simp only [nm]
   refine tke 1 (.agg (ints .i64 pb).toArray) rfl (sld A 16 (fun w h => rng_y (zad HP.out h) Hpx.out.len) q103 (zau Hpy.out.len)) hW ?_
   simp only [nm]
   refine tke 2 (.pointer (some ⟨A, 0, none⟩)) rfl (zbj (.pointer (some ⟨A, 0, none⟩)) (by rfl) (fun w _ => by go_simp)) hW ?_
   simp only [nm]
   refine tke 3 (.agg (ints .i64 pa).toArray) rfl (sld A 0 (fun w h => rng_x (zad HP.out h)) q103 (zau Hpx.out.len)) hW ?_
   simp only [nm]
   refine tke 5 (.pointer (some ⟨(A + 1), 16, none⟩)) rfl (zbj (.pointer (some ⟨(A + 1), 16, none⟩)) (by rfl) (fun w _ => by go_simp)) hW ?_
   simp only [nm]
   refine tke 6 (.agg (ints .i64 qb).toArray) rfl (sld (A + 1) 16 (fun w h => rng_y (zad HQ.out h) Hqx.out.len) q103 (zau Hqy.out.len)) hW ?_
   simp only [nm]
   refine tke 7 (.pointer (some ⟨(A + 1), 0, none⟩)) rfl (zbj (.pointer (some ⟨(A + 1), 0, none⟩)) (by rfl) (fun w _ => by go_simp)) hW ?_
   simp only [nm]
   refine tke 8 (.agg (ints .i64 qa).toArray) rfl (sld (A + 1) 0 (fun w h => rng_x (zad HQ.out h)) q103 (zau Hqx.out.len)) hW ?_
   simp only [nm]
   refine Fl.go (f := 11) (d := 6) (zs := (ints .i64 (List.replicate 16 0))) (T := 68) (B := (wl1).heap.size) ?_ hW
   clear hW
   refine Fl.step 4 rfl rfl rfl rfl rfl q123 (fun _ _ h1 h2 => h1.trans h2) (fun _ h => h.size) (fun z1 u K hz1 hSz hK => ?_)
   have NZ1 : Ext wl1 z1 := B0.trans hz1
   clear hSz
   go_simp
   refine (radd_f _ Hpy.out.el Hpx.out.el).mono ?_
   rintro e m1 ⟨v1, rfl, e1, b1⟩
   obtain ⟨z1, hz1, l1⟩ := e1.form
   subst hz1
   have N1 : Ext wl1 m1 := NZ1.trans b1
   refine hK.out (.agg (ints .i64 z1).toArray) _ b1 N1 ?_
   clear hK K u
   try simp only [nm]
   refine Fl.step 9 rfl rfl rfl rfl rfl q123 (fun _ _ h1 h2 => h1.trans h2) (fun _ h => h.size) (fun z2 u K hz2 hSz hK => ?_)
   have NZ2 : Ext wl1 z2 := N1.trans hz2
   clear hSz
   go_simp
   refine (radd_f _ Hqy.out.el Hqx.out.el).mono ?_
   rintro e m2 ⟨v2, rfl, e2, b2⟩
   obtain ⟨z2, hz2, l2⟩ := e2.form
   subst hz2
   have N2 : Ext wl1 m2 := NZ2.trans b2
   refine hK.out (.agg (ints .i64 z2).toArray) _ b2 N2 ?_
   clear hK K u
   try simp only [nm]
   refine Fl.step 10 rfl rfl rfl rfl rfl q123 (fun _ _ h1 h2 => h1.trans h2) (fun _ h => h.size) (fun z3 u K hz3 hSz hK => ?_)
   have NZ3 : Ext wl1 z3 := N2.trans hz3
   clear hSz
   go_simp
   refine (zfg _ e1 e2).mono ?_
   rintro e m3 ⟨v3, rfl, e3, b3⟩
   obtain ⟨z3, hz3, l3⟩ := e3.form
   subst hz3
   have N3 : Ext wl1 m3 := NZ3.trans b3
   refine hK.out (.agg (ints .i64 z3).toArray) _ b3 N3 ?_
   clear hK K u
   try simp only [nm]
   refine Fl.last rfl rfl rfl rfl q123 (fun _ _ h1 h2 => h1.trans h2) (fun _ h => h.size) (fun m4 g4 b4 hW l4 z4 => ?_)
   try simp only [nm]
   have N4 : Ext wl1 m4 := N3.trans b4
   refine rdy 12 rfl fun K hK => ?_
   refine zbn (by rfl) ?_
   refine zak _ _ _ rfl g4 (ints .i64 z3) rfl rfl _ _ z4 (by rw [zaa, l3]; rfl) (zau l3) (zaj _ _) ?_
   intro m5 hb5 hg5
   have N5 : Ext wl1 m5 := zab N4 hg5 l4
   refine hK.out _ _ N5 (fun hW => ?_)
   clear hK K
   try simp only [nm]
   refine dne ?_
   go_wp2_with fail
   go_meet
   exact ⟨_, rfl, l4, ⟨z3, l3, hb5, e3⟩, N5⟩
  case rest =>
   obtain ⟨TBb, rfl, hTg, hEl, hX⟩ := hcut
   have HTBb : Hid (TAa < TBb) := jh (q114 EAa.out.lt hTg)
   have EAa := jh (EAa.out.ext hX)
   have HP := xb HP hX
   have HQ := xb HQ hX
   have HR := xb HR hX
   have HE := xt HE hX
   have EBb := jh hEl
   have HO := jh (And.intro HO.out HTBb.out)
   clear hEl hX hTg
   generalize wc = wl2 at *
   try go_wp2_with fail
   try simp only [nm]
   go_cut [7] from 35 to 43 (fun vq wq => ∃ g, vq = .pointer (some ⟨g, 0, none⟩) ∧ wl2.heap.size ≤ g ∧ ElB wq g (p.t * q.t * (dF + dF)) ∧ Ext wl2 wq)
   case first =>
    have B0 : Ext wl2 wl2.drew := Ext.drew _
    refine wp_region_held_drew (S := fun w' => Ext wl2 w') (by kernel_rfl) B0 (fun hW => ?_)
    refine tke 0 (.pointer (some ⟨A, 48, none⟩)) rfl (zbj (.pointer (some ⟨A, 48, none⟩)) (by rfl) (fun w _ => by go_simp)) hW ?_
    simp only [nm]
    refine tke 1 (.agg (ints .i64 pd).toArray) rfl (sld A 48 (fun w h => rng_t (zad HP.out h) Hpx.out.len Hpy.out.len Hpz.out.len) q103 (zau Hpt.out.len)) hW ?_
    simp only [nm]
    refine tke 2 (.pointer (some ⟨(A + 1), 48, none⟩)) rfl (zbj (.pointer (some ⟨(A + 1), 48, none⟩)) (by rfl) (fun w _ => by go_simp)) hW ?_
    simp only [nm]
    refine tke 3 (.agg (ints .i64 qd).toArray) rfl (sld (A + 1) 48 (fun w h => rng_t (zad HQ.out h) Hqx.out.len Hqy.out.len Hqz.out.len) q103 (zau Hqt.out.len)) hW ?_
    simp only [nm]
    refine tke 5 (.agg (ints .i64 dL).toArray) rfl (sld 2 0 (fun w h => HG0.out.ext (HE.out.trans h)) q103 (zau d_el.len)) hW ?_
    simp only [nm]
    refine tke 6 (.agg (ints .i64 dL).toArray) rfl (sld 2 0 (fun w h => HG0.out.ext (HE.out.trans h)) q103 (zau d_el.len)) hW ?_
    simp only [nm]
    refine Fl.go (f := 9) (d := 7) (zs := (ints .i64 (List.replicate 16 0))) (T := 68) (B := (wl2).heap.size) ?_ hW
    clear hW
    refine Fl.step 4 rfl rfl rfl rfl rfl q123 (fun _ _ h1 h2 => h1.trans h2) (fun _ h => h.size) (fun z1 u K hz1 hSz hK => ?_)
    have NZ1 : Ext wl2 z1 := B0.trans hz1
    clear hSz
    go_simp
    refine (zfg _ Hpt.out.el Hqt.out.el).mono ?_
    rintro e m1 ⟨v1, rfl, e1, b1⟩
    obtain ⟨z1, hz1, l1⟩ := e1.form
    subst hz1
    have N1 : Ext wl2 m1 := NZ1.trans b1
    refine hK.out (.agg (ints .i64 z1).toArray) _ b1 N1 ?_
    clear hK K u
    try simp only [nm]
    refine Fl.step 7 rfl rfl rfl rfl rfl q123 (fun _ _ h1 h2 => h1.trans h2) (fun _ h => h.size) (fun z2 u K hz2 hSz hK => ?_)
    have NZ2 : Ext wl2 z2 := N1.trans hz2
    clear hSz
    go_simp
    refine (radd_f _ d_el.el d_el.el).mono ?_
    rintro e m2 ⟨v2, rfl, e2, b2⟩
    obtain ⟨z2, hz2, l2⟩ := e2.form
    subst hz2
    have N2 : Ext wl2 m2 := NZ2.trans b2
    refine hK.out (.agg (ints .i64 z2).toArray) _ b2 N2 ?_
    clear hK K u
    try simp only [nm]
    refine Fl.step 8 rfl rfl rfl rfl rfl q123 (fun _ _ h1 h2 => h1.trans h2) (fun _ h => h.size) (fun z3 u K hz3 hSz hK => ?_)
    have NZ3 : Ext wl2 z3 := N2.trans hz3
    clear hSz
    go_simp
    refine (zfg _ e1 e2).mono ?_
    rintro e m3 ⟨v3, rfl, e3, b3⟩
    obtain ⟨z3, hz3, l3⟩ := e3.form
    subst hz3
    have N3 : Ext wl2 m3 := NZ3.trans b3
    refine hK.out (.agg (ints .i64 z3).toArray) _ b3 N3 ?_
    clear hK K u
    try simp only [nm]
    refine Fl.last rfl rfl rfl rfl q123 (fun _ _ h1 h2 => h1.trans h2) (fun _ h => h.size) (fun m4 g4 b4 hW l4 z4 => ?_)
    try simp only [nm]
    have N4 : Ext wl2 m4 := N3.trans b4
    refine rdy 10 rfl fun K hK => ?_
    refine zbn (by rfl) ?_
    refine zak _ _ _ rfl g4 (ints .i64 z3) rfl rfl _ _ z4 (by rw [zaa, l3]; rfl) (zau l3) (zaj _ _) ?_
    intro m5 hb5 hg5
    have N5 : Ext wl2 m5 := zab N4 hg5 l4
    refine hK.out _ _ N5 (fun hW => ?_)
    clear hK K
    try simp only [nm]
    refine dne ?_
    go_wp2_with fail
    go_meet
    exact ⟨_, rfl, l4, ⟨z3, l3, hb5, e3⟩, N5⟩
   case rest =>
    obtain ⟨TCc, rfl, hTg, hEl, hX⟩ := hcut
    have HTCc : Hid (TBb < TCc) := jh (q114 EBb.out.lt hTg)
    have EAa := jh (EAa.out.ext hX)
    have EBb := jh (EBb.out.ext hX)
    have HP := xb HP hX
    have HQ := xb HQ hX
    have HR := xb HR hX
    have HE := xt HE hX
    have ECc := jh hEl
    have HO := jh (And.intro HO.out HTCc.out)
    clear hEl hX hTg
    generalize wc = wl3 at *
    go_wp2_with (first | (refine wpList_load_mid rfl _ _ rfl A 32 rfl _ _ (rng_z (HP.out) Hpx.out.len Hpy.out.len) q103 rfl (zau Hpz.out.len) ?_) | (refine wpList_load_mid rfl _ _ rfl (A + 1) 32 rfl _ _ (rng_z (HQ.out) Hqx.out.len Hqy.out.len) q103 rfl (zau Hqz.out.len) ?_))
    refine (zfg wl3 Hpz.out.el Hqz.out.el).mono ?_
    rintro e wl4 ⟨r, rfl, hr, hb⟩
    obtain ⟨z, hz, lz⟩ := hr.form
    subst hz
    have EAa := jh (EAa.out.ext hb)
    have EBb := jh (EBb.out.ext hb)
    have ECc := jh (ECc.out.ext hb)
    have HP := xb HP hb
    have HQ := xb HQ hb
    have HR := xb HR hb
    have HE := xt HE hb
    clear hb
    have HZ := jh (Blk.made wl4 (ints .i64 (List.replicate 16 0)) 68)
    have HEA := jh (Ext.alloc wl4 (.cells (ints .i64 (List.replicate 16 0)).toArray 68))
    have HI := jh (zau lz)
    have HL : Hid ((ints .i64 z).length = (ints .i64 (List.replicate 16 0)).length) := jh (by rw [zaa, lz]; rfl)
    go_upto_region 5 with (refine ssb wl4.heap.size (ints .i64 z) HZ.out HL.out HI.out (zaj _ _) ?_; intro wl5 hbm hgm)
    have HX := jh (zab HEA.out hgm (q102 _))
    obtain ⟨TEe, hT⟩ : ∃ T, T = wl4.heap.size := ⟨_, rfl⟩
    have HTEe : Hid (TCc < TEe) := jh (by rw [hT]; exact ECc.out.lt)
    rw [← hT] at hbm ⊢
    have EAa := jh (EAa.out.ext HX.out)
    have EBb := jh (EBb.out.ext HX.out)
    have ECc := jh (ECc.out.ext HX.out)
    have HP := xb HP HX.out
    have HQ := xb HQ HX.out
    have HR := xb HR HX.out
    have HE := xt HE HX.out
    have EEe : Hid (ElB wl5 TEe (p.z * q.z)) := jh ⟨z, lz, hbm, hr⟩
    have HO := jh (And.intro HO.out HTEe.out)
    clear hbm hgm HZ HEA HX hT hr HI HL lz
    obtain ⟨zEe, lEe, bEe, eEe⟩ := EEe.out
    have HbEe := jh bEe
    have HeEe := jh eEe
    have HlEe := jh lEe
    have HiEe := jh (zau lEe)
    clear bEe eEe lEe
    go_wp2_with (first | (refine slb TEe HbEe.out q103 HiEe.out ?_))
    refine (radd_f wl5 HeEe.out HeEe.out).mono ?_
    rintro e wl6 ⟨r, rfl, hr, hb⟩
    obtain ⟨z, hz, lz⟩ := hr.form
    subst hz
    have EAa := jh (EAa.out.ext hb)
    have EBb := jh (EBb.out.ext hb)
    have ECc := jh (ECc.out.ext hb)
    have EEe := jh (EEe.out.ext hb)
    have HP := xb HP hb
    have HQ := xb HQ hb
    have HR := xb HR hb
    have HE := xt HE hb
    clear hb
    obtain ⟨zEe, lEe, bEe, eEe⟩ := EEe.out
    have HbEe := jh bEe
    have HeEe := jh eEe
    have HlEe := jh lEe
    have HiEe := jh (zau lEe)
    clear bEe eEe lEe
    have HI := jh (zau lz)
    have HL : Hid ((ints .i64 z).length = (ints .i64 zEe).length) := jh (by rw [zaa, zaa, lz, HlEe.out])
    go_upto_region 6 with (refine ssb TEe (ints .i64 z) HbEe.out HL.out HI.out (zaj _ _) ?_; intro wl7 hbm hgm)
    have EAa := jh (EAa.out.grown hgm (by have := HO.out; simp; omega))
    have EBb := jh (EBb.out.grown hgm (by have := HO.out; simp; omega))
    have ECc := jh (ECc.out.grown hgm (by have := HO.out; simp; omega))
    have HP := jh (HP.out.grown hgm (by have := HO.out; simp; omega))
    have HQ := jh (HQ.out.grown hgm (by have := HO.out; simp; omega))
    have HR := jh (HR.out.grown hgm (by have := HO.out; simp; omega))
    have HE := jh (zab HE.out hgm (by have := HO.out; omega))
    have EEe : Hid (ElB wl7 TEe (p.z * q.z + p.z * q.z)) := jh ⟨z, lz, hbm, hr⟩
    clear hbm hgm hr HI HL lz
    obtain ⟨zBb, lBb, bBb, eBb⟩ := EBb.out
    have HbBb := jh bBb
    have HeBb := jh eBb
    have HlBb := jh lBb
    have HiBb := jh (zau lBb)
    clear bBb eBb lBb
    obtain ⟨zAa, lAa, bAa, eAa⟩ := EAa.out
    have HbAa := jh bAa
    have HeAa := jh eAa
    have HlAa := jh lAa
    have HiAa := jh (zau lAa)
    clear bAa eAa lAa
    go_wp2_with (first | (refine slb TBb HbBb.out q103 HiBb.out ?_) | (refine slb TAa HbAa.out q103 HiAa.out ?_))
    refine (rsub_f wl7 HeBb.out HeAa.out).mono ?_
    rintro e wl8 ⟨r, rfl, hr, hb⟩
    obtain ⟨z, hz, lz⟩ := hr.form
    subst hz
    have EAa := jh (EAa.out.ext hb)
    have EBb := jh (EBb.out.ext hb)
    have ECc := jh (ECc.out.ext hb)
    have EEe := jh (EEe.out.ext hb)
    have HP := xb HP hb
    have HQ := xb HQ hb
    have HR := xb HR hb
    have HE := xt HE hb
    clear hb
    have HZ := jh (Blk.made wl8 (ints .i64 (List.replicate 16 0)) 68)
    have HEA := jh (Ext.alloc wl8 (.cells (ints .i64 (List.replicate 16 0)).toArray 68))
    have HI := jh (zau lz)
    have HL : Hid ((ints .i64 z).length = (ints .i64 (List.replicate 16 0)).length) := jh (by rw [zaa, lz]; rfl)
    go_upto_region 7 with (refine ssb wl8.heap.size (ints .i64 z) HZ.out HL.out HI.out (zaj _ _) ?_; intro wl9 hbm hgm)
    have HX := jh (zab HEA.out hgm (q102 _))
    obtain ⟨THh, hT⟩ : ∃ T, T = wl8.heap.size := ⟨_, rfl⟩
    have HTHh : Hid (TEe < THh) := jh (by rw [hT]; exact EEe.out.lt)
    rw [← hT] at hbm ⊢
    have EAa := jh (EAa.out.ext HX.out)
    have EBb := jh (EBb.out.ext HX.out)
    have ECc := jh (ECc.out.ext HX.out)
    have EEe := jh (EEe.out.ext HX.out)
    have HP := xb HP HX.out
    have HQ := xb HQ HX.out
    have HR := xb HR HX.out
    have HE := xt HE HX.out
    have EHh : Hid (ElB wl9 THh (((p.y + p.x) * (q.y + q.x)) - ((p.y - p.x) * (q.y - q.x)))) := jh ⟨z, lz, hbm, hr⟩
    have HO := jh (And.intro HO.out HTHh.out)
    clear hbm hgm HZ HEA HX hT hr HI HL lz
    obtain ⟨zEe, lEe, bEe, eEe⟩ := EEe.out
    have HbEe := jh bEe
    have HeEe := jh eEe
    have HlEe := jh lEe
    have HiEe := jh (zau lEe)
    clear bEe eEe lEe
    obtain ⟨zCc, lCc, bCc, eCc⟩ := ECc.out
    have HbCc := jh bCc
    have HeCc := jh eCc
    have HlCc := jh lCc
    have HiCc := jh (zau lCc)
    clear bCc eCc lCc
    go_wp2_with (first | (refine slb TEe HbEe.out q103 HiEe.out ?_) | (refine slb TCc HbCc.out q103 HiCc.out ?_))
    refine (rsub_f wl9 HeEe.out HeCc.out).mono ?_
    rintro e wl10 ⟨r, rfl, hr, hb⟩
    obtain ⟨z, hz, lz⟩ := hr.form
    subst hz
    have EAa := jh (EAa.out.ext hb)
    have EBb := jh (EBb.out.ext hb)
    have ECc := jh (ECc.out.ext hb)
    have EEe := jh (EEe.out.ext hb)
    have EHh := jh (EHh.out.ext hb)
    have HP := xb HP hb
    have HQ := xb HQ hb
    have HR := xb HR hb
    have HE := xt HE hb
    clear hb
    have HZ := jh (Blk.made wl10 (ints .i64 (List.replicate 16 0)) 68)
    have HEA := jh (Ext.alloc wl10 (.cells (ints .i64 (List.replicate 16 0)).toArray 68))
    have HI := jh (zau lz)
    have HL : Hid ((ints .i64 z).length = (ints .i64 (List.replicate 16 0)).length) := jh (by rw [zaa, lz]; rfl)
    go_upto_region 8 with (refine ssb wl10.heap.size (ints .i64 z) HZ.out HL.out HI.out (zaj _ _) ?_; intro wl11 hbm hgm)
    have HX := jh (zab HEA.out hgm (q102 _))
    obtain ⟨TFf, hT⟩ : ∃ T, T = wl10.heap.size := ⟨_, rfl⟩
    have HTFf : Hid (THh < TFf) := jh (by rw [hT]; exact EHh.out.lt)
    rw [← hT] at hbm ⊢
    have EAa := jh (EAa.out.ext HX.out)
    have EBb := jh (EBb.out.ext HX.out)
    have ECc := jh (ECc.out.ext HX.out)
    have EEe := jh (EEe.out.ext HX.out)
    have EHh := jh (EHh.out.ext HX.out)
    have HP := xb HP HX.out
    have HQ := xb HQ HX.out
    have HR := xb HR HX.out
    have HE := xt HE HX.out
    have EFf : Hid (ElB wl11 TFf ((p.z * q.z + p.z * q.z) - (p.t * q.t * (dF + dF)))) := jh ⟨z, lz, hbm, hr⟩
    have HO := jh (And.intro HO.out HTFf.out)
    clear hbm hgm HZ HEA HX hT hr HI HL lz
    obtain ⟨zEe, lEe, bEe, eEe⟩ := EEe.out
    have HbEe := jh bEe
    have HeEe := jh eEe
    have HlEe := jh lEe
    have HiEe := jh (zau lEe)
    clear bEe eEe lEe
    obtain ⟨zCc, lCc, bCc, eCc⟩ := ECc.out
    have HbCc := jh bCc
    have HeCc := jh eCc
    have HlCc := jh lCc
    have HiCc := jh (zau lCc)
    clear bCc eCc lCc
    go_wp2_with (first | (refine slb TEe HbEe.out q103 HiEe.out ?_) | (refine slb TCc HbCc.out q103 HiCc.out ?_))
    refine (radd_f wl11 HeEe.out HeCc.out).mono ?_
    rintro e wl12 ⟨r, rfl, hr, hb⟩
    obtain ⟨z, hz, lz⟩ := hr.form
    subst hz
    have EAa := jh (EAa.out.ext hb)
    have EBb := jh (EBb.out.ext hb)
    have ECc := jh (ECc.out.ext hb)
    have EEe := jh (EEe.out.ext hb)
    have EHh := jh (EHh.out.ext hb)
    have EFf := jh (EFf.out.ext hb)
    have HP := xb HP hb
    have HQ := xb HQ hb
    have HR := xb HR hb
    have HE := xt HE hb
    clear hb
    have HZ := jh (Blk.made wl12 (ints .i64 (List.replicate 16 0)) 68)
    have HEA := jh (Ext.alloc wl12 (.cells (ints .i64 (List.replicate 16 0)).toArray 68))
    have HI := jh (zau lz)
    have HL : Hid ((ints .i64 z).length = (ints .i64 (List.replicate 16 0)).length) := jh (by rw [zaa, lz]; rfl)
    go_upto_region 9 with (refine ssb wl12.heap.size (ints .i64 z) HZ.out HL.out HI.out (zaj _ _) ?_; intro wl13 hbm hgm)
    have HX := jh (zab HEA.out hgm (q102 _))
    obtain ⟨TGg, hT⟩ : ∃ T, T = wl12.heap.size := ⟨_, rfl⟩
    have HTGg : Hid (TFf < TGg) := jh (by rw [hT]; exact EFf.out.lt)
    rw [← hT] at hbm ⊢
    have EAa := jh (EAa.out.ext HX.out)
    have EBb := jh (EBb.out.ext HX.out)
    have ECc := jh (ECc.out.ext HX.out)
    have EEe := jh (EEe.out.ext HX.out)
    have EHh := jh (EHh.out.ext HX.out)
    have EFf := jh (EFf.out.ext HX.out)
    have HP := xb HP HX.out
    have HQ := xb HQ HX.out
    have HR := xb HR HX.out
    have HE := xt HE HX.out
    have EGg : Hid (ElB wl13 TGg ((p.z * q.z + p.z * q.z) + (p.t * q.t * (dF + dF)))) := jh ⟨z, lz, hbm, hr⟩
    have HO := jh (And.intro HO.out HTGg.out)
    clear hbm hgm HZ HEA HX hT hr HI HL lz
    obtain ⟨zBb, lBb, bBb, eBb⟩ := EBb.out
    have HbBb := jh bBb
    have HeBb := jh eBb
    have HlBb := jh lBb
    have HiBb := jh (zau lBb)
    clear bBb eBb lBb
    obtain ⟨zAa, lAa, bAa, eAa⟩ := EAa.out
    have HbAa := jh bAa
    have HeAa := jh eAa
    have HlAa := jh lAa
    have HiAa := jh (zau lAa)
    clear bAa eAa lAa
    go_wp2_with (first | (refine slb TBb HbBb.out q103 HiBb.out ?_) | (refine slb TAa HbAa.out q103 HiAa.out ?_))
    refine (radd_f wl13 HeBb.out HeAa.out).mono ?_
    rintro e wl14 ⟨r, rfl, hr, hb⟩
    obtain ⟨z, hz, lz⟩ := hr.form
    subst hz
    have EAa := jh (EAa.out.ext hb)
    have EBb := jh (EBb.out.ext hb)
    have ECc := jh (ECc.out.ext hb)
    have EEe := jh (EEe.out.ext hb)
    have EHh := jh (EHh.out.ext hb)
    have EFf := jh (EFf.out.ext hb)
    have EGg := jh (EGg.out.ext hb)
    have HP := xb HP hb
    have HQ := xb HQ hb
    have HR := xb HR hb
    have HE := xt HE hb
    clear hb
    have HZ := jh (Blk.made wl14 (ints .i64 (List.replicate 16 0)) 68)
    have HEA := jh (Ext.alloc wl14 (.cells (ints .i64 (List.replicate 16 0)).toArray 68))
    have HI := jh (zau lz)
    have HL : Hid ((ints .i64 z).length = (ints .i64 (List.replicate 16 0)).length) := jh (by rw [zaa, lz]; rfl)
    go_upto_region 10 with (refine ssb wl14.heap.size (ints .i64 z) HZ.out HL.out HI.out (zaj _ _) ?_; intro wl15 hbm hgm)
    have HX := jh (zab HEA.out hgm (q102 _))
    obtain ⟨TIi, hT⟩ : ∃ T, T = wl14.heap.size := ⟨_, rfl⟩
    have HTIi : Hid (TGg < TIi) := jh (by rw [hT]; exact EGg.out.lt)
    rw [← hT] at hbm ⊢
    have EAa := jh (EAa.out.ext HX.out)
    have EBb := jh (EBb.out.ext HX.out)
    have ECc := jh (ECc.out.ext HX.out)
    have EEe := jh (EEe.out.ext HX.out)
    have EHh := jh (EHh.out.ext HX.out)
    have EFf := jh (EFf.out.ext HX.out)
    have EGg := jh (EGg.out.ext HX.out)
    have HP := xb HP HX.out
    have HQ := xb HQ HX.out
    have HR := xb HR HX.out
    have HE := xt HE HX.out
    have EIi : Hid (ElB wl15 TIi (((p.y + p.x) * (q.y + q.x)) + ((p.y - p.x) * (q.y - q.x)))) := jh ⟨z, lz, hbm, hr⟩
    have HO := jh (And.intro HO.out HTIi.out)
    clear hbm hgm HZ HEA HX hT hr HI HL lz
    obtain ⟨zHh, lHh, bHh, eHh⟩ := EHh.out
    have HbHh := jh bHh
    have HeHh := jh eHh
    have HlHh := jh lHh
    have HiHh := jh (zau lHh)
    clear bHh eHh lHh
    obtain ⟨zFf, lFf, bFf, eFf⟩ := EFf.out
    have HbFf := jh bFf
    have HeFf := jh eFf
    have HlFf := jh lFf
    have HiFf := jh (zau lFf)
    clear bFf eFf lFf
    obtain ⟨zGg, lGg, bGg, eGg⟩ := EGg.out
    have HbGg := jh bGg
    have HeGg := jh eGg
    have HlGg := jh lGg
    have HiGg := jh (zau lGg)
    clear bGg eGg lGg
    obtain ⟨zIi, lIi, bIi, eIi⟩ := EIi.out
    have HbIi := jh bIi
    have HeIi := jh eIi
    have HlIi := jh lIi
    have HiIi := jh (zau lIi)
    clear bIi eIi lIi
    have B0 : Ext wl15 wl15.drew := Ext.drew _
    refine wp_region_held_drew (S := fun w' => Far (A + 1 + 1) wl15 w') (by kernel_rfl) (zbl B0) (fun hW => ?_)
    refine tke 0 (.agg (ints .i64 zHh).toArray) rfl (sld THh 0 (fun w h => zba HbHh.out (by have := HO.out; omega) h) q103 HiHh.out) hW ?_
    simp only [nm]
    refine tke 1 (.agg (ints .i64 zFf).toArray) rfl (sld TFf 0 (fun w h => zba HbFf.out (by have := HO.out; omega) h) q103 HiFf.out) hW ?_
    simp only [nm]
    refine tke 3 (.agg (ints .i64 zIi).toArray) rfl (sld TIi 0 (fun w h => zba HbIi.out (by have := HO.out; omega) h) q103 HiIi.out) hW ?_
    simp only [nm]
    refine tke 4 (.agg (ints .i64 zGg).toArray) rfl (sld TGg 0 (fun w h => zba HbGg.out (by have := HO.out; omega) h) q103 HiGg.out) hW ?_
    simp only [nm]
    refine tke 6 (.agg (ints .i64 zFf).toArray) rfl (sld TFf 0 (fun w h => zba HbFf.out (by have := HO.out; omega) h) q103 HiFf.out) hW ?_
    simp only [nm]
    refine tke 7 (.agg (ints .i64 zGg).toArray) rfl (sld TGg 0 (fun w h => zba HbGg.out (by have := HO.out; omega) h) q103 HiGg.out) hW ?_
    simp only [nm]
    refine tke 9 (.agg (ints .i64 zHh).toArray) rfl (sld THh 0 (fun w h => zba HbHh.out (by have := HO.out; omega) h) q103 HiHh.out) hW ?_
    simp only [nm]
    refine tke 10 (.agg (ints .i64 zIi).toArray) rfl (sld TIi 0 (fun w h => zba HbIi.out (by have := HO.out; omega) h) q103 HiIi.out) hW ?_
    simp only [nm]
    refine rdy 2 rfl fun K hK => ?_
    go_simp
    refine (zfg _ HeHh.out HeFf.out).mono ?_
    rintro e m1 ⟨v1, rfl, e1, b1⟩
    obtain ⟨z1, hz1, l1⟩ := e1.form
    subst hz1
    have N1 : Ext wl15 m1 := B0.trans b1
    refine hK.out _ _ (zbl N1) (fun hW => ?_)
    clear hK K
    try simp only [nm]
    refine rdy 5 rfl fun K hK => ?_
    go_simp
    refine (zfg _ HeIi.out HeGg.out).mono ?_
    rintro e m2 ⟨v2, rfl, e2, b2⟩
    obtain ⟨z2, hz2, l2⟩ := e2.form
    subst hz2
    have N2 : Ext wl15 m2 := N1.trans b2
    refine hK.out _ _ (zbl N2) (fun hW => ?_)
    clear hK K
    try simp only [nm]
    refine rdy 8 rfl fun K hK => ?_
    go_simp
    refine (zfg _ HeFf.out HeGg.out).mono ?_
    rintro e m3 ⟨v3, rfl, e3, b3⟩
    obtain ⟨z3, hz3, l3⟩ := e3.form
    subst hz3
    have N3 : Ext wl15 m3 := N2.trans b3
    refine hK.out _ _ (zbl N3) (fun hW => ?_)
    clear hK K
    try simp only [nm]
    refine rdy 11 rfl fun K hK => ?_
    go_simp
    refine (zfg _ HeHh.out HeIi.out).mono ?_
    rintro e m4 ⟨v4, rfl, e4, b4⟩
    obtain ⟨z4, hz4, l4⟩ := e4.form
    subst hz4
    have N4 : Ext wl15 m4 := N3.trans b4
    refine hK.out _ _ (zbl N4) (fun hW => ?_)
    clear hK K
    try simp only [nm]
    refine tke 12 (.agg (ptC z1 z2 z3 z4).toArray) rfl (yi_build _ _ _ _ (build_pt (⟨⟨l1, e1⟩, ⟨l2, e2⟩, ⟨l3, e3⟩, ⟨l4, e4⟩⟩ : PtZ z1 z2 z3 z4 (p.sum q))) (by rfl) rfl (by simp [Act.eval])) hW ?_
    simp only [nm]
    refine rdy 13 rfl fun K hK => ?_
    refine zbn (by rfl) ?_
    refine zak _ _ _ rfl (A + 1 + 1) (ptC z1 z2 z3 z4) rfl rfl _ _ (zad HR.out N4) (by rw [zca ((⟨⟨l1, e1⟩, ⟨l2, e2⟩, ⟨l3, e3⟩, ⟨l4, e4⟩⟩ : PtZ z1 z2 z3 z4 (p.sum q))), zaa]; rfl) (zcl ((⟨⟨l1, e1⟩, ⟨l2, e2⟩, ⟨l3, e3⟩, ⟨l4, e4⟩⟩ : PtZ z1 z2 z3 z4 (p.sum q)))) (zeo _ _ _ _) ?_
    intro m5 hb5 hg5
    refine hK.out _ _ (zcn N4 hg5) (fun hW => ?_)
    clear hK K
    try simp only [nm]
    refine dne ?_
    go_wp2_with fail
    refine bodyPost_ret (result_pt rfl _ (A + 1 + 1) _ _ rfl hb5 q132 (zcl (⟨⟨l1, e1⟩, ⟨l2, e2⟩, ⟨l3, e3⟩, ⟨l4, e4⟩⟩ : PtZ z1 z2 z3 z4 (p.sum q)))) rfl ?_
    exact ⟨_, rfl, ⟨_, _, _, _, rfl, (⟨⟨l1, e1⟩, ⟨l2, e2⟩, ⟨l3, e3⟩, ⟨l4, e4⟩⟩ : PtZ z1 z2 z3 z4 (p.sum q))⟩, zab (HE.out.trans N4) hg5 (by have := HO.out; omega)⟩
