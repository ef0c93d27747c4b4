/- The walk of the reference's root. Each theorem names its own conditions. -/
import Derived.Test.YtmiapjmdolecbaaDoorRefRoot
import Derived.Deep.CutRange
namespace Go.Proofs.YtmiapjmdolecbaaDoor
open Go.RowKit
set_option linter.unusedVariables false
set_option linter.unusedSimpArgs false

/-- The root of -1, as it lies. -/
def RTL : List Int := [41136, 18958, 6951, 50414, 58488, 44335, 6150, 12099, 55207, 15867, 153, 11085, 57099, 20417, 9344, 11139]
theorem rt_el : IsEl (.agg (ints .i64 RTL).toArray) sm1 := ⟨RTL, rfl, rfl, by decide +kernel, 0, by decide +kernel⟩
def Glob (w : World) : Prop := w.rangeAt 0 0 (ints .i64 RTL)
theorem Glob.ext {w w' : World} (h : Glob w) (hb : Ext w w') : Glob w' := by
  have h0 := h 0 (.int .i64 41136) rfl
  have hl : 0 < w.heap.size := by
    apply Classical.byContradiction
    intro hn
    have e : w.heap[0]? = none := by rw [Array.getElem?_eq_none]; omega
    simp [World.cell?, e] at h0
  intro j v hj
  have h1 := h j v hj
  have e := hb.block 0 hl
  simpa [World.cell?, e] using h1

set_option maxRecDepth 100000 in
set_option maxHeartbeats 8000000 in
theorem rroot_any (u : Value) (x : Int) (w : World) (hu : IsEl u x) (hG : Glob w) :
    Calls Tryd.prog 19 #[u] w fun e w' => (∃ r, e = .returned (.tuple #[r, .bool (rootB x)]) ∧ IsEl r (rootR x)) ∧ Below w.heap.size w w' := by
  have HUE := Lib.hid hu
  obtain ⟨xs, rfl, la, ba, qa, va⟩ := hu
  have HU := Lib.hid Tryd.underlying42
  have HI1 : Hid ((Tryd.prog.info? 42).map (·.size) = some (ints .i64 xs).length) := Lib.hid (by rw [ints_length, la]; exact Tryd.arr42)
  have HGW := Lib.hid hG
  have HBX := Lib.hid (boxes2 w (ints .i64 xs) (ints .i64 (List.replicate 16 0)) 42 42)
  clear la ba va hG
  go_enter Tryd.func19, Tryd.ntmps19
  go_wp2_with fail
  change Code.wp _ _ _ _ ((w.alloc (.cells (ints .i64 xs).toArray 42)).alloc (.cells (ints .i64 (List.replicate 16 0)).toArray 42))
  generalize (w.alloc (.cells (ints .i64 xs).toArray 42)).alloc (.cells (ints .i64 (List.replicate 16 0)).toArray 42) = w0 at *
  obtain ⟨h1, h2, h4⟩ := HBX.out
  obtain ⟨A, hA⟩ : ∃ A, A = w.heap.size := ⟨_, rfl⟩
  rw [← hA] at h1 h2 ⊢
  have hA2 : w.heap.size ≤ A := by omega
  have H1 := Lib.hid h1
  have H3 := Lib.hid h2
  have H4 : Hid (Ext w w0) := Lib.hid h4
  clear h1 h2 h4 HBX hA
  go_cut [4] from 5 to 22 (fun v wc => ∃ (c : Nat) (zs : List Int), v = .pointer (some ⟨c, 0, none⟩) ∧ A + 1 < c ∧ Blk wc c (ints .i64 zs) 42 ∧ zs.length = 16 ∧ IsEl (.agg (ints .i64 zs).toArray) (x ^ pE) ∧ Ext w0 wc)
  case first =>
    have B0 : Below w0.heap.size w0 w0.drew := (Below.refl _ _).drew
    refine wp_region_held_drew (S := fun w' => w'.rangeAt A 0 (ints .i64 xs)) (by kernel_rfl) (bl_range H1.out B0) (fun hHeld => ?_)
    refine wpAnyH_take (i := 0) (v := .agg (ints .i64 xs).toArray) rfl (by kernel_rfl) (by kernel_rfl) (by kernel_rfl) (fun _ _ _ h => h) (yieldsIf_load_mid (by rfl) _ _ rfl A 0 rfl _ _ (fun w h => h) HU.out rfl HI1.out) hHeld ?_
    try simp only [Act.put, List.setIfInBounds_toArray, List.set_cons_zero, List.set_cons_succ]
    refine wpAnyH_ready (rs := [1, 3]) (by kernel_rfl) (by simp) (AllReadyH.cons rfl (fun K hK => ?_) (AllReadyH.cons rfl (fun K hK => ?_) AllReadyH.nil))
    · skip
      go_simp
      refine (reighth_any _).mono ?_
      rintro e w1 ⟨rfl, b1⟩
      have B1 := B0.trans (b1.mono B0.size)
      refine hK.out _ _ (bl_range H1.out B1) (fun hHeld => ?_)
      clear hK K hHeld
      try simp only [Act.put, List.setIfInBounds_toArray, List.set_cons_zero, List.set_cons_succ]
      refine wpAnyH_ready (rs := [2, 3]) (by kernel_rfl) (by simp) (AllReadyH.cons rfl (fun K hK => ?_) (AllReadyH.cons rfl (fun K hK => ?_) AllReadyH.nil))
      · skip
        go_simp
        refine (rpow_any _ _ (bytesN 32 pE) _ HUE.out (bytesN_length 32 pE)).mono ?_
        rintro e w2 ⟨r2, rfl, e2, b2⟩
        rw [leN_eighth] at e2
        obtain ⟨zs, rfl, lz, bz, qz, vz⟩ := id e2
        have B2 := B1.trans (b2.mono B1.size)
        refine hK.out _ _ (bl_range H1.out B2) (fun hHeld => ?_)
        clear hK K hHeld
        try simp only [Act.put, List.setIfInBounds_toArray, List.set_cons_zero, List.set_cons_succ]
        refine wpAnyH_ready (rs := [3]) (by kernel_rfl) (by simp) (AllReadyH.cons rfl (fun K hK => ?_) AllReadyH.nil)
        go_simp
        have hMD := Blk.made w2 (ints .i64 (List.replicate 16 0)) 42
        have BA := B2.trans ((Ext.alloc w2 (.cells (ints .i64 (List.replicate 16 0)).toArray 42)).mono B2.size)
        refine hK.out _ _ (bl_range H1.out BA) (fun hHeld => ?_)
        clear hK K hHeld
        try simp only [Act.put, List.setIfInBounds_toArray, List.set_cons_zero, List.set_cons_succ]
        refine wpAnyH_ready (rs := [4]) (by kernel_rfl) (by simp) (AllReadyH.cons rfl (fun K hK => ?_) AllReadyH.nil)
        rw [if_pos (by rfl)]
        have hi2 : (Tryd.prog.info? 42).map (·.size) = some (ints .i64 zs).length := by rw [ints_length, lz]; exact Tryd.arr42
        have hlt : A + 1 < w2.heap.size := by have := (bl_blk H3.out B2).lt; simpa using this
        have hMD2 := hMD
        refine wp_store_blk _ _ _ rfl w2.heap.size (ints .i64 zs) rfl rfl _ _ hMD2 (by rw [ints_length, ints_length, lz]; rfl) hi2 (ints_one _ _) ?_
        intro w5 hb5 hg5
        refine hK.out _ _ ((bl_blk H1.out BA).grown hg5 (by simp; omega)).range (fun hHeld => ?_)
        clear hK K hHeld
        refine wpAnyH_done (by kernel_rfl) ?_ _
        have BE : Ext w0 w5 := Below.grown BA hg5 BA.size (fun r hr => by cases hr; have := H3.out.lt; have := B2.size; omega)
        go_wp2_with fail
        go_meet
        exact ⟨_, zs, rfl, hlt, hb5, lz, e2, BE⟩
      · skip
        go_simp
        have hMD := Blk.made w1 (ints .i64 (List.replicate 16 0)) 42
        have BA := B1.trans ((Ext.alloc w1 (.cells (ints .i64 (List.replicate 16 0)).toArray 42)).mono B1.size)
        refine hK.out _ _ (bl_range H1.out BA) (fun hHeld => ?_)
        clear hK K hHeld
        try simp only [Act.put, List.setIfInBounds_toArray, List.set_cons_zero, List.set_cons_succ]
        refine wpAnyH_ready (rs := [2]) (by kernel_rfl) (by simp) (AllReadyH.cons rfl (fun K hK => ?_) AllReadyH.nil)
        go_simp
        refine (rpow_any _ _ (bytesN 32 pE) _ HUE.out (bytesN_length 32 pE)).mono ?_
        rintro e w2 ⟨r2, rfl, e2, b2⟩
        rw [leN_eighth] at e2
        obtain ⟨zs, rfl, lz, bz, qz, vz⟩ := id e2
        have B2 := BA.trans (b2.mono BA.size)
        refine hK.out _ _ (bl_range H1.out B2) (fun hHeld => ?_)
        clear hK K hHeld
        try simp only [Act.put, List.setIfInBounds_toArray, List.set_cons_zero, List.set_cons_succ]
        refine wpAnyH_ready (rs := [4]) (by kernel_rfl) (by simp) (AllReadyH.cons rfl (fun K hK => ?_) AllReadyH.nil)
        rw [if_pos (by rfl)]
        have hi2 : (Tryd.prog.info? 42).map (·.size) = some (ints .i64 zs).length := by rw [ints_length, lz]; exact Tryd.arr42
        have hlt : A + 1 < w1.heap.size := by have := (bl_blk H3.out B1).lt; simpa using this
        have hMD2 := bl_blk hMD b2
        refine wp_store_blk _ _ _ rfl w1.heap.size (ints .i64 zs) rfl rfl _ _ hMD2 (by rw [ints_length, ints_length, lz]; rfl) hi2 (ints_one _ _) ?_
        intro w5 hb5 hg5
        refine hK.out _ _ ((bl_blk H1.out B2).grown hg5 (by simp; omega)).range (fun hHeld => ?_)
        clear hK K hHeld
        refine wpAnyH_done (by kernel_rfl) ?_ _
        have BE : Ext w0 w5 := Below.grown B2 hg5 B2.size (fun r hr => by cases hr; have := H3.out.lt; have := B1.size; omega)
        go_wp2_with fail
        go_meet
        exact ⟨_, zs, rfl, hlt, hb5, lz, e2, BE⟩
    · skip
      go_simp
      have hMD := Blk.made w0.drew (ints .i64 (List.replicate 16 0)) 42
      have BA := B0.trans ((Ext.alloc w0.drew (.cells (ints .i64 (List.replicate 16 0)).toArray 42)).mono B0.size)
      refine hK.out _ _ (bl_range H1.out BA) (fun hHeld => ?_)
      clear hK K hHeld
      try simp only [Act.put, List.setIfInBounds_toArray, List.set_cons_zero, List.set_cons_succ]
      refine wpAnyH_ready (rs := [1]) (by kernel_rfl) (by simp) (AllReadyH.cons rfl (fun K hK => ?_) AllReadyH.nil)
      go_simp
      refine (reighth_any _).mono ?_
      rintro e w1 ⟨rfl, b1⟩
      have B1 := BA.trans (b1.mono BA.size)
      refine hK.out _ _ (bl_range H1.out B1) (fun hHeld => ?_)
      clear hK K hHeld
      try simp only [Act.put, List.setIfInBounds_toArray, List.set_cons_zero, List.set_cons_succ]
      refine wpAnyH_ready (rs := [2]) (by kernel_rfl) (by simp) (AllReadyH.cons rfl (fun K hK => ?_) AllReadyH.nil)
      go_simp
      refine (rpow_any _ _ (bytesN 32 pE) _ HUE.out (bytesN_length 32 pE)).mono ?_
      rintro e w2 ⟨r2, rfl, e2, b2⟩
      rw [leN_eighth] at e2
      obtain ⟨zs, rfl, lz, bz, qz, vz⟩ := id e2
      have B2 := B1.trans (b2.mono B1.size)
      refine hK.out _ _ (bl_range H1.out B2) (fun hHeld => ?_)
      clear hK K hHeld
      try simp only [Act.put, List.setIfInBounds_toArray, List.set_cons_zero, List.set_cons_succ]
      refine wpAnyH_ready (rs := [4]) (by kernel_rfl) (by simp) (AllReadyH.cons rfl (fun K hK => ?_) AllReadyH.nil)
      rw [if_pos (by rfl)]
      have hi2 : (Tryd.prog.info? 42).map (·.size) = some (ints .i64 zs).length := by rw [ints_length, lz]; exact Tryd.arr42
      have hlt : A + 1 < w0.heap.size := by have := (bl_blk H3.out (Below.refl w0.heap.size w0)).lt; simpa using this
      have hMD2 := bl_blk (bl_blk hMD b1) b2
      refine wp_store_blk _ _ _ rfl w0.heap.size (ints .i64 zs) rfl rfl _ _ hMD2 (by rw [ints_length, ints_length, lz]; rfl) hi2 (ints_one _ _) ?_
      intro w5 hb5 hg5
      refine hK.out _ _ ((bl_blk H1.out B2).grown hg5 (by simp; omega)).range (fun hHeld => ?_)
      clear hK K hHeld
      refine wpAnyH_done (by kernel_rfl) ?_ _
      have BE : Ext w0 w5 := Below.grown B2 hg5 B2.size (fun r hr => by cases hr; have := H3.out.lt; have := (Below.refl w0.heap.size w0).size; omega)
      go_wp2_with fail
      go_meet
      exact ⟨_, zs, rfl, hlt, hb5, lz, e2, BE⟩
  case rest =>
    obtain ⟨c, zs, rfl, hc, hbc, lz, ez, hE⟩ := hcut
    obtain ⟨y, hy⟩ : ∃ y, y = x ^ pE := ⟨_, rfl⟩
    have HY1 : Hid (nb (y * y) = nb x → rootR x = y) := Lib.hid (fun h => by unfold rootR; rw [← hy, if_pos h])
    have HY2 : Hid (¬ nb (y * y) = nb x → rootR x = y * sm1) := Lib.hid (fun h => by unfold rootR; rw [← hy, if_neg h])
    rw [← hy] at ez
    have HZE := Lib.hid ez
    have HC := Lib.hid hbc
    have HA1 := Lib.hid (ext_blk H1.out hE)
    have HA2 := Lib.hid (ext_blk H3.out hE)
    have HEW : Hid (Ext w wc) := Lib.hid (H4.out.trans hE)
    have HI2 : Hid ((Tryd.prog.info? 42).map (·.size) = some (ints .i64 zs).length) := Lib.hid (by rw [ints_length, lz]; exact Tryd.arr42)
    have HIR : Hid ((Tryd.prog.info? 42).map (·.size) = some (ints .i64 RTL).length) := Lib.hid (by rw [ints_length]; exact Tryd.arr42)
    have HLZ := Lib.hid lz
    clear hbc lz ez hE hy H1 H3 H4
    by_cases hsq : nb (y * y) = nb x
    · skip
      go_wp2_with fail
      have B0 : Below wc.heap.size wc wc.drew := (Below.refl _ _).drew
      refine wp_region_held_drew (S := fun w' => w'.rangeAt A 0 (ints .i64 xs) ∧ w'.rangeAt c 0 (ints .i64 zs)) (by kernel_rfl) ⟨bl_range HA1.out B0, bl_range HC.out B0⟩ (fun hHeld => ?_)
      refine wpAnyH_take (i := 0) (v := .agg (ints .i64 zs).toArray) rfl (by kernel_rfl) (by kernel_rfl) (by kernel_rfl) (fun _ _ _ h => h) (yieldsIf_load_mid (by rfl) _ _ rfl c 0 rfl _ _ (fun w h => h.2) HU.out rfl HI2.out) hHeld ?_
      try simp only [Act.put, List.setIfInBounds_toArray, List.set_cons_zero, List.set_cons_succ]
      refine wpAnyH_take (i := 1) (v := .agg (ints .i64 zs).toArray) rfl (by kernel_rfl) (by kernel_rfl) (by kernel_rfl) (fun _ _ _ h => h) (yieldsIf_load_mid (by rfl) _ _ rfl c 0 rfl _ _ (fun w h => h.2) HU.out rfl HI2.out) hHeld ?_
      try simp only [Act.put, List.setIfInBounds_toArray, List.set_cons_zero, List.set_cons_succ]
      refine wpAnyH_take (i := 3) (v := .agg (ints .i64 xs).toArray) rfl (by kernel_rfl) (by kernel_rfl) (by kernel_rfl) (fun _ _ _ h => h) (yieldsIf_load_mid (by rfl) _ _ rfl A 0 rfl _ _ (fun w h => h.1) HU.out rfl HI1.out) hHeld ?_
      try simp only [Act.put, List.setIfInBounds_toArray, List.set_cons_zero, List.set_cons_succ]
      refine wpAnyH_ready (rs := [2]) (by kernel_rfl) (by simp) (AllReadyH.cons rfl (fun K hK => ?_) AllReadyH.nil)
      go_simp
      refine (rmul_any _ _ _ _ _ HZE.out HZE.out).mono ?_
      rintro e m1 ⟨r1, rfl, e1, b1⟩
      have B1 := B0.trans (b1.mono B0.size)
      refine hK.out _ _ ⟨bl_range HA1.out B1, bl_range HC.out B1⟩ (fun hHeld => ?_)
      clear hK K hHeld
      try simp only [Act.put, List.setIfInBounds_toArray, List.set_cons_zero, List.set_cons_succ]
      refine wpAnyH_ready (rs := [4]) (by kernel_rfl) (by simp) (AllReadyH.cons rfl (fun K hK => ?_) AllReadyH.nil)
      go_simp
      refine (rsame_any _ _ _ _ _ e1 HUE.out).mono ?_
      rintro e m2 ⟨he, b2⟩
      rw [decide_eq_true hsq] at he
      subst he
      have B2 := B1.trans (b2.mono B1.size)
      refine hK.out _ _ ⟨bl_range HA1.out B2, bl_range HC.out B2⟩ (fun hHeld => ?_)
      clear hK K hHeld
      try simp only [Act.put, List.setIfInBounds_toArray, List.set_cons_zero, List.set_cons_succ]
      refine wpAnyH_done (by kernel_rfl) ?_ _
      have HC := Lib.hid (ext_blk HC.out B2)
      have HA1 := Lib.hid (ext_blk HA1.out B2)
      have HA2 := Lib.hid (ext_blk HA2.out B2)
      have HEW := Lib.hid (HEW.out.trans B2)
      clear b1 b2 B0 B1 B2 e1
      have HSQ := Lib.hid hsq
      clear hsq
      go_wp2_with (first | (refine wpList_load_blk rfl _ _ rfl c rfl _ _ _ _ HC.out Tryd.underlying42 HI2.out ?_) | (refine wpList_store_blk rfl _ _ _ rfl (A + 1) _ rfl rfl _ _ HA2.out (by rw [ints_length, ints_length, HLZ.out]; rfl) HI2.out (ints_one _ _) ?_; intro w5 hb5 hg5))
      exact bodyPost_ret (result_row_tmp (p := 2) (u := 3) (by rfl) _ (A + 1) _ _ _ (by rfl) hb5 Tryd.underlying42 rfl HI2.out) rfl ⟨⟨_, by rw [rootB_true2 (HY1.out HSQ.out).symm HSQ.out]; rfl, by rw [HY1.out HSQ.out]; exact HZE.out⟩, ext_grown HEW.out hg5 (by omega)⟩
    · skip
      go_wp2_with fail
      have B0 : Below wc.heap.size wc wc.drew := (Below.refl _ _).drew
      refine wp_region_held_drew (S := fun w' => w'.rangeAt A 0 (ints .i64 xs) ∧ w'.rangeAt c 0 (ints .i64 zs)) (by kernel_rfl) ⟨bl_range HA1.out B0, bl_range HC.out B0⟩ (fun hHeld => ?_)
      refine wpAnyH_take (i := 0) (v := .agg (ints .i64 zs).toArray) rfl (by kernel_rfl) (by kernel_rfl) (by kernel_rfl) (fun _ _ _ h => h) (yieldsIf_load_mid (by rfl) _ _ rfl c 0 rfl _ _ (fun w h => h.2) HU.out rfl HI2.out) hHeld ?_
      try simp only [Act.put, List.setIfInBounds_toArray, List.set_cons_zero, List.set_cons_succ]
      refine wpAnyH_take (i := 1) (v := .agg (ints .i64 zs).toArray) rfl (by kernel_rfl) (by kernel_rfl) (by kernel_rfl) (fun _ _ _ h => h) (yieldsIf_load_mid (by rfl) _ _ rfl c 0 rfl _ _ (fun w h => h.2) HU.out rfl HI2.out) hHeld ?_
      try simp only [Act.put, List.setIfInBounds_toArray, List.set_cons_zero, List.set_cons_succ]
      refine wpAnyH_take (i := 3) (v := .agg (ints .i64 xs).toArray) rfl (by kernel_rfl) (by kernel_rfl) (by kernel_rfl) (fun _ _ _ h => h) (yieldsIf_load_mid (by rfl) _ _ rfl A 0 rfl _ _ (fun w h => h.1) HU.out rfl HI1.out) hHeld ?_
      try simp only [Act.put, List.setIfInBounds_toArray, List.set_cons_zero, List.set_cons_succ]
      refine wpAnyH_ready (rs := [2]) (by kernel_rfl) (by simp) (AllReadyH.cons rfl (fun K hK => ?_) AllReadyH.nil)
      go_simp
      refine (rmul_any _ _ _ _ _ HZE.out HZE.out).mono ?_
      rintro e m1 ⟨r1, rfl, e1, b1⟩
      have B1 := B0.trans (b1.mono B0.size)
      refine hK.out _ _ ⟨bl_range HA1.out B1, bl_range HC.out B1⟩ (fun hHeld => ?_)
      clear hK K hHeld
      try simp only [Act.put, List.setIfInBounds_toArray, List.set_cons_zero, List.set_cons_succ]
      refine wpAnyH_ready (rs := [4]) (by kernel_rfl) (by simp) (AllReadyH.cons rfl (fun K hK => ?_) AllReadyH.nil)
      go_simp
      refine (rsame_any _ _ _ _ _ e1 HUE.out).mono ?_
      rintro e m2 ⟨he, b2⟩
      rw [decide_eq_false hsq] at he
      subst he
      have B2 := B1.trans (b2.mono B1.size)
      refine hK.out _ _ ⟨bl_range HA1.out B2, bl_range HC.out B2⟩ (fun hHeld => ?_)
      clear hK K hHeld
      try simp only [Act.put, List.setIfInBounds_toArray, List.set_cons_zero, List.set_cons_succ]
      refine wpAnyH_done (by kernel_rfl) ?_ _
      have HC := Lib.hid (ext_blk HC.out B2)
      have HA1 := Lib.hid (ext_blk HA1.out B2)
      have HA2 := Lib.hid (ext_blk HA2.out B2)
      have HEW := Lib.hid (HEW.out.trans B2)
      clear b1 b2 B0 B1 B2 e1
      have HYR := Lib.hid (HY2.out hsq)
      clear hsq
      have HGC : Hid (m2.rangeAt 0 0 (ints .i64 RTL)) := Lib.hid (HGW.out.ext HEW.out)
      go_wp2_with (first | (refine wpList_load_blk rfl _ _ rfl c rfl _ _ _ _ HC.out Tryd.underlying42 HI2.out ?_) | (refine wpList_load_mid rfl _ _ rfl 0 0 rfl (ints .i64 RTL) _ HGC.out Tryd.underlying42 rfl HIR.out ?_))
      refine (rmul_any _ _ _ _ _ HZE.out rt_el).mono ?_
      rintro e m3 ⟨r3, rfl, e3, b3⟩
      rw [← HYR.out] at e3
      obtain ⟨ws, rfl, lw, bw, qw, vw⟩ := id e3
      have HWE := Lib.hid e3
      have HC := Lib.hid (ext_blk HC.out b3)
      have HA1 := Lib.hid (ext_blk HA1.out b3)
      have HA2 := Lib.hid (ext_blk HA2.out b3)
      have HEW := Lib.hid (HEW.out.trans b3)
      have HI3 : Hid ((Tryd.prog.info? 42).map (·.size) = some (ints .i64 ws).length) := Lib.hid (by rw [ints_length, lw]; exact Tryd.arr42)
      have HLW := Lib.hid lw
      clear b3 e3 lw bw vw
      go_wp2_with (refine wpList_store_blk rfl _ _ _ rfl c (ints .i64 ws) rfl rfl _ _ HC.out (by rw [ints_length, ints_length, HLZ.out, HLW.out]) HI3.out (ints_one _ _) ?_; intro w5 hb5 hg5)
      have HA1 := Lib.hid (HA1.out.grown hg5 (by simp; omega))
      have HA2 := Lib.hid (HA2.out.grown hg5 (by simp; omega))
      have HEW := Lib.hid (ext_grown HEW.out hg5 (by omega))
      have HC := Lib.hid hb5
      clear hb5 hg5
      have B0 : Below w5.heap.size w5 w5.drew := (Below.refl _ _).drew
      refine wp_region_held_drew (S := fun w' => w'.rangeAt A 0 (ints .i64 xs) ∧ w'.rangeAt c 0 (ints .i64 ws)) (by kernel_rfl) ⟨bl_range HA1.out B0, bl_range HC.out B0⟩ (fun hHeld => ?_)
      refine wpAnyH_take (i := 0) (v := .agg (ints .i64 ws).toArray) rfl (by kernel_rfl) (by kernel_rfl) (by kernel_rfl) (fun _ _ _ h => h) (yieldsIf_load_mid (by rfl) _ _ rfl c 0 rfl _ _ (fun w h => h.2) HU.out rfl HI3.out) hHeld ?_
      try simp only [Act.put, List.setIfInBounds_toArray, List.set_cons_zero, List.set_cons_succ]
      refine wpAnyH_take (i := 1) (v := .agg (ints .i64 ws).toArray) rfl (by kernel_rfl) (by kernel_rfl) (by kernel_rfl) (fun _ _ _ h => h) (yieldsIf_load_mid (by rfl) _ _ rfl c 0 rfl _ _ (fun w h => h.2) HU.out rfl HI3.out) hHeld ?_
      try simp only [Act.put, List.setIfInBounds_toArray, List.set_cons_zero, List.set_cons_succ]
      refine wpAnyH_take (i := 2) (v := .agg (ints .i64 ws).toArray) rfl (by kernel_rfl) (by kernel_rfl) (by kernel_rfl) (fun _ _ _ h => h) (yieldsIf_load_mid (by rfl) _ _ rfl c 0 rfl _ _ (fun w h => h.2) HU.out rfl HI3.out) hHeld ?_
      try simp only [Act.put, List.setIfInBounds_toArray, List.set_cons_zero, List.set_cons_succ]
      refine wpAnyH_take (i := 4) (v := .agg (ints .i64 xs).toArray) rfl (by kernel_rfl) (by kernel_rfl) (by kernel_rfl) (fun _ _ _ h => h) (yieldsIf_load_mid (by rfl) _ _ rfl A 0 rfl _ _ (fun w h => h.1) HU.out rfl HI1.out) hHeld ?_
      try simp only [Act.put, List.setIfInBounds_toArray, List.set_cons_zero, List.set_cons_succ]
      refine wpAnyH_ready (rs := [3]) (by kernel_rfl) (by simp) (AllReadyH.cons rfl (fun K hK => ?_) AllReadyH.nil)
      go_simp
      refine (rmul_any _ _ _ _ _ HWE.out HWE.out).mono ?_
      rintro e m6 ⟨r6, rfl, e6, b6⟩
      have B6 := B0.trans (b6.mono B0.size)
      refine hK.out _ _ ⟨bl_range HA1.out B6, bl_range HC.out B6⟩ (fun hHeld => ?_)
      clear hK K hHeld
      try simp only [Act.put, List.setIfInBounds_toArray, List.set_cons_zero, List.set_cons_succ]
      refine wpAnyH_ready (rs := [5]) (by kernel_rfl) (by simp) (AllReadyH.cons rfl (fun K hK => ?_) AllReadyH.nil)
      go_simp
      refine (rsame_any _ _ _ _ _ e6 HUE.out).mono ?_
      rintro e m7 ⟨he, b7⟩
      rw [show decide (nb (rootR x * rootR x) = nb x) = rootB x from rfl] at he
      subst he
      have B7 := B6.trans (b7.mono B6.size)
      refine hK.out _ _ ⟨bl_range HA1.out B7, bl_range HC.out B7⟩ (fun hHeld => ?_)
      clear hK K hHeld
      try simp only [Act.put, List.setIfInBounds_toArray, List.set_cons_zero, List.set_cons_succ]
      refine wpAnyH_ready (rs := [6]) (by kernel_rfl) (by simp) (AllReadyH.cons rfl (fun K hK => ?_) AllReadyH.nil)
      rw [if_pos (by rfl)]
      refine wp_store_blk _ _ _ rfl (A + 1) (ints .i64 ws) rfl rfl _ _ (bl_blk HA2.out B7) (by rw [ints_length, ints_length, HLW.out]; rfl) HI3.out (ints_one _ _) ?_
      intro w8 hb8 hg8
      refine hK.out _ _ ⟨((bl_blk HA1.out B7).grown hg8 (by simp)).range, ((bl_blk HC.out B7).grown hg8 (by simp; omega)).range⟩ (fun hHeld => ?_)
      clear hK K hHeld
      try simp only [Act.put, List.setIfInBounds_toArray, List.set_cons_zero, List.set_cons_succ]
      refine wpAnyH_ready (rs := [7]) (by kernel_rfl) (by simp) (AllReadyH.cons rfl (fun K hK => ?_) AllReadyH.nil)
      go_simp
      refine hK.out _ _ ⟨((bl_blk HA1.out B7).grown hg8 (by simp)).range, ((bl_blk HC.out B7).grown hg8 (by simp; omega)).range⟩ (fun hHeld => ?_)
      clear hK K hHeld
      try simp only [Act.put, List.setIfInBounds_toArray, List.set_cons_zero, List.set_cons_succ]
      refine wpAnyH_done (by kernel_rfl) ?_ _
      go_wp2_with fail
      exact bodyPost_ret (result_row_tmp (p := 2) (u := 3) (by rfl) _ (A + 1) _ _ _ (by rfl) hb8 Tryd.underlying42 rfl HI3.out) rfl ⟨⟨_, rfl, HWE.out⟩, ext_grown (HEW.out.trans B7) hg8 (by omega)⟩

end Go.Proofs.YtmiapjmdolecbaaDoor
