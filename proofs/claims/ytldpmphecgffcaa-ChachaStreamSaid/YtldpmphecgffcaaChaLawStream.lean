/- The walk of ChachaStream. Each theorem names its own conditions. -/
import Derived.Test.YtldpmphecgffcaaChaLaw0
namespace Go.Proofs.Ytldpmphecgffcaa
open Go.RowKit
set_option linter.unusedVariables false
set_option linter.unusedSimpArgs false

set_option maxRecDepth 100000 in
set_option maxHeartbeats 8000000 in
theorem chachaStream_any (kb nb b : List UInt8) (bv : Value) (c : Int) (w : World) (hk : kb.length = 32) (hn : nb.length = 12) (hc1 : -9223372036854775808 ≤ c) (hc2 : c ≤ 9223372036854775807) (hb : Row1 w bv (b.map bval)) :
    Calls Try.prog 5 #[.agg (kb.map bval).toArray, .int .i64 c, .agg (nb.map bval).toArray, bv] w fun e w' => e = .returned (.bool true) ∧ Below w.heap.size w w' := by
  obtain ⟨i0, hi0, hz0, hz1, hz2⟩ := info_parts Try.info5
  have HI0 := Lib.hid hi0
  have HZ0 := Lib.hid hz0
  have HZ1 := Lib.hid hz1
  have HZ2 := Lib.hid hz2
  have HR := Lib.hid hb
  obtain ⟨a, cap, rfl, r1, r2, _⟩ := id hb
  rw [List.length_map] at r1 HR ⊢
  unfold maxLen at r2
  clear hb hi0 hz0 hz1 hz2
  have HKL := Lib.hid hk
  have HNL := Lib.hid hn
  have HC1 := Lib.hid hc1
  have HC2 := Lib.hid hc2
  have HB := Lib.hid (boxes2 w (kb.map bval) (nb.map bval) 23 25)
  have HIK : Hid ((Try.prog.info? 23).map (·.size) = some (kb.map bval).length) := Lib.hid (num_size hk)
  have HIN : Hid ((Try.prog.info? 25).map (·.size) = some (nb.map bval).length) := Lib.hid (nonce_size hn)
  clear hk hn hc1 hc2
  go_enter Try.func5, Try.ntmps5
  go_upto_region 1 with (fail)
  obtain ⟨H1, H2, HE⟩ := HB.out
  change Code.wp _ _ _ _ ((w.alloc (.cells (kb.map bval).toArray 23)).alloc (.cells (nb.map bval).toArray 25))
  generalize (w.alloc (.cells (kb.map bval).toArray 23)).alloc (.cells (nb.map bval).toArray 25) = wa at *
  obtain ⟨K, hK⟩ : ∃ K, K = w.heap.size := ⟨_, rfl⟩
  have HKW : Hid (w.heap.size ≤ K) := Lib.hid (by omega)
  rw [← hK] at H1 H2 ⊢
  have H1 := Lib.hid H1
  have H2 := Lib.hid H2
  have HE : Hid (Ext w wa) := Lib.hid HE
  clear hK HB
  go_wp2_with fail
  refine (alive_any9 wa).mono ?_
  rintro e w1 ⟨rfl, hb⟩
  have HKB := Lib.hid (ext_blk H1.out hb)
  have HNB := Lib.hid (ext_blk H2.out hb)
  have HE := Lib.hid (HE.out.trans hb)
  clear hb H1 H2
  by_cases h1 : 500 < b.length
  · have h1' : (500 : Int) < (b.length : Int) := by omega
    go_wp2_with fail
    go_ret
    exact ⟨rfl, HE.out⟩
  · have h1' : decide ((500 : Int) < (b.length : Int)) = false := decide_eq_false (by omega)
    by_cases h2 : 4611686018427387904 < c
    · go_wp2_with fail
      go_ret
      exact ⟨rfl, HE.out⟩
    · have h2' : decide (4611686018427387904 < c) = false := decide_eq_false h2
      go_upto_region 4 with (fail)
      have HB5 := Lib.hid (HR.out.below HE.out)
      have B0 : Ext w1 w1.drew := Ext.drew _
      refine wp_region_held_drew (S := fun w' => Ext w1 w') (by kernel_rfl) B0 (fun hHeld => ?_)
      refine wpAnyH_take (i := 0) (v := .agg ((kb).map bval).toArray) rfl (by kernel_rfl) (by kernel_rfl) (by kernel_rfl) (fun _ _ _ h => h) (yieldsIf_load_mid (by rfl) _ _ rfl K 0 rfl _ _ (fun w h => bl_range HKB.out h) Try.underlying23 rfl HIK.out) hHeld ?_
      simp only [Act.put, List.getElem_toArray, List.getElem_cons_zero, List.getElem_cons_succ, List.setIfInBounds_toArray, List.set_cons_zero, List.set_cons_succ]
      refine wpAnyH_take (i := 1) (v := .int .i64 c) rfl (by kernel_rfl) (by kernel_rfl) (by kernel_rfl) (fun _ _ _ h => h) (yi_move _ (.int .i64 c) (by rfl) rfl rfl) hHeld ?_
      simp only [Act.put, List.getElem_toArray, List.getElem_cons_zero, List.getElem_cons_succ, List.setIfInBounds_toArray, List.set_cons_zero, List.set_cons_succ]
      refine wpAnyH_take (i := 2) (v := .agg ((nb).map bval).toArray) rfl (by kernel_rfl) (by kernel_rfl) (by kernel_rfl) (fun _ _ _ h => h) (yieldsIf_load_mid (by rfl) _ _ rfl (K + 1) 0 rfl _ _ (fun w h => bl_range HNB.out h) Try.underlying25 rfl HIN.out) hHeld ?_
      simp only [Act.put, List.getElem_toArray, List.getElem_cons_zero, List.getElem_cons_succ, List.setIfInBounds_toArray, List.set_cons_zero, List.set_cons_succ]
      refine wpAnyH_take (i := 3) (v := .slice a b.length cap) rfl (by kernel_rfl) (by kernel_rfl) (by kernel_rfl) (fun _ _ _ h => h) (yi_move _ (.slice a b.length cap) (by rfl) rfl rfl) hHeld ?_
      simp only [Act.put, List.getElem_toArray, List.getElem_cons_zero, List.getElem_cons_succ, List.setIfInBounds_toArray, List.set_cons_zero, List.set_cons_succ]
      refine wpAnyH_take (i := 4) (v := .int .i64 ((b.length : Nat) : Int)) rfl (by kernel_rfl) (by kernel_rfl) (by kernel_rfl) (fun _ _ _ h => h) (yi_len _ _ _ _ _ _ Try.underlying31 (by rfl) rfl rfl) hHeld ?_
      simp only [Act.put, List.getElem_toArray, List.getElem_cons_zero, List.getElem_cons_succ, List.setIfInBounds_toArray, List.set_cons_zero, List.set_cons_succ]
      refine wpAnyH_ready (rs := [5]) (by kernel_rfl) (by simp) (AllReadyH.cons rfl (fun K hK => ?_) AllReadyH.nil)
      refine step_wp (by rfl) ?_
      refine wp_make_d (some 32) _ _ _ _ _ _ _ rfl rfl rfl rfl (run_make_zeros _ _ _ Try.underlying31 i0 HI0.out HZ0.out HZ1.out HZ2.out b.length (by omega)) ?_
      obtain ⟨m1, hm1⟩ : ∃ wNew, wNew = World.alloc w1.drew (.cells ((zB b.length).map bval).toArray 5) := ⟨_, rfl⟩
      rw [← hm1]
      have b1 : Ext w1.drew m1 := by rw [hm1]; exact Ext.alloc _ _
      obtain ⟨g1, hg1⟩ : ∃ gNew, gNew = (w1.drew).heap.size := ⟨_, rfl⟩
      rw [← hg1]
      have r1 : Row1 m1 (.slice (some ⟨g1, 0, none⟩) b.length b.length) ((zB b.length).map bval) := by rw [hm1, hg1]; exact Row1.made _ _ _ _ _ _ rfl rfl (by rw [List.length_map, zB_length]) (by unfold maxLen; omega)
      clear hm1 hg1
      have N1 : Ext w1 m1 := B0.trans b1
      refine hK.out _ _ N1 (fun hHeld => ?_)
      clear hK K
      try simp only [Act.put, List.getElem_toArray, List.getElem_cons_zero, List.getElem_cons_succ, List.setIfInBounds_toArray, List.set_cons_zero, List.set_cons_succ]
      refine wpAnyH_ready (rs := [6]) (by kernel_rfl) (by simp) (AllReadyH.cons rfl (fun K hK => ?_) AllReadyH.nil)
      go_simp
      refine (CTurn_num kb nb (zB b.length) _ c _ HKL.out HNL.out r1 (by rw [zB_length]; omega) HC1.out HC2.out).mono ?_
      rintro e m2 ⟨x2, rfl, o2, b2⟩
      have r1 := r1.below b2
      have r2 : Row1 m2 x2 ((chaTurn kb c nb (zB b.length)).map bval) := Row1.of_own o2
      obtain ⟨a2, c2, hx2, _⟩ := id r2
      rw [show ((chaTurn kb c nb (zB b.length)).map bval).length = b.length from by rw [List.length_map, chaTurn_length, zB_length]] at hx2
      subst hx2
      have N2 : Ext w1 m2 := N1.trans b2
      refine hK.out _ _ N2 (fun hHeld => ?_)
      clear hK K
      try simp only [Act.put, List.getElem_toArray, List.getElem_cons_zero, List.getElem_cons_succ, List.setIfInBounds_toArray, List.set_cons_zero, List.set_cons_succ]
      refine wpAnyH_ready (rs := [7]) (by kernel_rfl) (by simp) (AllReadyH.cons rfl (fun K hK => ?_) AllReadyH.nil)
      go_simp
      refine hK.out _ _ N2 (fun hHeld => ?_)
      clear hK K
      try simp only [Act.put, List.getElem_toArray, List.getElem_cons_zero, List.getElem_cons_succ, List.setIfInBounds_toArray, List.set_cons_zero, List.set_cons_succ]
      refine wpAnyH_done (by kernel_rfl) ?_ _
      have hRZ := r2
      have hNN := N2
      clear r1 b1 N1
      clear B0
      generalize m2 = w4 at hRZ hNN ⊢
      have HE := Lib.hid (HE.out.trans hNN)
      have HZ4 := Lib.hid hRZ
      have HKB := Lib.hid (ext_blk HKB.out hNN)
      have HNB := Lib.hid (ext_blk HNB.out hNN)
      clear hRZ hNN HB5
      go_wp2_with (first | (refine wpList_load_blk rfl _ _ rfl K rfl _ _ _ _ HKB.out Try.underlying23 HIK.out ?_) | (refine wpList_load_blk rfl _ _ rfl (K + 1) rfl _ _ _ _ HNB.out Try.underlying25 HIN.out ?_))
      refine (CTurn_num kb nb b _ c w4 HKL.out HNL.out (HR.out.below HE.out) (by omega) HC1.out HC2.out).mono ?_
      rintro e w5 ⟨x, rfl, ho, hb⟩
      have hc : Row1 w5 x ((chaTurn kb c nb b).map bval) := Row1.of_own ho
      have HC5 := Lib.hid hc
      have HB5 := Lib.hid (HR.out.below (HE.out.trans hb))
      have HZ5 := Lib.hid (HZ4.out.below hb)
      have HKB := Lib.hid (ext_blk HKB.out hb)
      have HNB := Lib.hid (ext_blk HNB.out hb)
      have HE := Lib.hid (HE.out.trans hb)
      obtain ⟨ac, cc, hxv, _⟩ := id hc
      rw [List.length_map, chaTurn_length] at hxv
      subst hxv
      clear ho hc hb HZ4
      go_wp2_with fail
      go_loopw [12] (fun iv wr => ∃ (k : Nat), k ≤ b.length ∧ iv = .int .i64 (k : Int) ∧ Ext w5 wr) (fun iv _ => b.length - (intOf iv).toNat)
      case atStart => exact ⟨0, by omega, rfl, Ext.refl _⟩
      case round =>
        obtain ⟨k, hk, rfl, hbel⟩ := hrel
        have k0 : (0 : Int) ≤ (k : Int) := Int.natCast_nonneg _
        have HX := Lib.hid hbel
        clear hbel
        by_cases hlk : k < b.length
        · have k1 : (k : Int) < (b.length : Int) := by omega
          obtain ⟨d, hd⟩ : ∃ d, d = k / 64 := ⟨_, rfl⟩
          have q1 : (k : Int) / 64 = (d : Int) := by omega
          have q2 : (0 : Int) ≤ (d : Int) := by omega
          have q5 : (d : Int) ≤ 9223372036854775807 := by omega
          have q6 : -9223372036854775808 ≤ (d : Int) := by omega
          have q3 : c + (d : Int) ≤ 9223372036854775807 := by omega
          have q4 : -9223372036854775808 ≤ c + (d : Int) := by have := HC1.out; omega
          obtain ⟨o, ho⟩ : ∃ o, o = chaBlock kb (BitVec.ofInt 32 (c + (d : Int))) nb := ⟨_, rfl⟩
          have hbk := CBlock_num kb nb (c + (d : Int)) wr HKL.out HNL.out q4 q3
          rw [← ho] at hbk
          have HBK := Lib.hid hbk
          have HLO : Hid (o.length = 64) := Lib.hid (by rw [ho]; exact chaBlock_length _ _ _)
          have HBY : Hid (o.getD (k % 64) 0 = chaByte kb c nb k) := Lib.hid (chaByte_at kb c nb o k (by rw [ho, hd]))
          have HKr := Lib.hid (ext_blk HKB.out HX.out)
          have HNr := Lib.hid (ext_blk HNB.out HX.out)
          clear hbk ho hd
          go_wp2_with (first | (refine wpList_load_blk rfl _ _ rfl K rfl _ _ _ _ HKr.out Try.underlying23 HIK.out ?_) | (refine wpList_load_blk rfl _ _ rfl (K + 1) rfl _ _ _ _ HNr.out Try.underlying25 HIN.out ?_))
          refine HBK.out.mono ?_
          rintro e w6 ⟨rfl, hb⟩
          have HX6 := Lib.hid (HX.out.trans hb)
          have HIo : Hid ((Try.prog.info? 28).map (·.size) = some (o.map bval).length) := Lib.hid (sig_size HLO.out)
          have HLo : Hid ((o.map bval).length = (ints .u8 (List.replicate 64 0)).length) := Lib.hid (by rw [List.length_map, HLO.out, ints_length, List.length_replicate])
          have HM := Lib.hid (Blk.made w6 (ints .u8 (List.replicate 64 0)) 28)
          have HXA := Ext.alloc w6 (.cells (ints .u8 (List.replicate 64 0)).toArray 28)
          have HX7 := Lib.hid (HX6.out.trans HXA)
          have HSX := Lib.hid HX6.out.size
          clear hb HBK HXA
          go_upto_region 12 with (refine wpList_store_blk rfl _ _ _ rfl w6.heap.size (o.map bval) rfl rfl _ _ HM.out HLo.out HIo.out (bval_one _) ?_; intro w7 hb7 hg7)
          have HX8 := Lib.hid (ext_grown HX7.out hg7 HSX.out)
          have HM8 := Lib.hid hb7
          obtain ⟨M, hM⟩ : ∃ M, M = w6.heap.size := ⟨_, rfl⟩
          rw [← hM] at HM8 ⊢
          clear hb7 hg7 HM hM HX6 HX7 HSX
          have rz := HZ5.out
          have rc := HC5.out
          have rb := HB5.out
          obtain ⟨a1, c1, e1, _, _, _, t1⟩ := rz
          obtain ⟨a2, c2, e2, _, _, _, t2⟩ := rc
          obtain ⟨a3, c3, e3, _, _, _, t3⟩ := rb
          simp only [Value.slice.injEq] at e1 e2 e3
          obtain ⟨rfl, -, rfl⟩ := e1
          obtain ⟨rfl, -, rfl⟩ := e2
          obtain ⟨rfl, -, rfl⟩ := e3
          have nn : ∀ l : List UInt8, l.length = b.length → l.map bval ≠ [] := fun l hl e => by have h := congrArg List.length e; rw [List.length_map] at h; simp only [List.length_nil] at h; omega
          obtain ⟨g1, o1, rfl, s1, u1⟩ := t1 (nn _ (by rw [chaTurn_length, zB_length]))
          obtain ⟨g2, o2, rfl, s2, u2⟩ := t2 (nn _ (by rw [chaTurn_length]))
          obtain ⟨g3, o3, rfl, s3, u3⟩ := t3 (nn _ rfl)
          have z1 : (chaTurn kb c nb (zB b.length)).getD k 0 = chaByte kb c nb k := by
            rw [chaTurn_getD _ _ _ _ (by rw [zB_length]; exact hlk), show (zB b.length).getD k 0 = 0 from by simp [zB, List.getD, hlk]]
            simp
          have z2 : (chaTurn kb c nb b).getD k 0 = b.getD k 0 ^^^ chaByte kb c nb k := chaTurn_getD _ _ _ _ hlk
          have c1 : w7.cell? ⟨g1, o1 + k, none⟩ = some (.int .u8 ((chaByte kb c nb k).toNat : Int)) := by
            have h := u1 k (by rw [List.length_map, chaTurn_length, zB_length]; exact hlk)
            rw [bval_get (by rw [chaTurn_length, zB_length]; exact hlk), z1] at h
            exact (HX8.out.cell (p := ⟨g1, o1 + k, none⟩) s1).trans h
          have c2 : w7.cell? ⟨g2, o2 + k, none⟩ = some (.int .u8 ((b.getD k 0 ^^^ chaByte kb c nb k).toNat : Int)) := by
            have h := u2 k (by rw [List.length_map, chaTurn_length]; exact hlk)
            rw [bval_get (by rw [chaTurn_length]; exact hlk), z2] at h
            exact (HX8.out.cell (p := ⟨g2, o2 + k, none⟩) s2).trans h
          have c3 : w7.cell? ⟨g3, o3 + k, none⟩ = some (.int .u8 ((b.getD k 0).toNat : Int)) := by
            have h := u3 k (by rw [List.length_map]; exact hlk)
            rw [bval_get hlk] at h
            exact (HX8.out.cell (p := ⟨g3, o3 + k, none⟩) s3).trans h
          have c4 := HM8.out.cell (k % 64)
          rw [bval_get (by rw [HLO.out]; omega), HBY.out] at c4
          obtain ⟨r, hr⟩ : ∃ r, r = k % 64 := ⟨_, rfl⟩
          have v1 : (k : Int) % 64 = (r : Int) := by omega
          have v0 : (k : Int).tmod 64 = (r : Int) := by rw [Int.tmod_eq_emod_of_nonneg k0]; exact v1
          have v2 : (0 : Int) ≤ (r : Int) := by omega
          have v3 : (r : Int) < 64 := by omega
          rw [← hr] at c4
          have x1 := xor_u8 (b.getD k 0) (chaByte kb c nb k)
          clear hr t1 t2 t3 u1 u2 u3 z1 z2 HBY nn s1 s2 s3
          generalize b.getD k 0 ^^^ chaByte kb c nb k = y3 at *
          generalize b.getD k 0 = y2 at *
          generalize chaByte kb c nb k = y1 at *
          change w7.cell? ⟨M, r, none⟩ = some (.int .u8 (y1.toNat : Int)) at c4
          have k63 : (k : Int) + 1 ≤ 9223372036854775807 := by omega
          go_wp2_with fail
          go_quiet (fail)
          go_wp2_with fail
          go_roundw
          case rel => exact ⟨k + 1, by omega, by go_num, Ext.trans HX8.out ⟨rfl, rfl, rfl, Nat.le_refl _, fun _ _ => rfl⟩⟩
          case measure => simp [intOf]; omega
        · have hkb : k = b.length := by omega
          subst hkb
          go_wp2_with fail
          go_ret
          exact ⟨rfl, HE.out.trans HX.out⟩

end Go.Proofs.Ytldpmphecgffcaa
