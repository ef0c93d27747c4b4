/- The walk of ShaTurned. Each theorem names its own conditions. -/
import Derived.Test.YtmadoehajapfhaaDoorShaLaw0
import Derived.Test.YtmadoehajapfhaaDoorHeldKit
namespace Go.Proofs.YtmadoehajapfhaaDoor
open Go.RowKit
set_option linter.unusedVariables false
set_option linter.unusedSimpArgs false

theorem own_form {w : World} {base n : Nat} {e : TypeId} {x : Value} {xs : List Value} (h : w.ownsRow base e 1 x n xs) (hn : 0 < n) :
    ∃ g cap cur, x = .slice (some ⟨g, 0, none⟩) n cap ∧ base ≤ g ∧ Blk w g cur e ∧ n ≤ cap ∧ cap ≤ maxLen ∧ cur.take n = xs ∧ n ≤ cur.length := by
  obtain ⟨h1, ⟨_, h0⟩ | ⟨g, cap, cur, rfl, h2, h3, h4, h5, h6, h7⟩⟩ := h
  · omega
  · rw [Nat.mul_one] at h7
    refine ⟨g, cap, cur.toList, rfl, h2, h3, h4, h5, h7, ?_⟩
    have := congrArg List.length h7
    rw [List.length_take] at this
    omega
theorem xor_u8 (a b : UInt8) : bits .xor .u8 (a.toNat : Int) (b.toNat : Int) = ((a ^^^ b).toNat : Int) := by
  have e1 : (BitVec.ofInt 8 (a.toNat : Int)) = a.toBitVec := by
    apply BitVec.eq_of_toNat_eq
    have := a.toNat_lt
    rw [BitVec.toNat_ofInt]
    show _ = a.toNat
    omega
  have e2 : (BitVec.ofInt 8 (b.toNat : Int)) = b.toBitVec := by
    apply BitVec.eq_of_toNat_eq
    have := b.toNat_lt
    rw [BitVec.toNat_ofInt]
    show _ = b.toNat
    omega
  show IntKind.u8.wrap ((BitVec.ofInt 8 (a.toNat : Int) ^^^ BitVec.ofInt 8 (b.toNat : Int)).toNat : Nat) = _
  rw [e1, e2, IntKind.wrap_u8]
  have h := (a ^^^ b).toNat_lt
  have e3 : (a.toBitVec ^^^ b.toBitVec).toNat = (a ^^^ b).toNat := rfl
  rw [e3]
  omega

set_option maxRecDepth 100000 in
set_option maxHeartbeats 8000000 in
theorem shaTurned_any (v : Value) (l : List UInt8) (i : Int) (y : UInt8) (w : World) (hv : Row1 w v (l.map bval)) (hi1 : -9223372036854775808 ≤ i) (hi2 : i ≤ 9223372036854775807) (hG : GlobR w) (hK : GlobK w) :
    Calls Tryd.prog 6 #[v, .int .i64 i, .int .u8 (y.toNat : Int)] w fun e w' => e = .returned (.bool true) ∧ Below w.heap.size w w' := by
  obtain ⟨iq, hq0, hq1, hq2⟩ := info_two Tryd.info25
  have HQ0 := Lib.hid hq0
  have HQ1 := Lib.hid hq1
  have HQ2 := Lib.hid hq2
  clear hq0 hq1 hq2
  obtain ⟨i0, hi, hz0, hz1, hz2⟩ := info_parts Tryd.info5
  have HI0 := Lib.hid hi
  have HZ0 := Lib.hid hz0
  have HZ1 := Lib.hid hz1
  have HZ2 := Lib.hid hz2
  have HG := Lib.hid hG
  have HK := Lib.hid hK
  have HRW := Lib.hid hv
  obtain ⟨a, cap, hva, r1, r2, r3, r4⟩ := id hv
  rw [List.length_map] at hva r1
  unfold maxLen at r2
  have HVA := Lib.hid hva
  clear hG hK hv r3 r4 hva hi hz0 hz1 hz2
  go_enter Tryd.func6, Tryd.ntmps6
  go_wp2_with fail
  refine (alive_any w HG.out).mono ?_
  rintro e w1 ⟨rfl, hb⟩
  have HE : Hid (Ext w w1) := Lib.hid hb
  clear hb
  have hva := HVA.out
  subst hva
  have l0 : (0 : Int) ≤ (l.length : Int) := Int.natCast_nonneg _
  by_cases h0 : l.length < 1
  · have h0' : (l.length : Int) < 1 := by omega
    go_wp2_with fail
    go_ret
    exact ⟨rfl, HE.out⟩
  · by_cases h1 : 500 < l.length
    · have h1' : 500 < (l.length : Int) := by omega
      have d0 : decide ((l.length : Int) < 1) = false := decide_eq_false (by omega)
      go_wp2_with fail
      go_ret
      exact ⟨rfl, HE.out⟩
    · by_cases h2 : i < 0
      · have d0 : decide ((l.length : Int) < 1) = false := decide_eq_false (by omega)
        have d1 : decide (500 < (l.length : Int)) = false := decide_eq_false (by omega)
        go_wp2_with fail
        go_ret
        exact ⟨rfl, HE.out⟩
      · have d0 : decide ((l.length : Int) < 1) = false := decide_eq_false (by omega)
        have d1 : decide (500 < (l.length : Int)) = false := decide_eq_false (by omega)
        have d2 : decide (i < 0) = false := decide_eq_false h2
        obtain ⟨q, rfl⟩ : ∃ q : Nat, i = (q : Int) := ⟨i.toNat, by omega⟩
        obtain ⟨p, hp⟩ : ∃ p : Nat, p = q % l.length := ⟨_, rfl⟩
        have hpl : p < l.length := by rw [hp]; exact Nat.mod_lt _ (by omega)
        have hp1 : (q : Int) % (l.length : Int) = (p : Int) := by rw [hp]; simp
        have HLL : Hid (l.length ≤ 500) := Lib.hid (by omega)
        have q0 : (0 : Int) ≤ (q : Int) := Int.natCast_nonneg _
        have p0 : (0 : Int) ≤ (p : Int) := Int.natCast_nonneg _
        have l1 : (0 : Int) < (l.length : Int) := by omega
        have l5 : (l.length : Int) ≤ 500 := by omega
        have pl : (p : Int) < (l.length : Int) := by omega
        have HLM : Hid ((l.map bval).length = l.length) := Lib.hid (List.length_map _)
        have HNIL : Hid (w1.ownsRow w1.heap.size 5 1 (.slice none 0 0) 0 []) := Lib.hid (World.ownsRow_nil _ _ _ _)
        have HR1 := Lib.hid (HRW.out.below HE.out)
        have HS1 := Lib.hid HE.out.size
        clear h0 h1 h2 hi1 hi2 hp
        go_upto_region 6 with (at_builtin; refine wpList_append_row rfl _ _ 25 rfl w1.heap.size 5 i0 (.int .u8 0) 1 Tryd.underlying25 HI0.out HZ0.out HZ1.out HZ2.out rfl _ _ _ rfl HNIL.out rfl HR1.out (bval_one _) (by rw [HLM.out]; unfold maxLen; omega) (by rw [HLM.out]; omega) (Nat.le_refl _) ?_; intro v2 w2 hown2 hgrow2)
        have HE := Lib.hid (ext_own HE.out (own_mono HNIL.out HE.out.size) (Nat.le_refl _) hgrow2)
        rw [List.nil_append, HLM.out, Nat.zero_add] at hown2
        obtain ⟨g, cp, cur, rfl, hg, hB, hcp, hcm, htk, hcl⟩ := own_form hown2 (by omega)
        have hg2 : w.heap.size ≤ g := by have := HS1.out; omega
        obtain ⟨x, hx⟩ : ∃ x, x = l.getD p 0 := ⟨_, rfl⟩
        have hcp2 : cur[p]? = some (bval x) := by
          have h := congrArg (fun z : List Value => z[p]?) htk
          simp only [List.getElem?_take, if_pos hpl] at h
          rw [h, bval_get hpl, hx]
          rfl
        have c0 : w2.cell? ⟨g, p, none⟩ = some (.int .u8 (x.toNat : Int)) := by rw [hB.cell, hcp2]; rfl
        have f0 := hB.free p
        have hxr := xor_u8 x y
        have HBS := Lib.hid (hB.set p (bval (x ^^^ y)))
        have HTS : Hid ((cur.set p (bval (x ^^^ y))).take l.length = (l.set p (x ^^^ y)).map bval) := Lib.hid (by rw [List.take_set, htk, List.map_set])
        have hHE := HE.out
        have hmx : cp ≤ maxLen := hcm
        unfold maxLen at hmx
        generalize hz : x ^^^ y = z at *
        clear hown2 hgrow2 htk hx hcp2
        go_upto_region 7 with (fail)
        change Code.wp _ _ _ _ (w2.setCell ⟨g, p, none⟩ (bval z))
        have HE3 : Hid (Ext w (w2.setCell ⟨g, p, none⟩ (bval z))) := Lib.hid (Below.setCell hHE hg2 _)
        have HR3 : Hid (Row1 (w2.setCell ⟨g, p, none⟩ (bval z)) (.slice (some ⟨g, 0, none⟩) l.length cp) ((l.set p z).map bval)) := Lib.hid (by
          have e1 : ((l.set p z).map bval).length = l.length := by simp
          refine ⟨_, _, by rw [e1], by rw [e1]; exact hcp, hcm, (fun e => by cases e), fun _ => ⟨g, 0, rfl, HBS.out.lt, fun j hj => ?_⟩⟩
          rw [e1] at hj
          rw [Nat.zero_add, HBS.out.cell, ← HTS.out, List.getElem?_take, if_pos hj])
        generalize w2.setCell ⟨g, p, none⟩ (bval z) = w3 at *
        have HL2 : Hid ((l.set p z).length = l.length) := Lib.hid (List.length_set ..)
        generalize l.set p z = l2 at *
        obtain ⟨v1, hv1, hr1⟩ := row_upto Tryd.underlying25 Tryd.sizeOf5 HRW.out p (by rw [List.length_map]; omega)
        rw [← List.map_take] at hv1
        obtain ⟨a1, n1, c1, rfl⟩ := row_form2 hv1
        have HV1 := Lib.hid hv1
        clear hv1 hB c0 f0 hxr HBS HTS hHE hcm hcl HE
        go_wp2_with fail
        have B0 : Ext w3 w3.drew := Ext.drew _
        refine wp_region_held_drew (S := fun w' => True) (by kernel_rfl) trivial (fun hHeld => ?_)
        refine wpAnyH_take (i := 0) (v := .slice (some ⟨g, 0, none⟩) l.length cp) rfl (by kernel_rfl) (by kernel_rfl) (by kernel_rfl) (fun _ _ _ h => h) (yi_move _ (.slice (some ⟨g, 0, none⟩) l.length cp) (by rfl) rfl rfl) hHeld ?_
        simp only [Act.put, List.getElem_toArray, List.getElem_cons_zero, List.getElem_cons_succ, List.setIfInBounds_toArray, List.set_cons_zero, List.set_cons_succ]
        refine wpAnyH_take (i := 3) (v := .slice (some ⟨g, 0, none⟩) l.length cp) rfl (by kernel_rfl) (by kernel_rfl) (by kernel_rfl) (fun _ _ _ h => h) (yi_move _ (.slice (some ⟨g, 0, none⟩) l.length cp) (by rfl) rfl rfl) hHeld ?_
        simp only [Act.put, List.getElem_toArray, List.getElem_cons_zero, List.getElem_cons_succ, List.setIfInBounds_toArray, List.set_cons_zero, List.set_cons_succ]
        refine wpAnyH_ready (rs := [1]) (by kernel_rfl) (by simp) (AllReadyH.cons rfl (fun K hK => ?_) AllReadyH.nil)
        refine step_wp (by rfl) ?_
        refine wp_buildSlice_d (some 44) _ _ _ _ rfl rfl #[.slice (some ⟨g, 0, none⟩) l.length cp] iq (.slice none 0 0) Tryd.underlying22 HQ0.out HQ1.out (by rw [HQ2.out]; decide) (by rw [HQ2.out]; decide) (by rw [HQ2.out]; kernel_rfl) ?_
        have N1 : Ext w3 (World.alloc w3.drew (.cells #[.slice (some ⟨g, 0, none⟩) l.length cp] 25)) := B0.trans (Ext.alloc _ _)
        refine hK.out _ _ trivial (fun hHeld => ?_)
        clear hK K
        try simp only [Act.put, List.getElem_toArray, List.getElem_cons_zero, List.getElem_cons_succ, List.setIfInBounds_toArray, List.set_cons_zero, List.set_cons_succ]
        refine wpAnyH_ready (rs := [2]) (by kernel_rfl) (by simp) (AllReadyH.cons rfl (fun K hK => ?_) AllReadyH.nil)
        go_simp
        refine (Sum_one (.slice (some ⟨g, 0, none⟩) l.length cp) l2 _ (HR3.out.below B0) (by rw [HL2.out]; have := HLL.out; omega) (HG.out.ext (HE3.out.trans B0))).mono ?_
        rintro e m2 ⟨rfl, b2⟩
        have N2 := B0.trans b2
        refine hK.out _ _ trivial (fun hHeld => ?_)
        clear hK K
        try simp only [Act.put, List.getElem_toArray, List.getElem_cons_zero, List.getElem_cons_succ, List.setIfInBounds_toArray, List.set_cons_zero, List.set_cons_succ]
        refine wpAnyH_ready (rs := [4]) (by kernel_rfl) (by simp) (AllReadyH.cons rfl (fun K hK => ?_) AllReadyH.nil)
        go_simp
        refine (rSha_any _ l2 _ (HR3.out.below N2) (by rw [HL2.out]; have := HLL.out; omega) (HK.out.ext (HE3.out.trans N2))).mono ?_
        rintro e m4 ⟨rfl, b3⟩
        have N3 := N2.trans b3
        refine hK.out _ _ trivial (fun hHeld => ?_)
        clear hK K
        try simp only [Act.put, List.getElem_toArray, List.getElem_cons_zero, List.getElem_cons_succ, List.setIfInBounds_toArray, List.set_cons_zero, List.set_cons_succ]
        refine wpAnyH_take (i := 5) (v := .bool true) rfl (by kernel_rfl) (by kernel_rfl) (by kernel_rfl) (fun _ _ _ h => h) (yi_eql _ _ _ _ _ 32 _ (sha256 l2) (sha256 l2) true (by rfl) rfl (decide_eq_true (rfl)) Tryd.underlying28 Tryd.underlying5 num_info num_cells num_guard rfl rfl (sha256_length _) (sha256_length _)) hHeld ?_
        simp only [Act.put, List.getElem_toArray, List.getElem_cons_zero, List.getElem_cons_succ, List.setIfInBounds_toArray, List.set_cons_zero, List.set_cons_succ]
        refine wpAnyH_take (i := 6) (v := .bool true) rfl (by kernel_rfl) (by kernel_rfl) (by kernel_rfl) (fun _ _ _ h => h) (yi_move _ (.bool true) (by rfl) rfl rfl) hHeld ?_
        simp only [Act.put, List.getElem_toArray, List.getElem_cons_zero, List.getElem_cons_succ, List.setIfInBounds_toArray, List.set_cons_zero, List.set_cons_succ]
        refine wpAnyH_take (i := 7) (v := .slice a l.length cap) rfl (by kernel_rfl) (by kernel_rfl) (by kernel_rfl) (fun _ _ _ h => h) (yi_move _ (.slice a l.length cap) (by rfl) rfl rfl) hHeld ?_
        simp only [Act.put, List.getElem_toArray, List.getElem_cons_zero, List.getElem_cons_succ, List.setIfInBounds_toArray, List.set_cons_zero, List.set_cons_succ]
        refine wpAnyH_take (i := 8) (v := .int .i64 (p : Int)) rfl (by kernel_rfl) (by kernel_rfl) (by kernel_rfl) (fun _ _ _ h => h) (yi_move _ (.int .i64 (p : Int)) (by rfl) rfl rfl) hHeld ?_
        simp only [Act.put, List.getElem_toArray, List.getElem_cons_zero, List.getElem_cons_succ, List.setIfInBounds_toArray, List.set_cons_zero, List.set_cons_succ]
        refine wpAnyH_take (i := 9) (v := .slice a1 n1 c1) rfl (by kernel_rfl) (by kernel_rfl) (by kernel_rfl) (fun _ _ _ h => h) (yi_slice _ _ _ _ (.slice a l.length cap) (.slice a1 n1 c1) none (some (.int .i64 (p : Int))) (by rfl) rfl rfl rfl rfl hr1) hHeld ?_
        simp only [Act.put, List.getElem_toArray, List.getElem_cons_zero, List.getElem_cons_succ, List.setIfInBounds_toArray, List.set_cons_zero, List.set_cons_succ]
        refine wpAnyH_take (i := 12) (v := .slice a l.length cap) rfl (by kernel_rfl) (by kernel_rfl) (by kernel_rfl) (fun _ _ _ h => h) (yi_move _ (.slice a l.length cap) (by rfl) rfl rfl) hHeld ?_
        simp only [Act.put, List.getElem_toArray, List.getElem_cons_zero, List.getElem_cons_succ, List.setIfInBounds_toArray, List.set_cons_zero, List.set_cons_succ]
        refine wpAnyH_take (i := 13) (v := .int .i64 (p : Int)) rfl (by kernel_rfl) (by kernel_rfl) (by kernel_rfl) (fun _ _ _ h => h) (yi_move _ (.int .i64 (p : Int)) (by rfl) rfl rfl) hHeld ?_
        simp only [Act.put, List.getElem_toArray, List.getElem_cons_zero, List.getElem_cons_succ, List.setIfInBounds_toArray, List.set_cons_zero, List.set_cons_succ]
        refine wpAnyH_take (i := 14) (v := .slice a1 n1 c1) rfl (by kernel_rfl) (by kernel_rfl) (by kernel_rfl) (fun _ _ _ h => h) (yi_slice _ _ _ _ (.slice a l.length cap) (.slice a1 n1 c1) none (some (.int .i64 (p : Int))) (by rfl) rfl rfl rfl rfl hr1) hHeld ?_
        simp only [Act.put, List.getElem_toArray, List.getElem_cons_zero, List.getElem_cons_succ, List.setIfInBounds_toArray, List.set_cons_zero, List.set_cons_succ]
        refine wpAnyH_ready (rs := [10]) (by kernel_rfl) (by simp) (AllReadyH.cons rfl (fun K hK => ?_) AllReadyH.nil)
        refine step_wp (by rfl) ?_
        refine wp_buildSlice_d (some 53) _ _ _ _ rfl rfl #[.slice a1 n1 c1] iq (.slice none 0 0) Tryd.underlying22 HQ0.out HQ1.out (by rw [HQ2.out]; decide) (by rw [HQ2.out]; decide) (by rw [HQ2.out]; kernel_rfl) ?_
        have N4 : Ext w3 (World.alloc m4 (.cells #[.slice a1 n1 c1] 25)) := N3.trans (Ext.alloc _ _)
        refine hK.out _ _ trivial (fun hHeld => ?_)
        clear hK K
        try simp only [Act.put, List.getElem_toArray, List.getElem_cons_zero, List.getElem_cons_succ, List.setIfInBounds_toArray, List.set_cons_zero, List.set_cons_succ]
        refine wpAnyH_ready (rs := [11]) (by kernel_rfl) (by simp) (AllReadyH.cons rfl (fun K hK => ?_) AllReadyH.nil)
        go_simp
        refine (Sum_one (.slice a1 n1 c1) (l.take p) _ (HV1.out.below (HE3.out.trans N3)) (by rw [List.length_take]; have := HLL.out; omega) (HG.out.ext (HE3.out.trans N3))).mono ?_
        rintro e m11 ⟨rfl, b5⟩
        have N5 := N3.trans b5
        refine hK.out _ _ trivial (fun hHeld => ?_)
        clear hK K
        try simp only [Act.put, List.getElem_toArray, List.getElem_cons_zero, List.getElem_cons_succ, List.setIfInBounds_toArray, List.set_cons_zero, List.set_cons_succ]
        refine wpAnyH_ready (rs := [15]) (by kernel_rfl) (by simp) (AllReadyH.cons rfl (fun K hK => ?_) AllReadyH.nil)
        go_simp
        refine (rSha_any _ (l.take p) _ (HV1.out.below (HE3.out.trans N5)) (by rw [List.length_take]; have := HLL.out; omega) (HK.out.ext (HE3.out.trans N5))).mono ?_
        rintro e m15 ⟨rfl, b6⟩
        have N6 := N5.trans b6
        refine hK.out _ _ trivial (fun hHeld => ?_)
        clear hK K
        try simp only [Act.put, List.getElem_toArray, List.getElem_cons_zero, List.getElem_cons_succ, List.setIfInBounds_toArray, List.set_cons_zero, List.set_cons_succ]
        refine wpAnyH_take (i := 16) (v := .bool true) rfl (by kernel_rfl) (by kernel_rfl) (by kernel_rfl) (fun _ _ _ h => h) (yi_eql _ _ _ _ _ 32 _ (sha256 (l.take p)) (sha256 (l.take p)) true (by rfl) rfl (decide_eq_true (rfl)) Tryd.underlying28 Tryd.underlying5 num_info num_cells num_guard rfl rfl (sha256_length _) (sha256_length _)) hHeld ?_
        simp only [Act.put, List.getElem_toArray, List.getElem_cons_zero, List.getElem_cons_succ, List.setIfInBounds_toArray, List.set_cons_zero, List.set_cons_succ]
        refine wpAnyH_take (i := 17) (v := .bool true) rfl (by kernel_rfl) (by kernel_rfl) (by kernel_rfl) (fun _ _ _ h => h) (yi_pick _ _ _ true _ (by rfl) rfl rfl rfl) hHeld ?_
        simp only [Act.put, List.getElem_toArray, List.getElem_cons_zero, List.getElem_cons_succ, List.setIfInBounds_toArray, List.set_cons_zero, List.set_cons_succ]
        refine wpAnyH_ready (rs := [18]) (by kernel_rfl) (by simp) (AllReadyH.cons rfl (fun K hK => ?_) AllReadyH.nil)
        go_simp
        refine hK.out _ _ trivial (fun hHeld => ?_)
        clear hK K
        try simp only [Act.put, List.getElem_toArray, List.getElem_cons_zero, List.getElem_cons_succ, List.setIfInBounds_toArray, List.set_cons_zero, List.set_cons_succ]
        refine wpAnyH_done (by kernel_rfl) ?_ _
        go_wp2_with fail
        go_ret
        exact ⟨rfl, HE3.out.trans N6⟩

end Go.Proofs.YtmadoehajapfhaaDoor
