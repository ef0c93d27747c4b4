/- The walk of ChachaCounts. Each theorem names its own conditions. -/
import Derived.Test.YtldpmphecgffcaaChaLaw0
namespace Go.Proofs.Ytldpmphecgffcaa
open Go.RowKit
set_option linter.unusedVariables false
set_option linter.unusedSimpArgs false

theorem ofInt32_add (c m : Int) : BitVec.ofInt 32 (c + m * 4294967296) = BitVec.ofInt 32 c := by
  apply BitVec.eq_of_toInt_eq
  rw [BitVec.toInt_ofInt, BitVec.toInt_ofInt]
  unfold Int.bmod
  have e2 : ((2 ^ 32 : Nat) : Int) = 4294967296 := rfl
  rw [e2, Int.add_mul_emod_self_right]
theorem ofInt32_sub (c : Int) : BitVec.ofInt 32 (c - 4294967296) = BitVec.ofInt 32 c := by
  have h := ofInt32_add c (-1)
  rw [show c + -1 * 4294967296 = c - 4294967296 from by omega] at h
  exact h
theorem wrap_shl32 (m : Int) (h1 : 0 ≤ m) (h2 : m ≤ 1048576) : IntKind.i64.wrap (m * 2 ^ 32) = m * 4294967296 := by
  rw [IntKind.wrap_i64, show (2 : Int) ^ 32 = 4294967296 from rfl]
  omega
section
variable {P : Program} {ops : Array Oper} {S : World → Prop}
theorem yi_shlk {o : Oper} {a : Act} (ty rt : TypeId) (x y : Operand) (k ky : IntKind) (m r : Int) (n : Nat) (hn : n ≤ k.bits) (hr : k.wrap (m * 2 ^ n) = r) (hw : Region.wanted o (yielded ops a.tmps) = true) (ho : o.op = .binOp .shl ty x y rt) (hx : a.eval x = .int k m) (hy : a.eval y = .int ky (n : Int)) : YieldsIf P ops S o (.int k r) a :=
  yi_val _ hw (fun w _ => by
    have h3 : ¬ ((n : Int) < 0) := by omega
    have h4 : Op.shift .shl k m ky (n : Int) = pure (.int k r) := by
      unfold Op.shift
      rw [if_neg h3]
      simp only [Int.toNat_natCast, Nat.min_eq_left hn, hr]
    have h5 : binOp .shl ty (.int k m) (.int ky (n : Int)) = Op.shift .shl k m ky (n : Int) := rfl
    unfold execOp
    simp only [ho, hx, hy, h5, h4]
    simp [eqGuard])
end

set_option maxRecDepth 100000 in
set_option maxHeartbeats 8000000 in
theorem chachaCounts_any (kb nb : List UInt8) (c m : Int) (w : World) (hk : kb.length = 32) (hn : nb.length = 12) (hc1 : -9223372036854775808 ≤ c) (hc2 : c ≤ 9223372036854775807) (hm1 : -9223372036854775808 ≤ m) (hm2 : m ≤ 9223372036854775807) :
    Calls Try.prog 6 #[.agg (kb.map bval).toArray, .int .i64 c, .int .i64 m, .agg (nb.map bval).toArray] w fun e w' => e = .returned (.bool true) ∧ Below w.heap.size w w' := by
  have HKL := Lib.hid hk
  have HNL := Lib.hid hn
  have HC1 := Lib.hid hc1
  have HC2 := Lib.hid hc2
  have HB := Lib.hid (boxes2 w (kb.map bval) (nb.map bval) 23 25)
  have HIK : Hid ((Try.prog.info? 23).map (·.size) = some (kb.map bval).length) := Lib.hid (num_size hk)
  have HIN : Hid ((Try.prog.info? 25).map (·.size) = some (nb.map bval).length) := Lib.hid (nonce_size hn)
  clear hk hn hc1 hc2
  go_enter Try.func6, Try.ntmps6
  go_upto_region 1 with (fail)
  obtain ⟨H1, H2, HE⟩ := HB.out
  change Code.wp _ _ _ _ ((w.alloc (.cells (kb.map bval).toArray 23)).alloc (.cells (nb.map bval).toArray 25))
  generalize (w.alloc (.cells (kb.map bval).toArray 23)).alloc (.cells (nb.map bval).toArray 25) = wa at *
  obtain ⟨K, hK⟩ : ∃ K, K = w.heap.size := ⟨_, rfl⟩
  have HKW : Hid (w.heap.size ≤ K) := Lib.hid (by omega)
  rw [← hK] at H1 H2 ⊢
  have H1 := Lib.hid H1
  have H2 := Lib.hid H2
  have HE : Hid (Ext w wa) := Lib.hid HE
  clear hK HB
  go_wp2_with fail
  refine (alive_any9 wa).mono ?_
  rintro e w1 ⟨rfl, hb⟩
  have HKB := Lib.hid (ext_blk H1.out hb)
  have HNB := Lib.hid (ext_blk H2.out hb)
  have HE := Lib.hid (HE.out.trans hb)
  clear hb H1 H2
  by_cases h1 : 0 ≤ m ∧ m ≤ 1048576 ∧ 0 ≤ c ∧ c ≤ 1099511627776
  · obtain ⟨g1, g2, g3, g4⟩ := h1
    have d1 : decide (m < 0) = false := decide_eq_false (by omega)
    have d2 : decide (1048576 < m) = false := decide_eq_false (by omega)
    have d3 : decide (c < 0) = false := decide_eq_false (by omega)
    have d4 : decide (1099511627776 < c) = false := decide_eq_false (by omega)
    have HSH := Lib.hid (wrap_shl32 m g1 g2)
    have HAD : Hid (IntKind.i64.wrap (c + m * 4294967296) = c + m * 4294967296) := Lib.hid (by rw [IntKind.wrap_i64]; omega)
    have HSB : Hid (IntKind.i64.wrap (c - 4294967296) = c - 4294967296) := Lib.hid (by rw [IntKind.wrap_i64]; omega)
    have HA1 : Hid (-9223372036854775808 ≤ c + m * 4294967296) := Lib.hid (by omega)
    have HA2 : Hid (c + m * 4294967296 ≤ 9223372036854775807) := Lib.hid (by omega)
    have HS1 : Hid (-9223372036854775808 ≤ c - 4294967296) := Lib.hid (by omega)
    have HS2 : Hid (c - 4294967296 ≤ 9223372036854775807) := Lib.hid (by omega)
    go_upto_region 4 with (fail)
    have B0 : Ext w1 w1.drew := Ext.drew _
    refine wp_region_held_drew (S := fun w' => Ext w1 w') (by kernel_rfl) B0 (fun hHeld => ?_)
    refine wpAnyH_take (i := 0) (v := .agg ((kb).map bval).toArray) rfl (by kernel_rfl) (by kernel_rfl) (by kernel_rfl) (fun _ _ _ h => h) (yieldsIf_load_mid (by rfl) _ _ rfl K 0 rfl _ _ (fun w h => bl_range HKB.out h) Try.underlying23 rfl HIK.out) hHeld ?_
    simp only [Act.put, List.getElem_toArray, List.getElem_cons_zero, List.getElem_cons_succ, List.setIfInBounds_toArray, List.set_cons_zero, List.set_cons_succ]
    refine wpAnyH_take (i := 1) (v := .int .i64 c) rfl (by kernel_rfl) (by kernel_rfl) (by kernel_rfl) (fun _ _ _ h => h) (yi_move _ (.int .i64 c) (by rfl) rfl rfl) hHeld ?_
    simp only [Act.put, List.getElem_toArray, List.getElem_cons_zero, List.getElem_cons_succ, List.setIfInBounds_toArray, List.set_cons_zero, List.set_cons_succ]
    refine wpAnyH_take (i := 2) (v := .agg ((nb).map bval).toArray) rfl (by kernel_rfl) (by kernel_rfl) (by kernel_rfl) (fun _ _ _ h => h) (yieldsIf_load_mid (by rfl) _ _ rfl (K + 1) 0 rfl _ _ (fun w h => bl_range HNB.out h) Try.underlying25 rfl HIN.out) hHeld ?_
    simp only [Act.put, List.getElem_toArray, List.getElem_cons_zero, List.getElem_cons_succ, List.setIfInBounds_toArray, List.set_cons_zero, List.set_cons_succ]
    refine wpAnyH_take (i := 4) (v := .agg ((kb).map bval).toArray) rfl (by kernel_rfl) (by kernel_rfl) (by kernel_rfl) (fun _ _ _ h => h) (yieldsIf_load_mid (by rfl) _ _ rfl K 0 rfl _ _ (fun w h => bl_range HKB.out h) Try.underlying23 rfl HIK.out) hHeld ?_
    simp only [Act.put, List.getElem_toArray, List.getElem_cons_zero, List.getElem_cons_succ, List.setIfInBounds_toArray, List.set_cons_zero, List.set_cons_succ]
    refine wpAnyH_take (i := 5) (v := .int .i64 c) rfl (by kernel_rfl) (by kernel_rfl) (by kernel_rfl) (fun _ _ _ h => h) (yi_move _ (.int .i64 c) (by rfl) rfl rfl) hHeld ?_
    simp only [Act.put, List.getElem_toArray, List.getElem_cons_zero, List.getElem_cons_succ, List.setIfInBounds_toArray, List.set_cons_zero, List.set_cons_succ]
    refine wpAnyH_take (i := 6) (v := .int .i64 m) rfl (by kernel_rfl) (by kernel_rfl) (by kernel_rfl) (fun _ _ _ h => h) (yi_move _ (.int .i64 m) (by rfl) rfl rfl) hHeld ?_
    simp only [Act.put, List.getElem_toArray, List.getElem_cons_zero, List.getElem_cons_succ, List.setIfInBounds_toArray, List.set_cons_zero, List.set_cons_succ]
    refine wpAnyH_take (i := 7) (v := .int .i64 (m * 4294967296)) rfl (by kernel_rfl) (by kernel_rfl) (by kernel_rfl) (fun _ _ _ h => h) (yi_shlk _ _ _ _ .i64 .u64 m _ 32 (by decide) HSH.out (by rfl) rfl rfl rfl) hHeld ?_
    simp only [Act.put, List.getElem_toArray, List.getElem_cons_zero, List.getElem_cons_succ, List.setIfInBounds_toArray, List.set_cons_zero, List.set_cons_succ]
    refine wpAnyH_take (i := 8) (v := .int .i64 (c + m * 4294967296)) rfl (by kernel_rfl) (by kernel_rfl) (by kernel_rfl) (fun _ _ _ h => h) (yi_add .i64 _ _ _ _ _ _ _ HAD.out (by rfl) rfl rfl rfl) hHeld ?_
    simp only [Act.put, List.getElem_toArray, List.getElem_cons_zero, List.getElem_cons_succ, List.setIfInBounds_toArray, List.set_cons_zero, List.set_cons_succ]
    refine wpAnyH_take (i := 9) (v := .agg ((nb).map bval).toArray) rfl (by kernel_rfl) (by kernel_rfl) (by kernel_rfl) (fun _ _ _ h => h) (yieldsIf_load_mid (by rfl) _ _ rfl (K + 1) 0 rfl _ _ (fun w h => bl_range HNB.out h) Try.underlying25 rfl HIN.out) hHeld ?_
    simp only [Act.put, List.getElem_toArray, List.getElem_cons_zero, List.getElem_cons_succ, List.setIfInBounds_toArray, List.set_cons_zero, List.set_cons_succ]
    refine wpAnyH_ready (rs := [3]) (by kernel_rfl) (by simp) (AllReadyH.cons rfl (fun K hK => ?_) AllReadyH.nil)
    go_simp
    refine (CBlock_num kb nb (c) _ HKL.out HNL.out (HC1.out) (HC2.out)).mono ?_
    rintro e m1 ⟨rfl, b1⟩
    have N1 : Ext w1 m1 := B0.trans b1
    refine hK.out _ _ N1 (fun hHeld => ?_)
    clear hK K
    try simp only [Act.put, List.getElem_toArray, List.getElem_cons_zero, List.getElem_cons_succ, List.setIfInBounds_toArray, List.set_cons_zero, List.set_cons_succ]
    refine wpAnyH_ready (rs := [10]) (by kernel_rfl) (by simp) (AllReadyH.cons rfl (fun K hK => ?_) AllReadyH.nil)
    go_simp
    refine (CBlock_num kb nb ((c + m * 4294967296)) _ HKL.out HNL.out (HA1.out) (HA2.out)).mono ?_
    rintro e m2 ⟨rfl, b2⟩
    have N2 : Ext w1 m2 := N1.trans b2
    refine hK.out _ _ N2 (fun hHeld => ?_)
    clear hK K
    try simp only [Act.put, List.getElem_toArray, List.getElem_cons_zero, List.getElem_cons_succ, List.setIfInBounds_toArray, List.set_cons_zero, List.set_cons_succ]
    refine wpAnyH_take (i := 11) (v := .bool true) rfl (by kernel_rfl) (by kernel_rfl) (by kernel_rfl) (fun _ _ _ h => h) (yi_eql _ _ _ _ _ 64 _ (chaBlock kb (BitVec.ofInt 32 (c)) nb) (chaBlock kb (BitVec.ofInt 32 ((c + m * 4294967296))) nb) true (by rfl) rfl (decide_eq_true (by rw [ofInt32_add])) Try.underlying28 Try.underlying5 num_info num_cells sig_guard rfl rfl (chaBlock_length _ _ _) (chaBlock_length _ _ _)) hHeld ?_
    simp only [Act.put, List.getElem_toArray, List.getElem_cons_zero, List.getElem_cons_succ, List.setIfInBounds_toArray, List.set_cons_zero, List.set_cons_succ]
    refine wpAnyH_take (i := 12) (v := .bool true) rfl (by kernel_rfl) (by kernel_rfl) (by kernel_rfl) (fun _ _ _ h => h) (yi_move _ (.bool true) (by rfl) rfl rfl) hHeld ?_
    simp only [Act.put, List.getElem_toArray, List.getElem_cons_zero, List.getElem_cons_succ, List.setIfInBounds_toArray, List.set_cons_zero, List.set_cons_succ]
    refine wpAnyH_take (i := 13) (v := .agg ((kb).map bval).toArray) rfl (by kernel_rfl) (by kernel_rfl) (by kernel_rfl) (fun _ _ _ h => h) (yieldsIf_load_mid (by rfl) _ _ rfl K 0 rfl _ _ (fun w h => bl_range HKB.out h) Try.underlying23 rfl HIK.out) hHeld ?_
    simp only [Act.put, List.getElem_toArray, List.getElem_cons_zero, List.getElem_cons_succ, List.setIfInBounds_toArray, List.set_cons_zero, List.set_cons_succ]
    refine wpAnyH_take (i := 14) (v := .int .i64 c) rfl (by kernel_rfl) (by kernel_rfl) (by kernel_rfl) (fun _ _ _ h => h) (yi_move _ (.int .i64 c) (by rfl) rfl rfl) hHeld ?_
    simp only [Act.put, List.getElem_toArray, List.getElem_cons_zero, List.getElem_cons_succ, List.setIfInBounds_toArray, List.set_cons_zero, List.set_cons_succ]
    refine wpAnyH_take (i := 15) (v := .int .i64 (c - 4294967296)) rfl (by kernel_rfl) (by kernel_rfl) (by kernel_rfl) (fun _ _ _ h => h) (yi_sub .i64 _ _ _ _ _ _ _ HSB.out (by rfl) rfl rfl rfl) hHeld ?_
    simp only [Act.put, List.getElem_toArray, List.getElem_cons_zero, List.getElem_cons_succ, List.setIfInBounds_toArray, List.set_cons_zero, List.set_cons_succ]
    refine wpAnyH_take (i := 16) (v := .agg ((nb).map bval).toArray) rfl (by kernel_rfl) (by kernel_rfl) (by kernel_rfl) (fun _ _ _ h => h) (yieldsIf_load_mid (by rfl) _ _ rfl (K + 1) 0 rfl _ _ (fun w h => bl_range HNB.out h) Try.underlying25 rfl HIN.out) hHeld ?_
    simp only [Act.put, List.getElem_toArray, List.getElem_cons_zero, List.getElem_cons_succ, List.setIfInBounds_toArray, List.set_cons_zero, List.set_cons_succ]
    refine wpAnyH_take (i := 18) (v := .agg ((kb).map bval).toArray) rfl (by kernel_rfl) (by kernel_rfl) (by kernel_rfl) (fun _ _ _ h => h) (yieldsIf_load_mid (by rfl) _ _ rfl K 0 rfl _ _ (fun w h => bl_range HKB.out h) Try.underlying23 rfl HIK.out) hHeld ?_
    simp only [Act.put, List.getElem_toArray, List.getElem_cons_zero, List.getElem_cons_succ, List.setIfInBounds_toArray, List.set_cons_zero, List.set_cons_succ]
    refine wpAnyH_take (i := 19) (v := .int .i64 c) rfl (by kernel_rfl) (by kernel_rfl) (by kernel_rfl) (fun _ _ _ h => h) (yi_move _ (.int .i64 c) (by rfl) rfl rfl) hHeld ?_
    simp only [Act.put, List.getElem_toArray, List.getElem_cons_zero, List.getElem_cons_succ, List.setIfInBounds_toArray, List.set_cons_zero, List.set_cons_succ]
    refine wpAnyH_take (i := 20) (v := .agg ((nb).map bval).toArray) rfl (by kernel_rfl) (by kernel_rfl) (by kernel_rfl) (fun _ _ _ h => h) (yieldsIf_load_mid (by rfl) _ _ rfl (K + 1) 0 rfl _ _ (fun w h => bl_range HNB.out h) Try.underlying25 rfl HIN.out) hHeld ?_
    simp only [Act.put, List.getElem_toArray, List.getElem_cons_zero, List.getElem_cons_succ, List.setIfInBounds_toArray, List.set_cons_zero, List.set_cons_succ]
    refine wpAnyH_ready (rs := [17]) (by kernel_rfl) (by simp) (AllReadyH.cons rfl (fun K hK => ?_) AllReadyH.nil)
    go_simp
    refine (CBlock_num kb nb ((c - 4294967296)) _ HKL.out HNL.out (HS1.out) (HS2.out)).mono ?_
    rintro e m3 ⟨rfl, b3⟩
    have N3 : Ext w1 m3 := N2.trans b3
    refine hK.out _ _ N3 (fun hHeld => ?_)
    clear hK K
    try simp only [Act.put, List.getElem_toArray, List.getElem_cons_zero, List.getElem_cons_succ, List.setIfInBounds_toArray, List.set_cons_zero, List.set_cons_succ]
    refine wpAnyH_ready (rs := [21]) (by kernel_rfl) (by simp) (AllReadyH.cons rfl (fun K hK => ?_) AllReadyH.nil)
    go_simp
    refine (CBlock_num kb nb (c) _ HKL.out HNL.out (HC1.out) (HC2.out)).mono ?_
    rintro e m4 ⟨rfl, b4⟩
    have N4 : Ext w1 m4 := N3.trans b4
    refine hK.out _ _ N4 (fun hHeld => ?_)
    clear hK K
    try simp only [Act.put, List.getElem_toArray, List.getElem_cons_zero, List.getElem_cons_succ, List.setIfInBounds_toArray, List.set_cons_zero, List.set_cons_succ]
    refine wpAnyH_take (i := 22) (v := .bool true) rfl (by kernel_rfl) (by kernel_rfl) (by kernel_rfl) (fun _ _ _ h => h) (yi_eql _ _ _ _ _ 64 _ (chaBlock kb (BitVec.ofInt 32 ((c - 4294967296))) nb) (chaBlock kb (BitVec.ofInt 32 (c)) nb) true (by rfl) rfl (decide_eq_true (by rw [ofInt32_sub])) Try.underlying28 Try.underlying5 num_info num_cells sig_guard rfl rfl (chaBlock_length _ _ _) (chaBlock_length _ _ _)) hHeld ?_
    simp only [Act.put, List.getElem_toArray, List.getElem_cons_zero, List.getElem_cons_succ, List.setIfInBounds_toArray, List.set_cons_zero, List.set_cons_succ]
    refine wpAnyH_take (i := 23) (v := .bool true) rfl (by kernel_rfl) (by kernel_rfl) (by kernel_rfl) (fun _ _ _ h => h) (yi_pick _ _ _ true _ (by rfl) rfl rfl rfl) hHeld ?_
    simp only [Act.put, List.getElem_toArray, List.getElem_cons_zero, List.getElem_cons_succ, List.setIfInBounds_toArray, List.set_cons_zero, List.set_cons_succ]
    refine wpAnyH_ready (rs := [24]) (by kernel_rfl) (by simp) (AllReadyH.cons rfl (fun K hK => ?_) AllReadyH.nil)
    go_simp
    refine hK.out _ _ N4 (fun hHeld => ?_)
    clear hK K
    try simp only [Act.put, List.getElem_toArray, List.getElem_cons_zero, List.getElem_cons_succ, List.setIfInBounds_toArray, List.set_cons_zero, List.set_cons_succ]
    refine wpAnyH_done (by kernel_rfl) ?_ _
    go_wp2_with fail
    go_ret
    exact ⟨rfl, HE.out.trans N4⟩
  · by_cases e1 : m < 0
    · have d1 : decide (m < 0) = true := decide_eq_true e1
      go_wp2_with fail
      go_ret
      exact ⟨rfl, HE.out⟩
    · have d1 : decide (m < 0) = false := decide_eq_false e1
      by_cases e2 : 1048576 < m
      · have d2 : decide (1048576 < m) = true := decide_eq_true e2
        go_wp2_with fail
        go_ret
        exact ⟨rfl, HE.out⟩
      · have d2 : decide (1048576 < m) = false := decide_eq_false e2
        by_cases e3 : c < 0
        · have d3 : decide (c < 0) = true := decide_eq_true e3
          go_wp2_with fail
          go_ret
          exact ⟨rfl, HE.out⟩
        · have d3 : decide (c < 0) = false := decide_eq_false e3
          have e4 : 1099511627776 < c := by omega
          have d4 : decide (1099511627776 < c) = true := decide_eq_true e4
          go_wp2_with fail
          go_ret
          exact ⟨rfl, HE.out⟩

end Go.Proofs.Ytldpmphecgffcaa
