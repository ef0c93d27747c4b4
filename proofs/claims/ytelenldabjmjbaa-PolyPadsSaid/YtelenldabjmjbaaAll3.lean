/- Texts that belong together, one behind the other; each says in its own first remark what it shows. -/
import Derived.Test.YtelenldabjmjbaaAll2
import Derived.Test.YtelenldabjmjbaaAll1

/- The walk of PolySums. Laid by wip/gen/gply1.py. Each theorem names its own conditions. -/
namespace Go.Proofs.Ytelenldabjmjbaa
open Go.RowKit
set_option linter.unusedVariables false
set_option linter.unusedSimpArgs false

theorem PSum_val (kb : List UInt8) (v : Value) (ls : List (List UInt8)) (m : List UInt8) (w : World) (hk : kb.length = 32) (hv : RowB w v ls) (hf : ls.flatten = m) (hm : m.length ≤ 1099511627776) :
    Calls Try.prog 12 #[.agg (kb.map bval).toArray, v] w fun e w' => e = .returned (.agg ((polyTag kb m).map bval).toArray) ∧ Below w.heap.size w w' := by
  subst hf
  exact PSum_num kb v ls w hk hv hm
theorem PSum_one (kb : List UInt8) (x : Value) (l : List UInt8) (w : World) (hk : kb.length = 32) (hx : Row1 w x (l.map bval)) (hl : l.length ≤ 1099511627776) :
    Calls Try.prog 12 #[.agg (kb.map bval).toArray, .slice (some ⟨w.heap.size, 0, none⟩) 1 1] (w.alloc (.cells #[x] 27)) fun e w' => e = .returned (.agg ((polyTag kb l).map bval).toArray) ∧ Ext w w' := by
  have he := Ext.alloc w (.cells #[x] 27)
  have h := PSum_val kb _ [l] l _ hk (rowB1 (Row1.made w #[x] 27 _ 1 [x] rfl rfl rfl (by unfold maxLen; omega)) (hx.below he)) (by simp) hl
  exact h.mono fun e w' hh => ⟨hh.1, he.trans hh.2⟩

set_option maxRecDepth 100000 in
set_option maxHeartbeats 8000000 in
theorem polySums_any (kb : List UInt8) (v : Value) (ls : List (List UInt8)) (w : World) (hk : kb.length = 32) (hv : RowB w v ls) :
    Calls Try.prog 3 #[.agg (kb.map bval).toArray, v] w fun e w' => e = .returned (.bool true) ∧ Below w.heap.size w w' := by
  obtain ⟨iq, hq0, hq1, hq2⟩ := info_two (P := Try.prog) (t := 27) (z := .slice none 0 0) (n := 1) (by kernel_rfl)
  have HQ0 := Lib.hid hq0
  have HQ1 := Lib.hid hq1
  have HQ2 := Lib.hid hq2
  obtain ⟨i0, hi, hz0, hz1, hz2⟩ := info_parts Try.info5
  have HI0 := Lib.hid hi
  have HZ0 := Lib.hid hz0
  have HZ1 := Lib.hid hz1
  have HZ2 := Lib.hid hz2
  clear hi hz0 hz1 hz2 hq0 hq1 hq2
  obtain ⟨a, cap, rfl⟩ := rowB_any hv
  have HKL := Lib.hid hk
  have HRB := Lib.hid hv
  have HB1 := Lib.hid (Blk.made w (kb.map bval) 23)
  have HE := Lib.hid (Ext.alloc w (.cells (kb.map bval).toArray 23))
  have HI1 : Hid ((Try.prog.info? 23).map (·.size) = some (kb.map bval).length) := Lib.hid (num_size hk)
  clear hk hv
  go_enter Try.func3, Try.ntmps3
  go_upto_region 1 with (fail)
  change Code.wp _ _ _ _ (w.alloc (.cells (kb.map bval).toArray 23))
  have HRB := Lib.hid (HRB.out.below HE.out)
  generalize w.alloc (.cells (kb.map bval).toArray 23) = w1 at *
  obtain ⟨B, hB⟩ : ∃ B, B = w.heap.size := ⟨_, rfl⟩
  have HB1 := HB1.out
  rw [← hB] at HB1 ⊢
  have HB1 := Lib.hid HB1
  clear hB
  go_wp2_with fail
  refine (alive_any10 w1).mono ?_
  rintro e w2 ⟨rfl, hb⟩
  have HE := Lib.hid (HE.out.trans hb)
  have HB1 := Lib.hid (ext_blk HB1.out hb)
  have HRB := Lib.hid (HRB.out.below hb)
  clear hb
  go_wp2_with fail
  refine (big_any (.slice a ls.length cap) ls w2 HRB.out).mono ?_
  rintro e w3 ⟨rfl, rfl⟩
  cases hbig : bigB ls with
  | true =>
    clear hbig
    go_wp2_with fail
    go_ret
    exact ⟨rfl, HE.out⟩
  | false =>
    have hll := small_flat hbig
    clear hbig
    obtain ⟨m, hm⟩ : ∃ m, m = ls.flatten := ⟨_, rfl⟩
    rw [← hm] at hll
    have HMM := Lib.hid hm
    have HML : Hid (m.length ≤ 1099511627776) := Lib.hid (by omega)
    clear hll hm
    go_wp2_with fail
    refine (join_any (.slice a ls.length cap) ls w2 HRB.out (by rw [← HMM.out]; exact HML.out)).mono ?_
    rintro e w4 ⟨x, rfl, hx, hb⟩
    rw [← HMM.out] at hx
    have HX := Lib.hid hx
    obtain ⟨ax, cx, hxv, _⟩ := id hx
    rw [List.length_map] at hxv
    subst hxv
    have HE := Lib.hid (HE.out.trans hb)
    have HB1 := Lib.hid (ext_blk HB1.out hb)
    have HRB := Lib.hid (HRB.out.below hb)
    clear hb hx
    go_wp2_with (refine wpList_load_blk rfl _ _ rfl B rfl _ _ _ _ HB1.out Try.underlying23 HI1.out ?_)
    refine (rPoly_any kb m _ w4 HKL.out HX.out HML.out).mono ?_
    rintro e w5 ⟨rfl, hb⟩
    have HE := Lib.hid (HE.out.trans hb)
    have HB1 := Lib.hid (ext_blk HB1.out hb)
    have HRB := Lib.hid (HRB.out.below hb)
    have HX := Lib.hid (HX.out.below hb)
    clear hb
    have HZT := Lib.hid (Blk.made w5 (ints .u8 (List.replicate 16 0)) 30)
    have HEA := Lib.hid (Ext.alloc w5 (.cells (ints .u8 (List.replicate 16 0)).toArray 30))
    have HI3 : Hid ((Try.prog.info? 30).map (·.size) = some ((polyTag kb m).map bval).length) := Lib.hid (ptag_size (polyTag_length _ _))
    have HLo : Hid (((polyTag kb m).map bval).length = (ints .u8 (List.replicate 16 0)).length) := Lib.hid (by rw [List.length_map, polyTag_length, ints_length, List.length_replicate])
    go_upto_region 7 with (refine wpList_store_blk rfl _ _ _ rfl w5.heap.size ((polyTag kb m).map bval) rfl rfl _ _ HZT.out HLo.out HI3.out (bval_one _) ?_; intro w6 hb6 hg6)
    have HE4 := Lib.hid (ext_grown HEA.out hg6 (Nat.le_refl _))
    have HE := Lib.hid (HE.out.trans HE4.out)
    have HB1 := Lib.hid (ext_blk HB1.out HE4.out)
    have HRB := Lib.hid (HRB.out.below HE4.out)
    have HX := Lib.hid (HX.out.below HE4.out)
    have HB3 := Lib.hid hb6
    obtain ⟨T, hT⟩ : ∃ T, T = w5.heap.size := ⟨_, rfl⟩
    rw [← hT] at HB3 ⊢
    clear hb6 hg6 HZT HEA HLo HE4 hT
    have B0 : Ext w6 w6.drew := Ext.drew _
    refine wp_region_held_drew (S := fun w' => Ext w6 w') (by kernel_rfl) B0 (fun hHeld => ?_)
    refine wpAnyH_take (i := 0) (v := .agg ((kb).map bval).toArray) rfl (by kernel_rfl) (by kernel_rfl) (by kernel_rfl) (fun _ _ _ h => h) (yieldsIf_load_mid (by rfl) _ _ rfl B 0 rfl _ _ (fun w h => bl_range HB1.out h) Try.underlying23 rfl HI1.out) hHeld ?_
    simp only [Act.put, List.getElem_toArray, List.getElem_cons_zero, List.getElem_cons_succ, List.setIfInBounds_toArray, List.set_cons_zero, List.set_cons_succ]
    refine wpAnyH_take (i := 1) (v := .slice a ls.length cap) rfl (by kernel_rfl) (by kernel_rfl) (by kernel_rfl) (fun _ _ _ h => h) (yi_move _ (.slice a ls.length cap) (by rfl) rfl rfl) hHeld ?_
    simp only [Act.put, List.getElem_toArray, List.getElem_cons_zero, List.getElem_cons_succ, List.setIfInBounds_toArray, List.set_cons_zero, List.set_cons_succ]
    refine wpAnyH_take (i := 3) (v := .agg ((polyTag kb m).map bval).toArray) rfl (by kernel_rfl) (by kernel_rfl) (by kernel_rfl) (fun _ _ _ h => h) (yieldsIf_load_mid (by rfl) _ _ rfl T 0 rfl _ _ (fun w h => bl_range HB3.out h) Try.underlying30 rfl HI3.out) hHeld ?_
    simp only [Act.put, List.getElem_toArray, List.getElem_cons_zero, List.getElem_cons_succ, List.setIfInBounds_toArray, List.set_cons_zero, List.set_cons_succ]
    refine wpAnyH_ready (rs := [2]) (by kernel_rfl) (by simp) (AllReadyH.cons rfl (fun K hK => ?_) AllReadyH.nil)
    go_simp
    refine (PSum_val kb (.slice a ls.length cap) _ m _ HKL.out (HRB.out.below B0) HMM.out.symm HML.out).mono ?_
    rintro e m1 ⟨rfl, b1⟩
    have N1 : Ext w6 m1 := B0.trans b1
    refine hK.out _ _ N1 (fun hHeld => ?_)
    clear hK K
    try simp only [Act.put, List.getElem_toArray, List.getElem_cons_zero, List.getElem_cons_succ, List.setIfInBounds_toArray, List.set_cons_zero, List.set_cons_succ]
    refine wpAnyH_take (i := 4) (v := .bool true) rfl (by kernel_rfl) (by kernel_rfl) (by kernel_rfl) (fun _ _ _ h => h) (yi_eql _ _ _ _ _ 16 _ (polyTag kb m) (polyTag kb m) true (by rfl) rfl (decide_eq_true (rfl)) Try.underlying30 Try.underlying5 num_info num_cells tag_guard rfl rfl (polyTag_length _ _) (polyTag_length _ _)) hHeld ?_
    simp only [Act.put, List.getElem_toArray, List.getElem_cons_zero, List.getElem_cons_succ, List.setIfInBounds_toArray, List.set_cons_zero, List.set_cons_succ]
    refine wpAnyH_take (i := 5) (v := .bool true) rfl (by kernel_rfl) (by kernel_rfl) (by kernel_rfl) (fun _ _ _ h => h) (yi_move _ (.bool true) (by rfl) rfl rfl) hHeld ?_
    simp only [Act.put, List.getElem_toArray, List.getElem_cons_zero, List.getElem_cons_succ, List.setIfInBounds_toArray, List.set_cons_zero, List.set_cons_succ]
    refine wpAnyH_take (i := 6) (v := .agg ((kb).map bval).toArray) rfl (by kernel_rfl) (by kernel_rfl) (by kernel_rfl) (fun _ _ _ h => h) (yieldsIf_load_mid (by rfl) _ _ rfl B 0 rfl _ _ (fun w h => bl_range HB1.out h) Try.underlying23 rfl HI1.out) hHeld ?_
    simp only [Act.put, List.getElem_toArray, List.getElem_cons_zero, List.getElem_cons_succ, List.setIfInBounds_toArray, List.set_cons_zero, List.set_cons_succ]
    refine wpAnyH_take (i := 7) (v := .slice ax m.length cx) rfl (by kernel_rfl) (by kernel_rfl) (by kernel_rfl) (fun _ _ _ h => h) (yi_move _ (.slice ax m.length cx) (by rfl) rfl rfl) hHeld ?_
    simp only [Act.put, List.getElem_toArray, List.getElem_cons_zero, List.getElem_cons_succ, List.setIfInBounds_toArray, List.set_cons_zero, List.set_cons_succ]
    refine wpAnyH_take (i := 10) (v := .agg ((polyTag kb m).map bval).toArray) rfl (by kernel_rfl) (by kernel_rfl) (by kernel_rfl) (fun _ _ _ h => h) (yieldsIf_load_mid (by rfl) _ _ rfl T 0 rfl _ _ (fun w h => bl_range HB3.out h) Try.underlying30 rfl HI3.out) hHeld ?_
    simp only [Act.put, List.getElem_toArray, List.getElem_cons_zero, List.getElem_cons_succ, List.setIfInBounds_toArray, List.set_cons_zero, List.set_cons_succ]
    refine wpAnyH_ready (rs := [8]) (by kernel_rfl) (by simp) (AllReadyH.cons rfl (fun K hK => ?_) AllReadyH.nil)
    refine step_wp (by rfl) ?_
    refine wp_buildSlice_d (some 31) _ _ _ _ rfl rfl #[.slice ax m.length cx] iq (.slice none 0 0) Try.underlying24 HQ0.out HQ1.out (by rw [HQ2.out]; decide) (by rw [HQ2.out]; decide) (by rw [HQ2.out]; kernel_rfl) ?_
    obtain ⟨m2, hm2⟩ : ∃ wNew, wNew = World.alloc m1 (.cells #[.slice ax m.length cx] 27) := ⟨_, rfl⟩
    rw [← hm2]
    have b2 : Ext m1 m2 := by rw [hm2]; exact Ext.alloc _ _
    obtain ⟨g2, hg2⟩ : ∃ gNew, gNew = (m1).heap.size := ⟨_, rfl⟩
    rw [← hg2]
    have r2 : Row1 m2 (.slice (some ⟨g2, 0, none⟩) 1 1) [.slice ax m.length cx] := by rw [hm2, hg2]; exact Row1.made _ _ _ _ _ _ rfl rfl rfl (by unfold maxLen; omega)
    clear hm2 hg2
    have N2 : Ext w6 m2 := N1.trans b2
    refine hK.out _ _ N2 (fun hHeld => ?_)
    clear hK K
    try simp only [Act.put, List.getElem_toArray, List.getElem_cons_zero, List.getElem_cons_succ, List.setIfInBounds_toArray, List.set_cons_zero, List.set_cons_succ]
    refine wpAnyH_ready (rs := [9]) (by kernel_rfl) (by simp) (AllReadyH.cons rfl (fun K hK => ?_) AllReadyH.nil)
    go_simp
    refine (PSum_val (kb) (.slice (some ⟨g2, 0, none⟩) 1 1) _ (m) _ HKL.out (rowB1 r2 ((HX.out).below N2)) (by simp) (HML.out)).mono ?_
    rintro e m3 ⟨rfl, b3⟩
    have r2 := r2.below b3
    have N3 : Ext w6 m3 := N2.trans b3
    refine hK.out _ _ N3 (fun hHeld => ?_)
    clear hK K
    try simp only [Act.put, List.getElem_toArray, List.getElem_cons_zero, List.getElem_cons_succ, List.setIfInBounds_toArray, List.set_cons_zero, List.set_cons_succ]
    refine wpAnyH_take (i := 11) (v := .bool true) rfl (by kernel_rfl) (by kernel_rfl) (by kernel_rfl) (fun _ _ _ h => h) (yi_eql _ _ _ _ _ 16 _ (polyTag (kb) (m)) (polyTag kb m) true (by rfl) rfl (decide_eq_true (rfl)) Try.underlying30 Try.underlying5 num_info num_cells tag_guard rfl rfl (polyTag_length _ _) (polyTag_length _ _)) hHeld ?_
    simp only [Act.put, List.getElem_toArray, List.getElem_cons_zero, List.getElem_cons_succ, List.setIfInBounds_toArray, List.set_cons_zero, List.set_cons_succ]
    refine wpAnyH_take (i := 12) (v := .bool true) rfl (by kernel_rfl) (by kernel_rfl) (by kernel_rfl) (fun _ _ _ h => h) (yi_pick _ _ _ true _ (by rfl) rfl rfl rfl) hHeld ?_
    simp only [Act.put, List.getElem_toArray, List.getElem_cons_zero, List.getElem_cons_succ, List.setIfInBounds_toArray, List.set_cons_zero, List.set_cons_succ]
    refine wpAnyH_ready (rs := [13]) (by kernel_rfl) (by simp) (AllReadyH.cons rfl (fun K hK => ?_) AllReadyH.nil)
    go_simp
    refine hK.out _ _ N3 (fun hHeld => ?_)
    clear hK K
    try simp only [Act.put, List.getElem_toArray, List.getElem_cons_zero, List.getElem_cons_succ, List.setIfInBounds_toArray, List.set_cons_zero, List.set_cons_succ]
    refine wpAnyH_done (by kernel_rfl) ?_ _
    go_wp2_with fail
    go_ret
    exact ⟨rfl, HE.out.trans N3⟩

end Go.Proofs.Ytelenldabjmjbaa

/- A tag is the number of the message, and the key's last half upon it; bits of the key that are cleared make no difference. No program. Each theorem names its own conditions. -/
namespace Go.Proofs.Ytelenldabjmjbaa
open Go.RowKit
set_option linter.unusedVariables false
set_option linter.unusedSimpArgs false

theorem pR_congr {a b : List UInt8} (h : ∀ i, i < 16 → pDigit a i = pDigit b i) : pR a = pR b := by
  unfold pR pDigits
  congr 1
  apply List.map_congr_left
  intro i hi
  rw [h i (List.mem_range.1 hi)]
theorem pNum_congr {a b : List UInt8} (h : ∀ i, i < 16 → pDigit a i = pDigit b i) (m : List UInt8) : pNum a m = pNum b m := by
  unfold pNum
  rw [pR_congr h]
theorem tag_congr {a b : List UInt8} (h : ∀ i, i < 16 → pDigit a i = pDigit b i) (hs : a.drop 16 = b.drop 16) (m : List UInt8) : polyTag a m = polyTag b m := by
  unfold polyTag pS
  rw [pNum_congr h, hs]
/-- The key's first half, and noughts so far. -/
def zl (kb : List UInt8) (j : Nat) : List UInt8 := (kb.take 16 ++ List.replicate j 0) ++ kb.drop (16 + j)
theorem zl_zero (kb : List UInt8) : zl kb 0 = kb := by simp [zl]
theorem zl_length {kb : List UInt8} (hk : kb.length = 32) {j : Nat} (h : j ≤ 16) : (zl kb j).length = 32 := by
  unfold zl
  simp only [List.length_append, List.length_take, List.length_replicate, List.length_drop, hk]
  omega
theorem zl_set {kb : List UInt8} (hk : kb.length = 32) {j : Nat} (h : j < 16) : (zl kb j).set (16 + j) 0 = zl kb (j + 1) := by
  unfold zl
  have hl : (kb.take 16 ++ List.replicate j (0 : UInt8)).length = 16 + j := by simp [hk]
  rw [List.set_append_right _ _ (by omega), hl, Nat.sub_self, List.drop_eq_getElem_cons (by omega), List.set_cons_zero, List.replicate_succ', ← List.append_assoc]
  simp [Nat.add_assoc]
theorem zl_set_val {kb : List UInt8} (hk : kb.length = 32) {j : Nat} (h : j < 16) : ((zl kb j).map bval).set (16 + j) (.int .u8 0) = (zl kb (j + 1)).map bval := by
  rw [← zl_set hk h, List.map_set]
  rfl
theorem zl_getD {kb : List UInt8} (hk : kb.length = 32) {j i : Nat} (h : i < 16) : (zl kb j).getD i 0 = kb.getD i 0 := by
  unfold zl
  rw [List.getD_eq_getElem?_getD, List.append_assoc, List.getElem?_append_left (by rw [List.length_take, hk]; omega), List.getElem?_take, if_pos h, List.getD_eq_getElem?_getD]
theorem zl_digit {kb : List UInt8} (hk : kb.length = 32) (j : Nat) : ∀ i, i < 16 → pDigit (zl kb j) i = pDigit kb i := fun i hi => by
  unfold pDigit
  rw [zl_getD hk hi]
theorem zl_s {kb : List UInt8} (hk : kb.length = 32) : pS (zl kb 16) = 0 := by
  unfold pS zl
  have e : kb.drop (16 + 16) = [] := List.drop_eq_nil_of_le (by omega)
  rw [e, List.append_nil, List.drop_append, List.drop_eq_nil_of_le (by rw [List.length_take]; omega), List.nil_append, List.length_take, hk]
  have : List.take 16 (List.drop (16 - min 16 32) (List.replicate 16 (0 : UInt8))) = List.replicate 16 0 := rfl
  rw [this]
  exact leN_zeros 16
/-- The tag without the last half: the number's lowest digits. -/
theorem zl_tag {kb : List UInt8} (hk : kb.length = 32) (b : List UInt8) : polyTag (zl kb 16) b = bytesN 16 (pNum kb b).toNat := by
  unfold polyTag
  rw [zl_s hk, pNum_congr (zl_digit hk 16)]
  simp
def hN (kb b : List UInt8) : List Int := dig 17 (pNum kb b).toNat
theorem pad_digits {kb : List UInt8} (hk : kb.length = 32) (b : List UInt8) : (hN kb b).length = 17 ∧ (∀ i, 0 ≤ (hN kb b).getD i 0 ∧ (hN kb b).getD i 0 ≤ 255) ∧
    (∀ i, i < 16 → (hN kb b).getD i 0 = (((polyTag (zl kb 16) b).getD i 0).toNat : Int)) ∧
    (∀ i, i < 16 → (uT (hN kb b) (kb.drop 16) i + (hN kb b).getD i 0 + (((kb.drop 16).getD i 0).toNat : Int)) % 256 = (((polyTag kb b).getD i 0).toNat : Int)) := by
  have hr := pAcc_range (pR kb) b ((b.length + 15) / 16)
  have h0 : 0 ≤ pNum kb b := hr.1
  have h1 : pNum kb b < (pQ : Int) := hr.2
  have hl : (hN kb b).length = 17 := dig_length _ _
  have hd := dig_digits 17 (pNum kb b).toNat
  have hg := gV_dig 17 (pNum kb b).toNat
  have hv : gV 256 (hN kb b) = pNum kb b := by
    unfold hN
    rw [hg, Nat.mod_eq_of_lt, Int.toNat_of_nonneg h0]
    have e : (256 ^ 17 : Nat) = 87112285931760246646623899502532662132736 := by decide +kernel
    rw [e]
    unfold pQ at h1
    omega
  have ht := tag_digits (key := kb) (b := b) hk hl (fun i hi => hd i hi) hv
  have hsl : (kb.drop 16).take 16 = kb.drop 16 := List.take_of_length_le (by rw [List.length_drop, hk]; omega)
  rw [hsl] at ht
  refine ⟨hl, fun i => ?_, fun i hi => ?_, fun i hi => ?_⟩
  · rcases Nat.lt_or_ge i 17 with h | h
    · have := hd i h
      unfold hN
      omega
    · rw [getD_out (by omega)]
      omega
  · rw [zl_tag hk]
    unfold hN dig
    simp only [List.getD_eq_getElem?_getD, List.getElem?_map]
    have g1 := bytesN_getD 17 (pNum kb b).toNat i (by omega)
    have g2 := bytesN_getD 16 (pNum kb b).toNat i hi
    simp only [List.getD_eq_getElem?_getD] at g1 g2
    have l1 := bytesN_length 17 (pNum kb b).toNat
    rw [List.getElem?_eq_getElem (by omega)] at g1 ⊢
    simp only [Option.getD_some, Option.map_some] at g1 ⊢
    rw [g1, ← g2]
  · have e : (tL (hN kb b) (kb.drop 16) 16).getD i 0 = ((polyTag kb b).map fun b => (b.toNat : Int)).getD i 0 := by rw [ht]
    have e2 : (tL (hN kb b) (kb.drop 16) 16).getD i 0 = tD (hN kb b) (kb.drop 16) i := by
      simp only [tL, List.getD_eq_getElem?_getD, List.getElem?_map, List.getElem?_range hi]
      rfl
    rw [e2] at e
    unfold tD at e
    rw [e]
    have hpl := polyTag_length kb b
    simp only [List.getD_eq_getElem?_getD, List.getElem?_map]
    rw [List.getElem?_eq_getElem (by omega)]
    rfl

theorem and_u8 (a b : UInt8) : bits .and .u8 (a.toNat : Int) (b.toNat : Int) = ((a &&& b).toNat : Int) := by
  have h1 := a.toNat_lt
  have h2 := b.toNat_lt
  have key : (BitVec.ofInt 8 (a.toNat : Int) &&& BitVec.ofInt 8 (b.toNat : Int)).toNat = a.toNat &&& b.toNat := by
    rw [BitVec.toNat_and, BitVec.toNat_ofInt, BitVec.toNat_ofInt]
    congr 1 <;> omega
  show IntKind.u8.wrap ((BitVec.ofInt 8 (a.toNat : Int) &&& BitVec.ofInt 8 (b.toNat : Int)).toNat : Nat) = _
  rw [key, UInt8.toNat_and, IntKind.wrap_u8]
  have : a.toNat &&& b.toNat ≤ a.toNat := Nat.and_le_left
  omega
theorem xor_low (a y : UInt8) : (a ^^^ (y &&& 240)).toNat % 16 = a.toNat % 16 := by
  rw [UInt8.toNat_xor, UInt8.toNat_and]
  have h1 : (a.toNat ^^^ (y.toNat &&& 240)) % 2 ^ 4 = a.toNat % 2 ^ 4 ^^^ (y.toNat &&& 240) % 2 ^ 4 := Nat.xor_mod_two_pow
  have h2 : (y.toNat &&& 240) % 2 ^ 4 = y.toNat % 2 ^ 4 &&& 240 % 2 ^ 4 := Nat.and_mod_two_pow
  have h3 : (240 : UInt8).toNat = 240 := rfl
  rw [h3]
  rw [show (16 : Nat) = 2 ^ 4 from rfl, h1, h2, show (240 : Nat) % 2 ^ 4 = 0 from rfl, Nat.and_zero, Nat.xor_zero]
theorem xor_high (a y : UInt8) : (a ^^^ (y &&& 3)).toNat / 4 = a.toNat / 4 := by
  rw [UInt8.toNat_xor, UInt8.toNat_and]
  have h3 : (3 : UInt8).toNat = 3 := rfl
  rw [h3]
  have h1 : (a.toNat ^^^ (y.toNat &&& 3)) >>> 2 = a.toNat >>> 2 ^^^ (y.toNat &&& 3) >>> 2 := Nat.shiftRight_xor_distrib
  have h2 : (y.toNat &&& 3) >>> 2 = y.toNat >>> 2 &&& 3 >>> 2 := Nat.shiftRight_and_distrib
  rw [h2, show (3 : Nat) >>> 2 = 0 from rfl, Nat.and_zero, Nat.xor_zero, Nat.shiftRight_eq_div_pow, Nat.shiftRight_eq_div_pow] at h1
  exact h1
/-- The key with bits turned that are cleared. -/
def x3 (kb : List UInt8) (y : UInt8) : List UInt8 := kb.set 3 (kb.getD 3 0 ^^^ (y &&& 240))
def x4 (kb : List UInt8) (y : UInt8) : List UInt8 := (x3 kb y).set 4 ((x3 kb y).getD 4 0 ^^^ (y &&& 3))
def x15 (kb : List UInt8) (y : UInt8) : List UInt8 := (x4 kb y).set 15 ((x4 kb y).getD 15 0 ^^^ (y &&& 240))
theorem getD_set8 (l : List UInt8) (p i : Nat) (z : UInt8) (hp : p < l.length) : (l.set p z).getD i 0 = if p = i then z else l.getD i 0 := by
  simp only [List.getD_eq_getElem?_getD, List.getElem?_set]
  by_cases h : p = i
  · subst h
    rw [if_pos rfl, if_pos rfl, if_pos hp]
    rfl
  · rw [if_neg h, if_neg h]
theorem x15_digit {kb : List UInt8} (hk : kb.length = 32) (y : UInt8) : ∀ i, i < 16 → pDigit (x15 kb y) i = pDigit kb i := fun i hi => by
  have l3 : (x3 kb y).length = 32 := by simp [x3, hk]
  have l4 : (x4 kb y).length = 32 := by simp [x4, l3]
  have e3 : ∀ j, (x3 kb y).getD j 0 = if 3 = j then kb.getD 3 0 ^^^ (y &&& 240) else kb.getD j 0 := fun j => by rw [x3, getD_set8 _ _ _ _ (by omega)]
  have e4 : ∀ j, (x4 kb y).getD j 0 = if 4 = j then kb.getD 4 0 ^^^ (y &&& 3) else (x3 kb y).getD j 0 := fun j => by
    rw [x4, getD_set8 _ _ _ _ (by omega), e3 4, if_neg (by omega : ¬ 3 = 4)]
  have e15 : ∀ j, (x15 kb y).getD j 0 = if 15 = j then kb.getD 15 0 ^^^ (y &&& 240) else (x4 kb y).getD j 0 := fun j => by
    rw [x15, getD_set8 _ _ _ _ (by omega), e4 15, if_neg (by omega : ¬ 4 = 15), e3 15, if_neg (by omega : ¬ 3 = 15)]
  unfold pDigit
  rw [e15, e4, e3]
  by_cases h3 : i = 3
  · subst h3
    have h := xor_low (kb[3]?.getD 0) y
    rw [UInt8.toNat_xor, UInt8.toNat_and, show (240 : UInt8).toNat = 240 from rfl] at h
    simp [h]
  · by_cases h4 : i = 4
    · subst h4
      have h := xor_high (kb[4]?.getD 0) y
      rw [UInt8.toNat_xor, UInt8.toNat_and, show (3 : UInt8).toNat = 3 from rfl] at h
      simp [h]
    · by_cases h15 : i = 15
      · subst h15
        have h := xor_low (kb[15]?.getD 0) y
        rw [UInt8.toNat_xor, UInt8.toNat_and, show (240 : UInt8).toNat = 240 from rfl] at h
        simp [h]
      · rw [if_neg (by omega : ¬ 15 = i), if_neg (by omega : ¬ 4 = i), if_neg (by omega : ¬ 3 = i)]
theorem x15_drop (kb : List UInt8) (y : UInt8) : (x15 kb y).drop 16 = kb.drop 16 := by
  unfold x15 x4 x3
  rw [List.drop_set, if_pos (by omega), List.drop_set, if_pos (by omega), List.drop_set, if_pos (by omega)]
theorem x15_tag {kb : List UInt8} (hk : kb.length = 32) (y : UInt8) (b : List UInt8) : polyTag (x15 kb y) b = polyTag kb b := tag_congr (x15_digit hk y) (x15_drop kb y) b
theorem x15_length {kb : List UInt8} (hk : kb.length = 32) (y : UInt8) : (x15 kb y).length = 32 := by simp [x15, x4, x3, hk]

end Go.Proofs.Ytelenldabjmjbaa

/- The walk of PolyPads. Laid by wip/gen/gply2.py. Each theorem names its own conditions. -/
namespace Go.Proofs.Ytelenldabjmjbaa
open Go.RowKit
set_option linter.unusedVariables false
set_option linter.unusedSimpArgs false

theorem set_bval (l : List UInt8) (i : Nat) (z : UInt8) : (l.map bval).set i (.int .u8 (z.toNat : Int)) = (l.set i z).map bval := by
  rw [List.map_set]
  rfl

set_option maxRecDepth 100000 in
set_option maxHeartbeats 8000000 in
theorem polyPads_any (kb b : List UInt8) (bv : Value) (y : UInt8) (w : World) (hk : kb.length = 32) (hb : Row1 w bv (b.map bval)) :
    Calls Try.prog 5 #[.agg (kb.map bval).toArray, bv, .int .u8 (y.toNat : Int)] w fun e w' => e = .returned (.bool true) ∧ Below w.heap.size w w' := by
  obtain ⟨iq, hq0, hq1, hq2⟩ := info_two (P := Try.prog) (t := 27) (z := .slice none 0 0) (n := 1) (by kernel_rfl)
  have HQ0 := Lib.hid hq0
  have HQ1 := Lib.hid hq1
  have HQ2 := Lib.hid hq2
  obtain ⟨i0, hi, hz0, hz1, hz2⟩ := info_parts Try.info5
  have HI0 := Lib.hid hi
  have HZ0 := Lib.hid hz0
  have HZ1 := Lib.hid hz1
  have HZ2 := Lib.hid hz2
  clear hi hz0 hz1 hz2 hq0 hq1 hq2
  obtain ⟨a, cap, hbv, r1, r2, _⟩ := id hb
  rw [List.length_map] at hbv r1
  subst hbv
  unfold maxLen at r2
  have HKL := Lib.hid hk
  have HRW := Lib.hid hb
  have HB1 : Hid (Blk (w.alloc (.cells (kb.map bval).toArray 23)) w.heap.size (kb.map bval) 23) := Lib.hid (Blk.made w (kb.map bval) 23)
  have HE := Lib.hid (Ext.alloc w (.cells (kb.map bval).toArray 23))
  have HI1 : Hid ((Try.prog.info? 23).map (·.size) = some (kb.map bval).length) := Lib.hid (num_size hk)
  obtain ⟨yv, hyv⟩ : ∃ z, z = ((y.toNat : Nat) : Int) := ⟨_, rfl⟩
  rw [← hyv]
  have HYV := Lib.hid hyv
  clear hk hb hyv
  go_enter Try.func5, Try.ntmps5
  go_upto_region 1 with (fail)
  change Code.wp _ _ _ _ (w.alloc (.cells (kb.map bval).toArray 23))
  generalize w.alloc (.cells (kb.map bval).toArray 23) = w1 at *
  obtain ⟨B, hB⟩ : ∃ B, B = w.heap.size := ⟨_, rfl⟩
  have HBW : Hid (w.heap.size ≤ B) := Lib.hid (by omega)
  have HB1 := HB1.out
  rw [← hB] at HB1 ⊢
  have HB1 := Lib.hid HB1
  clear hB
  go_wp2_with fail
  refine (alive_any10 w1).mono ?_
  rintro e w2 ⟨rfl, hb⟩
  have HE := Lib.hid (HE.out.trans hb)
  have HB1 := Lib.hid (ext_blk HB1.out hb)
  clear hb
  by_cases h1 : 500 < b.length
  · have h1' : (500 : Int) < (b.length : Int) := by omega
    go_wp2_with fail
    go_ret
    exact ⟨rfl, HE.out⟩
  · have h1' : decide ((500 : Int) < (b.length : Int)) = false := decide_eq_false (by omega)
    have HBL : Hid (b.length ≤ 500) := Lib.hid (by omega)
    clear h1
    -- the key without its last half
    have HZK := Lib.hid (Blk.made w2 (ints .u8 (List.replicate 32 0)) 23)
    have HEA := Lib.hid (Ext.alloc w2 (.cells (ints .u8 (List.replicate 32 0)).toArray 23))
    have HLk : Hid ((kb.map bval).length = (ints .u8 (List.replicate 32 0)).length) := Lib.hid (by rw [List.length_map, HKL.out, ints_length, List.length_replicate])
    go_upto_region 5 with (first | (refine wpList_load_blk rfl _ _ rfl B rfl _ _ _ _ HB1.out Try.underlying23 HI1.out ?_) | (refine wpList_store_blk rfl _ _ _ rfl w2.heap.size (kb.map bval) rfl rfl _ _ HZK.out HLk.out HI1.out (bval_one _) ?_; intro w3 hb3 hg3))
    have HE4 := Lib.hid (ext_grown HEA.out hg3 (Nat.le_refl _))
    have HS2 := Lib.hid HE.out.size
    have HE := Lib.hid (HE.out.trans HE4.out)
    have HBK0 := Lib.hid HB1.out.lt
    have HB1 := Lib.hid (ext_blk HB1.out HE4.out)
    obtain ⟨K, hK⟩ : ∃ K, K = w2.heap.size := ⟨_, rfl⟩
    have HKW : Hid (w.heap.size ≤ K) := Lib.hid (by rw [hK]; exact HS2.out)
    have HBK : Hid (B < K) := Lib.hid (by rw [hK]; exact HBK0.out)
    rw [← hK] at hb3 ⊢
    have HBZ : Hid (Blk w3 K ((zl kb 0).map bval) 23) := Lib.hid (by rw [zl_zero]; exact hb3)
    clear hb3 hg3 HZK HEA HE4 hK HS2 HBK0
    go_wp2_with fail
    go_loopw [9] (fun iv wr => ∃ (j : Nat), j ≤ 16 ∧ iv = .int .i64 (16 + (j : Int)) ∧ Blk wr K ((zl kb j).map bval) 23 ∧ Blk wr B (kb.map bval) 23 ∧ Ext w wr) (fun iv _ => 32 - (intOf iv).toNat)
    case atStart => exact ⟨0, by omega, rfl, HBZ.out, HB1.out, HE.out⟩
    case round =>
      clear HBZ HB1 HE
      obtain ⟨j, hj, rfl, hbz, hb1, hbel⟩ := hrel
      have j0 : (0 : Int) ≤ (j : Int) := Int.natCast_nonneg _
      have HBZ := Lib.hid hbz
      have HB1 := Lib.hid hb1
      have HE := Lib.hid hbel
      by_cases hlj : j < 16
      · have j1 : 16 + (j : Int) < 32 := by omega
        have j2 : (0 : Int) ≤ 16 + (j : Int) := by omega
        have kn : (16 + (j : Int)).toNat = 16 + j := by omega
        obtain ⟨u6, c6⟩ : ∃ u, wr.cell? ⟨K, 16 + j, none⟩ = some u := ⟨_, by rw [hbz.cell, bval_get (by rw [zl_length HKL.out (by omega)]; omega)]⟩
        have f6 := hbz.free (16 + j)
        clear hbz hb1 hbel
        go_wp2_with fail
        go_roundw
        case rel => exact ⟨j + 1, by omega, by go_num, by rw [← zl_set_val HKL.out hlj]; exact HBZ.out.set _ _, HB1.out.far (by have := HBK.out; simp; omega) _, Below.setCell HE.out (by have := HKW.out; simp; omega) _⟩
        case measure => simp [intOf]; omega
      · have hj16 : j = 16 := by omega
        subst hj16
        rw [show ((16 : Nat) : Int) = 16 from rfl]
        rw [show (16 : Int) + 16 = 32 from rfl]
        clear hbz hb1 hbel hj j0 hlj
        have HZL : Hid ((zl kb 16).length = 32) := Lib.hid (zl_length HKL.out (by omega))
        have HPD := Lib.hid (pad_digits HKL.out b)
        have HIZ : Hid ((Try.prog.info? 23).map (·.size) = some ((zl kb 16).map bval).length) := Lib.hid (num_size HZL.out)
        have HR := Lib.hid (HRW.out.below HE.out)
        generalize zl kb 16 = z at *
        go_wp2_with (refine wpList_load_blk rfl _ _ rfl K rfl _ _ _ _ HBZ.out Try.underlying23 HIZ.out ?_)
        refine (PSum_one z _ b wr HZL.out HR.out (by have := HBL.out; omega)).mono ?_
        rintro e w4 ⟨rfl, hb⟩
        have HE := Lib.hid (HE.out.trans hb)
        have HB1 := Lib.hid (ext_blk HB1.out hb)
        clear hb HR HBZ
        have HTL := Lib.hid (polyTag_length z b)
        generalize polyTag z b = tg at *
        have HZT := Lib.hid (Blk.made w4 (ints .u8 (List.replicate 16 0)) 30)
        have HEA := Lib.hid (Ext.alloc w4 (.cells (ints .u8 (List.replicate 16 0)).toArray 30))
        have HIT : Hid ((Try.prog.info? 30).map (·.size) = some (tg.map bval).length) := Lib.hid (ptag_size HTL.out)
        have HLo : Hid ((tg.map bval).length = (ints .u8 (List.replicate 16 0)).length) := Lib.hid (by rw [List.length_map, HTL.out, ints_length, List.length_replicate])
        go_upto_region 10 with (refine wpList_store_blk rfl _ _ _ rfl w4.heap.size (tg.map bval) rfl rfl _ _ HZT.out HLo.out HIT.out (bval_one _) ?_; intro w5 hb5 hg5)
        have HE4 := Lib.hid (ext_grown HEA.out hg5 (Nat.le_refl _))
        have HE := Lib.hid (HE.out.trans HE4.out)
        have HB1 := Lib.hid (ext_blk HB1.out HE4.out)
        obtain ⟨T, hT⟩ : ∃ T, T = w4.heap.size := ⟨_, rfl⟩
        rw [← hT] at hb5 ⊢
        have HBT := Lib.hid hb5
        have HR := Lib.hid (HRW.out.below HE.out)
        clear hb5 hg5 HZT HEA HLo HE4 hT
        go_wp2_with (refine wpList_load_blk rfl _ _ rfl B rfl _ _ _ _ HB1.out Try.underlying23 HI1.out ?_)
        refine (PSum_one kb _ b w5 HKL.out HR.out (by have := HBL.out; omega)).mono ?_
        rintro e w6 ⟨rfl, hb⟩
        have HE := Lib.hid (HE.out.trans hb)
        have HB1 := Lib.hid (ext_blk HB1.out hb)
        have HBT := Lib.hid (ext_blk HBT.out hb)
        clear hb HR
        have HUL := Lib.hid (polyTag_length kb b)
        have HZT := Lib.hid (Blk.made w6 (ints .u8 (List.replicate 16 0)) 30)
        have HEA := Lib.hid (Ext.alloc w6 (.cells (ints .u8 (List.replicate 16 0)).toArray 30))
        have HIU : Hid ((Try.prog.info? 30).map (·.size) = some ((polyTag kb b).map bval).length) := Lib.hid (ptag_size HUL.out)
        have HLo : Hid (((polyTag kb b).map bval).length = (ints .u8 (List.replicate 16 0)).length) := Lib.hid (by rw [List.length_map, HUL.out, ints_length, List.length_replicate])
        go_upto_region 11 with (refine wpList_store_blk rfl _ _ _ rfl w6.heap.size ((polyTag kb b).map bval) rfl rfl _ _ HZT.out HLo.out HIU.out (bval_one _) ?_; intro w7 hb7 hg7)
        have HE4 := Lib.hid (ext_grown HEA.out hg7 (Nat.le_refl _))
        have HE := Lib.hid (HE.out.trans HE4.out)
        have HB1 := Lib.hid (ext_blk HB1.out HE4.out)
        have HBT := Lib.hid (ext_blk HBT.out HE4.out)
        obtain ⟨U, hU⟩ : ∃ U, U = w6.heap.size := ⟨_, rfl⟩
        rw [← hU] at hb7 ⊢
        have HBU := Lib.hid hb7
        clear hb7 hg7 HZT HEA HLo HE4 hU
        obtain ⟨s, hs⟩ : ∃ s, s = kb.drop 16 := ⟨_, rfl⟩
        have HSG : Hid (∀ i, i < 16 → s.getD i 0 = kb.getD (16 + i) 0) := Lib.hid (fun i hi => by rw [hs]; simp [List.getD])
        obtain ⟨h, hh⟩ : ∃ h, h = hN kb b := ⟨_, rfl⟩
        rw [← hs, ← hh] at HPD
        have HHL := Lib.hid HPD.out.1
        have HDD := Lib.hid HPD.out.2.1
        have HDT := Lib.hid HPD.out.2.2.1
        have HOD := Lib.hid HPD.out.2.2.2
        have HUR := Lib.hid (uT_range HDD.out s)
        clear hs hh HPD
        go_wp2_with fail
        go_loopw [12, 13] (fun cv iv wr => ∃ (i : Nat), i ≤ 16 ∧ cv = .int .i64 (uT h s i) ∧ iv = .int .i64 (i : Int) ∧ Ext w7 wr) (fun _ iv _ => 16 - (intOf iv).toNat)
        case atStart => exact ⟨0, by omega, rfl, rfl, Ext.refl _⟩
        case round =>
          obtain ⟨i, hi, rfl, rfl, hbel⟩ := hrel
          have i0' : (0 : Int) ≤ (i : Int) := Int.natCast_nonneg _
          have HX := Lib.hid hbel
          clear hbel
          by_cases hli : i < 16
          · have i1 : (i : Int) < 16 := by omega
            obtain ⟨q, hq⟩ : ∃ q, q = 16 + i := ⟨_, rfl⟩
            have q1 : (16 : Int) + (i : Int) = (q : Int) := by omega
            have q2 : (q : Int) < 32 := by omega
            have q3 : (0 : Int) ≤ (q : Int) := by omega
            have c1 := (ext_blk HBT.out HX.out).cell i
            rw [bval_get (by rw [HTL.out]; exact hli), ← HDT.out i hli] at c1
            have c2 := (ext_blk HB1.out HX.out).cell q
            rw [bval_get (by rw [HKL.out]; omega), hq, ← HSG.out i hli, ← hq] at c2
            have c3 := (ext_blk HBU.out HX.out).cell i
            rw [bval_get (by rw [HUL.out]; exact hli), ← HOD.out i hli] at c3
            have hu := HUR.out i
            have hz := HDD.out i
            have hy := (s.getD i 0).toNat_lt
            have HU : Hid (uT h s (i + 1) = (uT h s i + h.getD i 0 + ((s.getD i 0).toNat : Int)) / 256) := Lib.hid rfl
            clear hq
            generalize (s.getD i 0).toNat = x at *
            generalize h.getD i 0 = g at *
            generalize uT h s i = u at *
            obtain ⟨u0, u1⟩ := hu
            obtain ⟨z0, z1⟩ := hz
            have y1 : (x : Int) ≤ 255 := by omega
            have y2 : (0 : Int) ≤ (x : Int) := by omega
            have a1 := and_i64_255 (u + g + (x : Int)) (by omega) (by omega)
            go_upto_region 15 with (fail)
            go_region
            have w1' : IntKind.u8.wrap ((u + g + (x : Int)) % 256) = (u + g + (x : Int)) % 256 := by rw [IntKind.wrap_u8]; omega
            go_wp2_with fail
            go_roundw
            case rel => exact ⟨i + 1, by omega, by rw [HU.out], by go_num, HX.out.trans (Ext.drew _)⟩
            case measure => simp [intOf]; omega
          · have hi16 : i = 16 := by omega
            subst hi16
            rw [show ((16 : Nat) : Int) = 16 from rfl]
            have HE := Lib.hid (HE.out.trans HX.out)
            have HB1 := Lib.hid (ext_blk HB1.out HX.out)
            have HBU := Lib.hid (ext_blk HBU.out HX.out)
            clear HBT HUR HOD HDT HDD HHL HSG HX hi i0' hli
            generalize uT h s 16 = cfin at *
            have HZM := Lib.hid (Blk.made wr (ints .u8 (List.replicate 32 0)) 23)
            have HEA := Lib.hid (Ext.alloc wr (.cells (ints .u8 (List.replicate 32 0)).toArray 23))
            go_upto_region 20 with (first | (refine wpList_load_blk rfl _ _ rfl B rfl _ _ _ _ HB1.out Try.underlying23 HI1.out ?_) | (refine wpList_store_blk rfl _ _ _ rfl wr.heap.size (kb.map bval) rfl rfl _ _ HZM.out HLk.out HI1.out (bval_one _) ?_; intro w8 hb8 hg8))
            have HE4 := Lib.hid (ext_grown HEA.out hg8 (Nat.le_refl _))
            have HMW : Hid (w.heap.size ≤ wr.heap.size) := Lib.hid HE.out.size
            have HUM : Hid (U < wr.heap.size) := Lib.hid HBU.out.lt
            have HE := Lib.hid (HE.out.trans HE4.out)
            have HBU := Lib.hid (ext_blk HBU.out HE4.out)
            obtain ⟨M, hM⟩ : ∃ M, M = wr.heap.size := ⟨_, rfl⟩
            rw [← hM] at hb8 HMW HUM ⊢
            have HM0 := Lib.hid hb8
            clear hb8 hg8 HZM HEA HE4 hM HB1
            have HX3 : Hid (((kb.map bval).set 3 (.int .u8 (bits .xor .u8 ((kb.getD 3 0).toNat : Int) (bits .and .u8 yv 240)))) = (x3 kb y).map bval) := Lib.hid (by
              have e1 := and_u8 y 240
              have e2 := xor_u8 (kb.getD 3 0) (y &&& 240)
              rw [HYV.out, show (240 : Int) = ((240 : UInt8).toNat : Int) from rfl, e1, e2, set_bval]
              rfl)
            have HX4 : Hid ((((x3 kb y).map bval).set 4 (.int .u8 (bits .xor .u8 (((x3 kb y).getD 4 0).toNat : Int) (bits .and .u8 yv 3)))) = (x4 kb y).map bval) := Lib.hid (by
              have e1 := and_u8 y 3
              have e2 := xor_u8 ((x3 kb y).getD 4 0) (y &&& 3)
              rw [HYV.out, show (3 : Int) = ((3 : UInt8).toNat : Int) from rfl, e1, e2, set_bval]
              rfl)
            have HX15 : Hid ((((x4 kb y).map bval).set 15 (.int .u8 (bits .xor .u8 (((x4 kb y).getD 15 0).toNat : Int) (bits .and .u8 yv 240)))) = (x15 kb y).map bval) := Lib.hid (by
              have e1 := and_u8 y 240
              have e2 := xor_u8 ((x4 kb y).getD 15 0) (y &&& 240)
              rw [HYV.out, show (240 : Int) = ((240 : UInt8).toNat : Int) from rfl, e1, e2, set_bval]
              rfl)
            have HL3 : Hid ((x3 kb y).length = 32) := Lib.hid (by simp [x3, HKL.out])
            have HL4 : Hid ((x4 kb y).length = 32) := Lib.hid (by simp [x4, x3, HKL.out])
            have c1 := HM0.out.cell 3
            rw [bval_get (by rw [HKL.out]; omega)] at c1
            have f1 := HM0.out.free 3
            generalize ((kb.getD 3 0).toNat : Int) = q3 at *
            go_upto_region 21 with (fail)
            have HM1 := Lib.hid (HM0.out.set 3 (.int .u8 (bits .xor .u8 q3 (bits .and .u8 yv 240))))
            rw [HX3.out] at HM1
            have HBU := Lib.hid (HBU.out.far (a := ⟨M, 3, none⟩) (by have := HUM.out; simp; omega) (.int .u8 (bits .xor .u8 q3 (bits .and .u8 yv 240))))
            have HE := Lib.hid (Below.setCell HE.out (p := ⟨M, 3, none⟩) (by have := HMW.out; simp; omega) (.int .u8 (bits .xor .u8 q3 (bits .and .u8 yv 240))))
            generalize bits .xor .u8 q3 (bits .and .u8 yv 240) = v3 at *
            generalize w8.setCell ⟨M, 3, none⟩ (.int .u8 v3) = w9 at *
            clear c1 f1 HX3
            have c1 := HM1.out.cell 4
            rw [bval_get (by rw [HL3.out]; omega)] at c1
            have f1 := HM1.out.free 4
            generalize (((x3 kb y).getD 4 0).toNat : Int) = q4 at *
            go_upto_region 22 with (fail)
            have HM2 := Lib.hid (HM1.out.set 4 (.int .u8 (bits .xor .u8 q4 (bits .and .u8 yv 3))))
            rw [HX4.out] at HM2
            have HBU := Lib.hid (HBU.out.far (a := ⟨M, 4, none⟩) (by have := HUM.out; simp; omega) (.int .u8 (bits .xor .u8 q4 (bits .and .u8 yv 3))))
            have HE := Lib.hid (Below.setCell HE.out (p := ⟨M, 4, none⟩) (by have := HMW.out; simp; omega) (.int .u8 (bits .xor .u8 q4 (bits .and .u8 yv 3))))
            generalize bits .xor .u8 q4 (bits .and .u8 yv 3) = v4 at *
            generalize w9.setCell ⟨M, 4, none⟩ (.int .u8 v4) = w10 at *
            clear c1 f1 HX4
            have c1 := HM2.out.cell 15
            rw [bval_get (by rw [HL4.out]; omega)] at c1
            have f1 := HM2.out.free 15
            generalize (((x4 kb y).getD 15 0).toNat : Int) = q5 at *
            go_upto_region 23 with (fail)
            have HM3 := Lib.hid (HM2.out.set 15 (.int .u8 (bits .xor .u8 q5 (bits .and .u8 yv 240))))
            rw [HX15.out] at HM3
            have HBU := Lib.hid (HBU.out.far (a := ⟨M, 15, none⟩) (by have := HUM.out; simp; omega) (.int .u8 (bits .xor .u8 q5 (bits .and .u8 yv 240))))
            have HE := Lib.hid (Below.setCell HE.out (p := ⟨M, 15, none⟩) (by have := HMW.out; simp; omega) (.int .u8 (bits .xor .u8 q5 (bits .and .u8 yv 240))))
            generalize bits .xor .u8 q5 (bits .and .u8 yv 240) = v5 at *
            generalize w10.setCell ⟨M, 15, none⟩ (.int .u8 v5) = w20 at *
            clear c1 f1 HX15
            have HIX : Hid ((Try.prog.info? 23).map (·.size) = some ((x15 kb y).map bval).length) := Lib.hid (num_size (x15_length HKL.out y))
            have HE : Hid (Ext w w20) := Lib.hid HE.out
            have HR := Lib.hid (HRW.out.below HE.out)
            have B0 : Ext w20 w20.drew := Ext.drew _
            refine wp_region_held_drew (S := fun w' => Ext w20 w') (by kernel_rfl) B0 (fun hHeld => ?_)
            refine wpAnyH_take (i := 0) (v := .agg ((x15 kb y).map bval).toArray) rfl (by kernel_rfl) (by kernel_rfl) (by kernel_rfl) (fun _ _ _ h => h) (yieldsIf_load_mid (by rfl) _ _ rfl M 0 rfl _ _ (fun w h => bl_range HM3.out h) Try.underlying23 rfl HIX.out) hHeld ?_
            simp only [Act.put, List.getElem_toArray, List.getElem_cons_zero, List.getElem_cons_succ, List.setIfInBounds_toArray, List.set_cons_zero, List.set_cons_succ]
            refine wpAnyH_take (i := 1) (v := .slice a b.length cap) rfl (by kernel_rfl) (by kernel_rfl) (by kernel_rfl) (fun _ _ _ h => h) (yi_move _ (.slice a b.length cap) (by rfl) rfl rfl) hHeld ?_
            simp only [Act.put, List.getElem_toArray, List.getElem_cons_zero, List.getElem_cons_succ, List.setIfInBounds_toArray, List.set_cons_zero, List.set_cons_succ]
            refine wpAnyH_take (i := 4) (v := .agg ((polyTag kb b).map bval).toArray) rfl (by kernel_rfl) (by kernel_rfl) (by kernel_rfl) (fun _ _ _ h => h) (yieldsIf_load_mid (by rfl) _ _ rfl U 0 rfl _ _ (fun w h => bl_range HBU.out h) Try.underlying30 rfl HIU.out) hHeld ?_
            simp only [Act.put, List.getElem_toArray, List.getElem_cons_zero, List.getElem_cons_succ, List.setIfInBounds_toArray, List.set_cons_zero, List.set_cons_succ]
            refine wpAnyH_ready (rs := [2]) (by kernel_rfl) (by simp) (AllReadyH.cons rfl (fun K hK => ?_) AllReadyH.nil)
            refine step_wp (by rfl) ?_
            refine wp_buildSlice_d (some 85) _ _ _ _ rfl rfl #[.slice a b.length cap] iq (.slice none 0 0) Try.underlying24 HQ0.out HQ1.out (by rw [HQ2.out]; decide) (by rw [HQ2.out]; decide) (by rw [HQ2.out]; kernel_rfl) ?_
            obtain ⟨m1, hm1⟩ : ∃ wNew, wNew = World.alloc w20.drew (.cells #[.slice a b.length cap] 27) := ⟨_, rfl⟩
            rw [← hm1]
            have b1 : Ext w20.drew m1 := by rw [hm1]; exact Ext.alloc _ _
            obtain ⟨g1, hg1⟩ : ∃ gNew, gNew = (w20.drew).heap.size := ⟨_, rfl⟩
            rw [← hg1]
            have r1 : Row1 m1 (.slice (some ⟨g1, 0, none⟩) 1 1) [.slice a b.length cap] := by rw [hm1, hg1]; exact Row1.made _ _ _ _ _ _ rfl rfl rfl (by unfold maxLen; omega)
            clear hm1 hg1
            have N1 : Ext w20 m1 := B0.trans b1
            refine hK.out _ _ N1 (fun hHeld => ?_)
            clear hK K
            try simp only [Act.put, List.getElem_toArray, List.getElem_cons_zero, List.getElem_cons_succ, List.setIfInBounds_toArray, List.set_cons_zero, List.set_cons_succ]
            refine wpAnyH_ready (rs := [3]) (by kernel_rfl) (by simp) (AllReadyH.cons rfl (fun K hK => ?_) AllReadyH.nil)
            go_simp
            refine (PSum_val (x15 kb y) (.slice (some ⟨g1, 0, none⟩) 1 1) _ (b) _ (x15_length HKL.out y) (rowB1 r1 ((HR.out).below N1)) (by simp) (by have := HBL.out; omega)).mono ?_
            rintro e m2 ⟨rfl, b2⟩
            have r1 := r1.below b2
            have N2 : Ext w20 m2 := N1.trans b2
            refine hK.out _ _ N2 (fun hHeld => ?_)
            clear hK K
            try simp only [Act.put, List.getElem_toArray, List.getElem_cons_zero, List.getElem_cons_succ, List.setIfInBounds_toArray, List.set_cons_zero, List.set_cons_succ]
            refine wpAnyH_take (i := 5) (v := .bool true) rfl (by kernel_rfl) (by kernel_rfl) (by kernel_rfl) (fun _ _ _ h => h) (yi_eql _ _ _ _ _ 16 _ (polyTag (x15 kb y) (b)) (polyTag kb b) true (by rfl) rfl (decide_eq_true (x15_tag HKL.out y b)) Try.underlying30 Try.underlying5 num_info num_cells tag_guard rfl rfl (polyTag_length _ _) (polyTag_length _ _)) hHeld ?_
            simp only [Act.put, List.getElem_toArray, List.getElem_cons_zero, List.getElem_cons_succ, List.setIfInBounds_toArray, List.set_cons_zero, List.set_cons_succ]
            refine wpAnyH_ready (rs := [6]) (by kernel_rfl) (by simp) (AllReadyH.cons rfl (fun K hK => ?_) AllReadyH.nil)
            go_simp
            refine hK.out _ _ N2 (fun hHeld => ?_)
            clear hK K
            try simp only [Act.put, List.getElem_toArray, List.getElem_cons_zero, List.getElem_cons_succ, List.setIfInBounds_toArray, List.set_cons_zero, List.set_cons_succ]
            refine wpAnyH_done (by kernel_rfl) ?_ _
            go_wp2_with fail
            go_ret
            exact ⟨rfl, HE.out.trans N2⟩

end Go.Proofs.Ytelenldabjmjbaa
