/- The walk of ShbSums. Each theorem names its own conditions. -/
import Derived.Test.YtmadoehajapfhaaDoorShbLaw0
import Derived.Test.YtmadoehajapfhaaDoorHeldKit
import Derived.Test.YtmadoehajapfhaaDoorRefJoin
namespace Go.Proofs.YtmadoehajapfhaaDoor
open Go.RowKit
set_option linter.unusedVariables false
set_option linter.unusedSimpArgs false

/-- Are lists too many, or one too long? -/
def bigBQ (ls : List (List UInt8)) : Bool := decide (30 < ls.length) || ls.any fun x => decide (1000 < x.length)
theorem big_manyQ {ls : List (List UInt8)} (h : 30 < ls.length) : bigBQ ls = true := by simp [bigBQ, h]
theorem big_oneQ {ls : List (List UInt8)} {k : Nat} {l : List UInt8} (h : ls[k]? = some l) (hl : 1000 < l.length) : bigBQ ls = true := by
  unfold bigBQ
  rw [Bool.or_eq_true]
  right
  rw [List.any_eq_true]
  refine ⟨l, ?_, by simpa using hl⟩
  exact List.mem_of_getElem? h
theorem big_noneQ {ls : List (List UInt8)} (h : ls.length ≤ 30) (hs : ∀ (j : Nat) (l : List UInt8), ls[j]? = some l → l.length ≤ 1000) : bigBQ ls = false := by
  unfold bigBQ
  rw [Bool.or_eq_false_iff]
  refine ⟨by simpa using h, ?_⟩
  rw [List.any_eq_false]
  intro x hx
  obtain ⟨j, hj, rfl⟩ := List.getElem_of_mem hx
  have := hs j _ (List.getElem?_eq_getElem hj)
  simpa using this
theorem flat_boundQ : ∀ (ls : List (List UInt8)), (∀ l ∈ ls, l.length ≤ 1000) → ls.flatten.length ≤ 1000 * ls.length
  | [], _ => by simp
  | l :: r, h => by
    have h1 := h l (List.mem_cons_self ..)
    have h2 := flat_boundQ r (fun x hx => h x (List.mem_cons_of_mem _ hx))
    simp only [List.flatten_cons, List.length_append, List.length_cons]
    omega
theorem small_flatQ {ls : List (List UInt8)} (h : bigBQ ls = false) : ls.flatten.length ≤ 30000 := by
  unfold bigBQ at h
  rw [Bool.or_eq_false_iff] at h
  have h1 : ls.length ≤ 30 := by simpa using h.1
  have h2 := h.2
  rw [List.any_eq_false] at h2
  have := flat_boundQ ls (fun l hl => by simpa using h2 l hl)
  omega

set_option maxRecDepth 100000 in
set_option maxHeartbeats 4000000 in
theorem big_anyQ (v : Value) (ls : List (List UInt8)) (w : World) (hv : RowB w v ls) : Calls Tryd.prog 11 #[v] w fun e w' => e = .returned (.bool (bigBQ ls)) ∧ w = w' := by
  obtain ⟨vals, hr, hlen, hx⟩ := hv
  obtain ⟨a, cap, rfl, r1, r2, r3, r4⟩ := id hr
  unfold maxLen at r2
  rw [hlen] at r1 ⊢
  have HX := Lib.hid hx
  have HC := Lib.hid r4
  have HLN := Lib.hid hlen
  clear hr hx r3 r4 hlen
  by_cases h30 : 30 < ls.length
  · have h31 : 30 < (ls.length : Int) := by omega
    rw [big_manyQ h30]
    go_enter Tryd.func11, Tryd.ntmps11
    go_wp2_with fail
    go_ret
    exact ⟨rfl, rfl⟩
  · have h31 : (ls.length : Int) ≤ 30 := by omega
    have H30 : Hid (ls.length ≤ 30) := Lib.hid (by omega)
    obtain ⟨bb, hbb⟩ : ∃ b, b = bigBQ ls := ⟨_, rfl⟩
    have HBB := Lib.hid hbb
    rw [← hbb]
    clear h30 hbb
    go_enter Tryd.func11, Tryd.ntmps11
    go_wp2_with fail
    go_loop [3] (fun iv => ∃ k : Nat, k ≤ ls.length ∧ iv = .int .i64 (k : Int) ∧ ∀ (j : Nat) (l : List UInt8), j < k → ls[j]? = some l → l.length ≤ 1000) (fun iv => ls.length - (intOf iv).toNat)
    case atStart => exact ⟨0, Nat.zero_le _, rfl, fun j l hj => by omega⟩
    case round =>
      obtain ⟨k, hk, rfl, hall⟩ := hrel
      have HA := Lib.hid hall
      have k0 : (0 : Int) ≤ (k : Int) := Int.natCast_nonneg _
      clear hall
      by_cases hlk : k < ls.length
      · have k1 : (k : Int) < (ls.length : Int) := by omega
        obtain ⟨b', off, rfl, hbs, hcell⟩ := HC.out (by intro e; have h := congrArg List.length e; rw [HLN.out] at h; simp only [List.length_nil] at h; omega)
        obtain ⟨xv, hxv⟩ : ∃ x, vals[k]? = some x := ⟨_, List.getElem?_eq_getElem (by rw [HLN.out]; exact hlk)⟩
        obtain ⟨lk, hlk2⟩ : ∃ x, ls[k]? = some x := ⟨_, List.getElem?_eq_getElem hlk⟩
        have c0 : w.cell? ⟨b', off + k, none⟩ = some xv := by
          have h := hcell k (by rw [HLN.out]; exact hlk)
          rw [hxv] at h
          exact h
        obtain ⟨a2, cap2, rfl, s1, s2, s3, s4⟩ := HX.out k xv lk hxv hlk2
        rw [List.length_map] at s1 c0
        unfold maxLen at s2
        have HLK := Lib.hid hlk2
        clear hcell hxv hlk2 s3 s4
        by_cases hbig : 1000 < lk.length
        · have hbig2 : 1000 < (lk.length : Int) := by omega
          have HBT : Hid (bb = true) := Lib.hid (by rw [HBB.out]; exact big_oneQ HLK.out hbig)
          go_wp2_with fail
          go_ret
          exact ⟨by rw [HBT.out]; rfl, rfl⟩
        · have hbig2 : (lk.length : Int) ≤ 1000 := by omega
          go_wp2_with fail
          go_round
          case rel =>
            refine ⟨k + 1, by omega, by go_num, fun j l hj hl => ?_⟩
            by_cases hjk : j = k
            · subst hjk
              have h := HLK.out
              rw [hl] at h
              cases h
              omega
            · exact HA.out j l (by omega) hl
          case measure => simp [intOf]; omega
      · have hk2 : (ls.length : Int) ≤ (k : Int) := by omega
        have HBF : Hid (bb = false) := Lib.hid (by
          rw [HBB.out]
          refine big_noneQ H30.out (fun j l hl => HA.out j l ?_ hl)
          rcases Nat.lt_or_ge j ls.length with h | h
          · omega
          · rw [List.getElem?_eq_none h] at hl; cases hl)
        go_wp2_with fail
        go_ret
        exact ⟨by rw [HBF.out]; rfl, rfl⟩

set_option maxRecDepth 100000 in
set_option maxHeartbeats 8000000 in
theorem shbSums_any (v : Value) (ls : List (List UInt8)) (w : World) (hv : RowB w v ls) (hG : GlobRQ w) (hK : GlobK5 w) :
    Calls Tryd.prog 7 #[v] w fun e w' => e = .returned (.bool true) ∧ Below w.heap.size w w' := by
  obtain ⟨iq, hq0, hq1, hq2⟩ := info_twoQ Tryd.info25
  have HQ0 := Lib.hid hq0
  have HQ1 := Lib.hid hq1
  have HQ2 := Lib.hid hq2
  have HG := Lib.hid hG
  have HK := Lib.hid hK
  have HRW := Lib.hid hv
  clear hq0 hq1 hq2 hG hK hv
  go_enter Tryd.func7, Tryd.ntmps7
  go_wp2_with fail
  refine (alive_anyQ w HG.out).mono ?_
  rintro e w1 ⟨rfl, hb⟩
  have HE : Hid (Ext w w1) := Lib.hid hb
  clear hb
  go_wp2_with fail
  refine (big_anyQ v ls w1 (HRW.out.below HE.out)).mono ?_
  rintro e w2 ⟨rfl, rfl⟩
  cases hbig : bigBQ ls with
  | true =>
    clear hbig
    go_wp2_with fail
    go_ret
    exact ⟨rfl, HE.out⟩
  | false =>
    have HLL := Lib.hid (small_flatQ hbig)
    clear hbig
    go_wp2_with fail
    refine (join_any v ls w1 (HRW.out.below HE.out) (by have := HLL.out; omega)).mono ?_
    rintro e w3 ⟨x, rfl, hx, hb⟩
    have HX := Lib.hid hx
    have HE := Lib.hid (HE.out.trans hb)
    obtain ⟨ax, nx, cx, rfl⟩ := row_form2Q hx
    clear hx hb
    go_wp2_with fail
    refine (rShb_any _ ls.flatten w3 HX.out (by have := HLL.out; omega) (HK.out.ext HE.out)).mono ?_
    rintro e w4 ⟨rfl, hb⟩
    have HX := Lib.hid (HX.out.below hb)
    have HE := Lib.hid (HE.out.trans hb)
    clear hb
    have HZ := Lib.hid (Blk.made w4 (ints .u8 (List.replicate 64 0)) 35)
    have HS4 := Lib.hid HE.out.size
    have HEA := Lib.hid (Ext.alloc w4 (.cells (ints .u8 (List.replicate 64 0)).toArray 35))
    have HE4 := Lib.hid (HE.out.trans HEA.out)
    have HX4 := Lib.hid (HX.out.below HEA.out)
    have HIo : Hid ((Tryd.prog.info? 35).map (·.size) = some ((sha512 ls.flatten).map bval).length) := Lib.hid (sig_size (sha512_length _))
    have HLo : Hid (((sha512 ls.flatten).map bval).length = (ints .u8 (List.replicate 64 0)).length) := Lib.hid (by rw [List.length_map, sha512_length, ints_length, List.length_replicate])
    go_wp2_with (refine wpList_store_blk rfl _ _ _ rfl w4.heap.size ((sha512 ls.flatten).map bval) rfl rfl _ _ HZ.out HLo.out HIo.out (bval_one _) ?_; intro w7 hb7 hg7)
    have HE := Lib.hid (ext_grown HE4.out hg7 HS4.out)
    have HB := Lib.hid hb7
    have HX7 : Hid (Row1 w7 (.slice ax nx cx) (ls.flatten.map bval)) := Lib.hid (HX.out.below (ext_grown HEA.out hg7 (Nat.le_refl _)))
    clear hb7 hg7 HZ HX4
    generalize w4.heap.size = B at *
    go_wp2_with fail
    have B0 : Ext w7 w7.drew := Ext.drew _
    refine wp_region_held_drew (S := fun w' => w'.rangeAt B 0 ((sha512 ls.flatten).map bval)) (by kernel_rfl) (bl_range HB.out B0) (fun hHeld => ?_)
    refine wpAnyH_take (i := 0) (v := v) rfl (by kernel_rfl) (by kernel_rfl) (by kernel_rfl) (fun _ _ _ h => h) (yi_move _ (v) (by rfl) rfl rfl) hHeld ?_
    simp only [Act.put, List.getElem_toArray, List.getElem_cons_zero, List.getElem_cons_succ, List.setIfInBounds_toArray, List.set_cons_zero, List.set_cons_succ]
    refine wpAnyH_take (i := 2) (v := .agg ((sha512 ls.flatten).map bval).toArray) rfl (by kernel_rfl) (by kernel_rfl) (by kernel_rfl) (fun _ _ _ h => h) (yieldsIf_load_mid (by rfl) _ _ rfl B 0 rfl _ _ (fun w h => h) Tryd.underlying35 rfl HIo.out) hHeld ?_
    simp only [Act.put, List.getElem_toArray, List.getElem_cons_zero, List.getElem_cons_succ, List.setIfInBounds_toArray, List.set_cons_zero, List.set_cons_succ]
    refine wpAnyH_ready (rs := [1]) (by kernel_rfl) (by simp) (AllReadyH.cons rfl (fun K hK => ?_) AllReadyH.nil)
    go_simp
    refine (Sum_numQ v ls _ (HRW.out.below (HE.out.trans B0)) (by have := HLL.out; omega) (HG.out.ext (HE.out.trans B0))).mono ?_
    rintro e m1 ⟨rfl, b1⟩
    have N1 := B0.trans b1
    refine hK.out _ _ (bl_range HB.out N1) (fun hHeld => ?_)
    clear hK K
    try simp only [Act.put, List.getElem_toArray, List.getElem_cons_zero, List.getElem_cons_succ, List.setIfInBounds_toArray, List.set_cons_zero, List.set_cons_succ]
    refine wpAnyH_take (i := 3) (v := .bool true) rfl (by kernel_rfl) (by kernel_rfl) (by kernel_rfl) (fun _ _ _ h => h) (yi_eql _ _ _ _ _ 64 _ (sha512 ls.flatten) (sha512 ls.flatten) true (by rfl) rfl (decide_eq_true (rfl)) Tryd.underlying35 Tryd.underlying5 byte_info byte_cells sig_guard rfl rfl (sha512_length _) (sha512_length _)) hHeld ?_
    simp only [Act.put, List.getElem_toArray, List.getElem_cons_zero, List.getElem_cons_succ, List.setIfInBounds_toArray, List.set_cons_zero, List.set_cons_succ]
    refine wpAnyH_take (i := 4) (v := .bool true) rfl (by kernel_rfl) (by kernel_rfl) (by kernel_rfl) (fun _ _ _ h => h) (yi_move _ (.bool true) (by rfl) rfl rfl) hHeld ?_
    simp only [Act.put, List.getElem_toArray, List.getElem_cons_zero, List.getElem_cons_succ, List.setIfInBounds_toArray, List.set_cons_zero, List.set_cons_succ]
    refine wpAnyH_take (i := 5) (v := .slice ax nx cx) rfl (by kernel_rfl) (by kernel_rfl) (by kernel_rfl) (fun _ _ _ h => h) (yi_move _ (.slice ax nx cx) (by rfl) rfl rfl) hHeld ?_
    simp only [Act.put, List.getElem_toArray, List.getElem_cons_zero, List.getElem_cons_succ, List.setIfInBounds_toArray, List.set_cons_zero, List.set_cons_succ]
    refine wpAnyH_take (i := 8) (v := .agg ((sha512 ls.flatten).map bval).toArray) rfl (by kernel_rfl) (by kernel_rfl) (by kernel_rfl) (fun _ _ _ h => h) (yieldsIf_load_mid (by rfl) _ _ rfl B 0 rfl _ _ (fun w h => h) Tryd.underlying35 rfl HIo.out) hHeld ?_
    simp only [Act.put, List.getElem_toArray, List.getElem_cons_zero, List.getElem_cons_succ, List.setIfInBounds_toArray, List.set_cons_zero, List.set_cons_succ]
    refine wpAnyH_ready (rs := [6]) (by kernel_rfl) (by simp) (AllReadyH.cons rfl (fun K hK => ?_) AllReadyH.nil)
    refine step_wp (by rfl) ?_
    refine wp_buildSlice_d (some 26) _ _ _ _ rfl rfl #[.slice ax nx cx] iq (.slice none 0 0) Tryd.underlying22 HQ0.out HQ1.out (by rw [HQ2.out]; decide) (by rw [HQ2.out]; decide) (by rw [HQ2.out]; kernel_rfl) ?_
    have N2 : Ext w7 (World.alloc m1 (.cells #[.slice ax nx cx] 25)) := N1.trans (Ext.alloc _ _)
    refine hK.out _ _ (bl_range HB.out N2) (fun hHeld => ?_)
    clear hK K
    try simp only [Act.put, List.getElem_toArray, List.getElem_cons_zero, List.getElem_cons_succ, List.setIfInBounds_toArray, List.set_cons_zero, List.set_cons_succ]
    refine wpAnyH_ready (rs := [7]) (by kernel_rfl) (by simp) (AllReadyH.cons rfl (fun K hK => ?_) AllReadyH.nil)
    go_simp
    refine (Sum_oneQ (.slice ax nx cx) ls.flatten _ (HX7.out.below N1) (by have := HLL.out; omega) (HG.out.ext (HE.out.trans N1))).mono ?_
    rintro e m7 ⟨rfl, b3⟩
    have N3 := N1.trans b3
    refine hK.out _ _ (bl_range HB.out N3) (fun hHeld => ?_)
    clear hK K
    try simp only [Act.put, List.getElem_toArray, List.getElem_cons_zero, List.getElem_cons_succ, List.setIfInBounds_toArray, List.set_cons_zero, List.set_cons_succ]
    refine wpAnyH_take (i := 9) (v := .bool true) rfl (by kernel_rfl) (by kernel_rfl) (by kernel_rfl) (fun _ _ _ h => h) (yi_eql _ _ _ _ _ 64 _ (sha512 ls.flatten) (sha512 ls.flatten) true (by rfl) rfl (decide_eq_true (rfl)) Tryd.underlying35 Tryd.underlying5 byte_info byte_cells sig_guard rfl rfl (sha512_length _) (sha512_length _)) hHeld ?_
    simp only [Act.put, List.getElem_toArray, List.getElem_cons_zero, List.getElem_cons_succ, List.setIfInBounds_toArray, List.set_cons_zero, List.set_cons_succ]
    refine wpAnyH_take (i := 10) (v := .bool true) rfl (by kernel_rfl) (by kernel_rfl) (by kernel_rfl) (fun _ _ _ h => h) (yi_pick _ _ _ true _ (by rfl) rfl rfl rfl) hHeld ?_
    simp only [Act.put, List.getElem_toArray, List.getElem_cons_zero, List.getElem_cons_succ, List.setIfInBounds_toArray, List.set_cons_zero, List.set_cons_succ]
    refine wpAnyH_ready (rs := [11]) (by kernel_rfl) (by simp) (AllReadyH.cons rfl (fun K hK => ?_) AllReadyH.nil)
    go_simp
    refine hK.out _ _ (bl_range HB.out N3) (fun hHeld => ?_)
    clear hK K
    try simp only [Act.put, List.getElem_toArray, List.getElem_cons_zero, List.getElem_cons_succ, List.setIfInBounds_toArray, List.set_cons_zero, List.set_cons_succ]
    refine wpAnyH_done (by kernel_rfl) ?_ _
    go_wp2_with fail
    go_ret
    exact ⟨rfl, HE.out.trans N3⟩

end Go.Proofs.YtmadoehajapfhaaDoor
