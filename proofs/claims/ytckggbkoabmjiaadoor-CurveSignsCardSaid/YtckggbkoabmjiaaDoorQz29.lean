/- Texts that belong together, one behind the other. -/
import Derived.Deep.Quiet
import Derived.OrdersHeld
import Derived.Deep.RegionHeld
import Derived.ChangeKeysEq
import Derived.Deep.MidRow
import Derived.WalkKit
import Derived.WalkSpells
import Derived.WalkLawsBesides
import Derived.Lib.Hide
import Derived.Deep.QuietTactic
import Derived.BigQuiet
import Derived.Deep.RegionHeld3
import Derived.Deep.AppendLies
import Derived.OneCell
import Derived.Lib.SlBytesConst
import Derived.KernelRfl
import Derived.Laws.ResultCell
import Derived.Deep.CutRange
import Derived.Lib.AppendZeros
import Derived.ProofKit
import Derived.WalkMore
import Derived.Deep.RegionWith
import Derived.StillTailTactics
import Derived.Laws.Entries
import Derived.Great.BuildSlice
import Derived.ScopeJumps
import Derived.Control
import Derived.Laws.CopyOwn
import Derived.Laws.Slices
import Derived.Laws.Tables
import Derived.Lib.Mul64
import Derived.Laws.Bits64b
import Derived.Laws.Externs
import Derived.Laws.MakeOwn
import Derived.Test.YtckggbkoabmjiaaDoorQz01
import Derived.Test.YtckggbkoabmjiaaDoorQz02
import Derived.Test.YtckggbkoabmjiaaDoorQz09
import Derived.Test.YtckggbkoabmjiaaDoorQz12
import Derived.Test.YtckggbkoabmjiaaDoorQz15
import Derived.Test.YtckggbkoabmjiaaDoorQz16
import Derived.Test.YtckggbkoabmjiaaDoorQz17
import Derived.Test.YtckggbkoabmjiaaDoorQz24
import Derived.Test.YtckggbkoabmjiaaDoorQz25
import Derived.Test.YtckggbkoabmjiaaDoorQz28
namespace Go.Proofs.YtckggbkoabmjiaaDoor
set_option linter.unusedVariables false
set_option linter.unusedSimpArgs false
open Go.RowKit
def bigB (ls : List (List UInt8)) : Bool := decide (30 < ls.length) || ls.any fun x => decide (1000 < x.length)
theorem big_many {ls : List (List UInt8)} (h : 30 < ls.length) : bigB ls = true := by simp [bigB, h]
theorem big_one {ls : List (List UInt8)} {k : Nat} {l : List UInt8} (h : ls[k]? = some l) (hl : 1000 < l.length) : bigB ls = true := by
 unfold bigB
 rw [Bool.or_eq_true]
 right
 rw [List.any_eq_true]
 refine ⟨l, ?_, by simpa using hl⟩
 exact List.mem_of_getElem? h
theorem big_none {ls : List (List UInt8)} (h : ls.length ≤ 30) (hs : ∀ (j : Nat) (l : List UInt8), ls[j]? = some l → l.length ≤ 1000) : bigB ls = false := by
 unfold bigB
 rw [Bool.or_eq_false_iff]
 refine ⟨by simpa using h, ?_⟩
 rw [List.any_eq_false]
 intro x hx
 obtain ⟨j, hj, rfl⟩ := List.getElem_of_mem hx
 have := hs j _ (List.getElem?_eq_getElem hj)
 simpa using this
theorem flat_bound : ∀ (ls : List (List UInt8)), (∀ l ∈ ls, l.length ≤ 1000) → ls.flatten.length ≤ 1000 * ls.length
 | [], _ => by simp
 | l :: r, h => by
  have h1 := h l (List.mem_cons_self ..)
  have h2 := flat_bound r (fun x hx => h x (List.mem_cons_of_mem _ hx))
  simp only [List.flatten_cons, List.length_append, List.length_cons]
  omega
theorem small_flat {ls : List (List UInt8)} (h : bigB ls = false) : ls.flatten.length ≤ 30000 := by
 unfold bigB at h
 rw [Bool.or_eq_false_iff] at h
 have h1 : ls.length ≤ 30 := by simpa using h.1
 have h2 := h.2
 rw [List.any_eq_false] at h2
 have := flat_bound ls (fun l hl => by simpa using h2 l hl)
 omega
theorem small_len {ls : List (List UInt8)} (h : bigB ls = false) : ls.length ≤ 30 := by
 unfold bigB at h
 rw [Bool.or_eq_false_iff] at h
 simpa using h.1
set_option maxRecDepth 100000 in
set_option maxHeartbeats 4000000 in
theorem big_any (v : Value) (ls : List (List UInt8)) (w : World) (hv : RowB w v ls) : Calls Tryd.prog 13 #[v] w fun e w' => e = .returned (.bool (bigB ls)) ∧ w = w' := by
 obtain ⟨vals, hr, hlen, hx⟩ := hv
 obtain ⟨a, cap, rfl, r1, r2, r3, r4⟩ := id hr
 unfold maxLen at r2
 rw [hlen] at r1 ⊢
 have HX := Lib.hid hx
 have HC := Lib.hid r4
 have HLN := Lib.hid hlen
 clear hr hx r3 r4 hlen
 by_cases h30 : 30 < ls.length
 ·have h31 : 30 < (ls.length : Int) := by omega
  rw [big_many h30]
  go_enter Tryd.func13, Tryd.ntmps13
  go_wp2_with fail
  go_ret
  exact ⟨rfl, rfl⟩
 ·have h31 : (ls.length : Int) ≤ 30 := by omega
  have H30 : Hid (ls.length ≤ 30) := Lib.hid (by omega)
  obtain ⟨bb, hbb⟩ : ∃ b, b = bigB ls := ⟨_, rfl⟩
  have HBB := Lib.hid hbb
  rw [← hbb]
  clear h30 hbb
  go_enter Tryd.func13, Tryd.ntmps13
  go_wp2_with fail
  go_loop [3] (fun iv => ∃ k : Nat, k ≤ ls.length ∧ iv = .int .i64 (k : Int) ∧ ∀ (j : Nat) (l : List UInt8), j < k → ls[j]? = some l → l.length ≤ 1000) (fun iv => ls.length - (intOf iv).toNat)
  case atStart => exact ⟨0, Nat.zero_le _, rfl, fun j l hj => by omega⟩
  case round =>
   obtain ⟨k, hk, rfl, hall⟩ := hrel
   have HA := Lib.hid hall
   have k0 : (0 : Int) ≤ (k : Int) := Int.natCast_nonneg _
   clear hall
   by_cases hlk : k < ls.length
   ·have k1 : (k : Int) < (ls.length : Int) := by omega
    obtain ⟨b', off, rfl, hbs, hcell⟩ := HC.out (by intro e; have h := congrArg List.length e; rw [HLN.out] at h; simp only [List.length_nil] at h; omega)
    obtain ⟨xv, hxv⟩ : ∃ x, vals[k]? = some x := ⟨_, List.getElem?_eq_getElem (by rw [HLN.out]; exact hlk)⟩
    obtain ⟨lk, hlk2⟩ : ∃ x, ls[k]? = some x := ⟨_, List.getElem?_eq_getElem hlk⟩
    have c0 : w.cell? ⟨b', off + k, none⟩ = some xv := by
     have h := hcell k (by rw [HLN.out]; exact hlk)
     rw [hxv] at h
     exact h
    obtain ⟨a2, cap2, rfl, s1, s2, s3, s4⟩ := HX.out k xv lk hxv hlk2
    rw [List.length_map] at s1 c0
    unfold maxLen at s2
    have HLK := Lib.hid hlk2
    clear hcell hxv hlk2 s3 s4
    by_cases hbig : 1000 < lk.length
    ·have hbig2 : 1000 < (lk.length : Int) := by omega
     have HBT : Hid (bb = true) := Lib.hid (by rw [HBB.out]; exact big_one HLK.out hbig)
     go_wp2_with fail
     go_ret
     exact ⟨by rw [HBT.out]; rfl, rfl⟩
    ·have hbig2 : (lk.length : Int) ≤ 1000 := by omega
     go_wp2_with fail
     go_round
     case rel =>
      refine ⟨k + 1, by omega, by go_num, fun j l hj hl => ?_⟩
      by_cases hjk : j = k
      ·subst hjk
       have h := HLK.out
       rw [hl] at h
       cases h
       omega
      ·exact HA.out j l (by omega) hl
     case measure => simp [intOf]; omega
   ·have hk2 : (ls.length : Int) ≤ (k : Int) := by omega
    have HBF : Hid (bb = false) := Lib.hid (by
     rw [HBB.out]
     refine big_none H30.out (fun j l hl => HA.out j l ?_ hl)
     rcases Nat.lt_or_ge j ls.length with h | h
     ·omega
     ·rw [List.getElem?_eq_none h] at hl; cases hl)
    go_wp2_with fail
    go_ret
    exact ⟨by rw [HBF.out]; rfl, rfl⟩
set_option maxRecDepth 100000 in
set_option maxHeartbeats 8000000 in
theorem curveSigns_any (sd : List UInt8) (v : Value) (ls : List (List UInt8)) (w : World) (hs : sd.length = 32) (hv : RowB w v ls) (hR : GlobRQ w) (hT : GlobT w) (hG : GlobC w) (hK : GlobK5 w) (hO : GlobO w) (hD : GlobD w) (hX : GlobX w) (hY : GlobY w) : Calls Tryd.prog 4 #[.agg (sd.map bval).toArray, v] w fun e w' => e = .returned (.bool true) ∧ Below w.heap.size w w' := by
 have HSL := Lib.hid hs
 have HRW := Lib.hid hv
 clear hs hv
 have HGR := Lib.hid hR
 have HGT := Lib.hid hT
 have HGC := Lib.hid hG
 have HGK := Lib.hid hK
 have HGO := Lib.hid hO
 have HGD := Lib.hid hD
 have HGX := Lib.hid hX
 have HGY := Lib.hid hY
 clear hR hT hG hK hO hD hX hY
 have HB := Lib.hid (boxes_one w (sd.map bval) 23)
 go_enter Tryd.func4, Tryd.ntmps4
 go_upto_region 1 with (fail)
 obtain ⟨H1, HE⟩ := HB.out
 change Code.wp _ _ _ _ (World.alloc w (.cells (sd.map bval).toArray 23))
 generalize (World.alloc w (.cells (sd.map bval).toArray 23)) = wa at *
 obtain ⟨A, hA⟩ : ∃ A, A = w.heap.size := ⟨_, rfl⟩
 have HAW : Hid (w.heap.size ≤ A) := Lib.hid (by omega)
 rw [← hA] at H1 ⊢
 have H1 := Lib.hid H1
 have HE : Hid (Ext w wa) := Lib.hid HE
 clear hA HB
 go_wp2_with fail
 refine (alive_any13 _ (HGR.out.ext HE.out) (HGT.out.ext HE.out) (HGC.out.ext HE.out)).mono ?_
 rintro e w5 ⟨rfl, hb⟩
 have H1 := Lib.hid (ext_blk H1.out hb)
 have HE := Lib.hid (HE.out.trans hb)
 clear hb
 generalize w5 = w6 at *
 go_wp2_with fail
 refine (big_any v ls _ (HRW.out.below HE.out)).mono ?_
 rintro e w2 ⟨rfl, hw2⟩
 subst hw2
 cases hbig : bigB ls with
 | true =>
  clear hbig
  go_wp2_with fail
  go_ret
  exact ⟨rfl, HE.out⟩
 | false =>
  have HLL := Lib.hid (small_flat hbig)
  have HLN : Hid (ls.length ≤ 1000000) := Lib.hid (by have := small_len hbig; omega)
  clear hbig
  obtain ⟨m, hmm⟩ : ∃ m, m = ls.flatten := ⟨_, rfl⟩
  have HMM := Lib.hid hmm.symm
  clear hmm
  go_wp2_with (first | (refine wpList_load_mid rfl _ _ rfl A 0 rfl _ _ (H1.out.range) Tryd.underlying23 rfl (num_size HSL.out) ?_))
  refine (CSign_num sd v ls _ HSL.out (HRW.out.below HE.out) (by have := HLL.out; omega) HLN.out (HGR.out.ext HE.out) (HGT.out.ext HE.out) (HGC.out.ext HE.out)).mono ?_
  rintro e wp ⟨rfl, hb⟩
  have H1 := Lib.hid (ext_blk H1.out hb)
  have HE := Lib.hid (HE.out.trans hb)
  clear hb
  rw [HMM.out]
  rw [HMM.out] at HLL
  have HLgb := Lib.hid (edSign_length sd m)
  obtain ⟨gb, hnm⟩ : ∃ k, k = edSign sd m := ⟨_, rfl⟩
  rw [← hnm] at HLgb ⊢
  have HNgb := Lib.hid hnm
  clear hnm
  have HZ := Lib.hid (Blk.made wp (ints .u8 (List.replicate 64 0)) 30)
  have HEA := Lib.hid (Ext.alloc wp (.cells (ints .u8 (List.replicate 64 0)).toArray 30))
  have HL : Hid ((gb.map bval).length = (ints .u8 (List.replicate 64 0)).length) := Lib.hid (by rw [List.length_map, HLgb.out]; rfl)
  go_upto_region 6 with (refine wpList_store_blk rfl _ _ _ rfl wp.heap.size (gb.map bval) rfl rfl _ _ HZ.out HL.out (sig_size HLgb.out) (bval_one _) ?_; intro w7 hb hg)
  have HX := Lib.hid (ext_grown HEA.out hg (Nat.le_refl _))
  obtain ⟨pg, hT⟩ : ∃ T, T = wp.heap.size := ⟨_, rfl⟩
  rw [← hT] at hb ⊢
  clear hT
  have H1 := Lib.hid (ext_blk H1.out HX.out)
  have HE := Lib.hid (HE.out.trans HX.out)
  have HVg := Lib.hid hb
  clear hb hg HX HZ HEA HL
  generalize w7 = wg at *
  have HVT : Hid (verB (edPub sd) gb m = true) := Lib.hid (verB_true (by rw [HNgb.out]; exact ver_sign sd m))
  go_wp2_with fail
  have B0 : Ext wg wg.drew := Ext.drew _
  refine wp_region_held_drew (S := fun w' => Ext wg w') (by kernel_rfl) B0 (fun hHeld => ?_)
  refine wpAnyH_take (i := 0) (v := .agg ((gb).map bval).toArray) rfl (by kernel_rfl) (by kernel_rfl) (by kernel_rfl) (fun _ _ _ h => h) (yieldsIf_load_mid (by rfl) _ _ rfl pg 0 rfl _ _ (fun w h => bl_range HVg.out h) Tryd.underlying30 rfl (sig_size HLgb.out)) hHeld ?_
  simp only [Act.put, nrm]
  refine wpAnyH_take (i := 1) (v := .agg ((sd).map bval).toArray) rfl (by kernel_rfl) (by kernel_rfl) (by kernel_rfl) (fun _ _ _ h => h) (yieldsIf_load_mid (by rfl) _ _ rfl A 0 rfl _ _ (fun w h => bl_range H1.out h) Tryd.underlying23 rfl (num_size HSL.out)) hHeld ?_
  simp only [Act.put, nrm]
  refine wpAnyH_take (i := 2) (v := v) rfl (by kernel_rfl) (by kernel_rfl) (by kernel_rfl) (fun _ _ _ h => h) (yi_move _ (v) (by rfl) rfl rfl) hHeld ?_
  simp only [Act.put, nrm]
  refine wpAnyH_ready (rs := [3]) (by kernel_rfl) (by simp) (AllReadyH.cons rfl (fun K hK => ?_) AllReadyH.nil)
  go_simp
  have hj := join_any v ls _ (HRW.out.below (HE.out.trans B0)) (by rw [HMM.out]; have := HLL.out; omega)
  rw [HMM.out] at hj
  refine (hj).mono ?_
  rintro e m1 ⟨x1, rfl, r1, b1⟩
  have r1 : Row1 m1 x1 ((m).map bval) := r1
  obtain ⟨a1, c1, hx1, _⟩ := id r1
  rw [show ((m).map bval).length = m.length from by rw [List.length_map]] at hx1
  subst hx1
  have N1 : Ext wg m1 := B0.trans b1
  refine hK.out _ _ N1 (fun hHeld => ?_)
  clear hK K
  try simp only [Act.put, nrm]
  refine wpAnyH_ready (rs := [4]) (by kernel_rfl) (by simp) (AllReadyH.cons rfl (fun K hK => ?_) AllReadyH.nil)
  go_simp
  have hrs := rsign_f sd m _ _ HSL.out r1 (by have := HLL.out; omega) (HGK.out.ext (HE.out.trans N1)) (HGO.out.ext (HE.out.trans N1)) (HGD.out.ext (HE.out.trans N1)) (HGX.out.ext (HE.out.trans N1)) (HGY.out.ext (HE.out.trans N1))
  rw [← HNgb.out] at hrs
  refine (hrs).mono ?_
  rintro e m2 ⟨rfl, b2⟩
  have r1 := r1.below b2
  have N2 : Ext wg m2 := N1.trans b2
  refine hK.out _ _ N2 (fun hHeld => ?_)
  clear hK K
  try simp only [Act.put, nrm]
  refine wpAnyH_take (i := 5) (v := .bool true) rfl (by kernel_rfl) (by kernel_rfl) (by kernel_rfl) (fun _ _ _ h => h) (yi_eql _ _ _ _ _ 64 _ (gb) (gb) true (by rfl) rfl (decide_eq_true (rfl)) Tryd.underlying30 Tryd.underlying5 num_info num_cells sig_guard rfl rfl (HLgb.out) (HLgb.out)) hHeld ?_
  simp only [Act.put, nrm]
  refine wpAnyH_take (i := 6) (v := .bool true) rfl (by kernel_rfl) (by kernel_rfl) (by kernel_rfl) (fun _ _ _ h => h) (yi_move _ (.bool true) (by rfl) rfl rfl) hHeld ?_
  simp only [Act.put, nrm]
  refine wpAnyH_take (i := 7) (v := .agg ((sd).map bval).toArray) rfl (by kernel_rfl) (by kernel_rfl) (by kernel_rfl) (fun _ _ _ h => h) (yieldsIf_load_mid (by rfl) _ _ rfl A 0 rfl _ _ (fun w h => bl_range H1.out h) Tryd.underlying23 rfl (num_size HSL.out)) hHeld ?_
  simp only [Act.put, nrm]
  refine wpAnyH_take (i := 9) (v := .agg ((gb).map bval).toArray) rfl (by kernel_rfl) (by kernel_rfl) (by kernel_rfl) (fun _ _ _ h => h) (yieldsIf_load_mid (by rfl) _ _ rfl pg 0 rfl _ _ (fun w h => bl_range HVg.out h) Tryd.underlying30 rfl (sig_size HLgb.out)) hHeld ?_
  simp only [Act.put, nrm]
  refine wpAnyH_take (i := 10) (v := v) rfl (by kernel_rfl) (by kernel_rfl) (by kernel_rfl) (fun _ _ _ h => h) (yi_move _ (v) (by rfl) rfl rfl) hHeld ?_
  simp only [Act.put, nrm]
  refine wpAnyH_ready (rs := [8]) (by kernel_rfl) (by simp) (AllReadyH.cons rfl (fun K hK => ?_) AllReadyH.nil)
  go_simp
  refine (CPub_num sd _ HSL.out (HGR.out.ext (HE.out.trans N2)) (HGC.out.ext (HE.out.trans N2))).mono ?_
  rintro e m3 ⟨rfl, b3⟩
  have r1 := r1.below b3
  have N3 : Ext wg m3 := N2.trans b3
  refine hK.out _ _ N3 (fun hHeld => ?_)
  clear hK K
  try simp only [Act.put, nrm]
  refine wpAnyH_ready (rs := [11]) (by kernel_rfl) (by simp) (AllReadyH.cons rfl (fun K hK => ?_) AllReadyH.nil)
  go_simp
  have hve := CVer_num (edPub sd) gb v ls _ (edPub_length _) HLgb.out (HRW.out.below (HE.out.trans N3)) (by rw [HMM.out]; have := HLL.out; omega) HLN.out (HGR.out.ext (HE.out.trans N3)) (HGT.out.ext (HE.out.trans N3)) (HGC.out.ext (HE.out.trans N3))
  rw [HMM.out, HVT.out] at hve
  refine (hve).mono ?_
  rintro e m4 ⟨rfl, b4⟩
  have r1 := r1.below b4
  have N4 : Ext wg m4 := N3.trans b4
  refine hK.out _ _ N4 (fun hHeld => ?_)
  clear hK K
  try simp only [Act.put, nrm]
  refine wpAnyH_take (i := 12) (v := .bool true) rfl (by kernel_rfl) (by kernel_rfl) (by kernel_rfl) (fun _ _ _ h => h) (yi_pick _ _ _ true _ (by rfl) rfl rfl rfl) hHeld ?_
  simp only [Act.put, nrm]
  refine wpAnyH_ready (rs := [13]) (by kernel_rfl) (by simp) (AllReadyH.cons rfl (fun K hK => ?_) AllReadyH.nil)
  go_simp
  refine hK.out _ _ N4 (fun hHeld => ?_)
  clear hK K
  try simp only [Act.put, nrm]
  refine wpAnyH_done (by kernel_rfl) ?_ _
  go_wp2_with fail
  go_ret
  exact ⟨rfl, HE.out.trans N4⟩
end Go.Proofs.YtckggbkoabmjiaaDoor
