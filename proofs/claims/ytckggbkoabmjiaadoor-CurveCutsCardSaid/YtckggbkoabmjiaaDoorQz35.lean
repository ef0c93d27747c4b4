/- Texts that belong together, one behind the other. -/
import Derived.Laws.Slices
import Derived.Deep.Quiet
import Derived.OrdersHeld
import Derived.Deep.RegionHeld
import Derived.ChangeKeysEq
import Derived.Deep.MidRow
import Derived.WalkKit
import Derived.WalkSpells
import Derived.WalkLawsBesides
import Derived.Lib.Hide
import Derived.Deep.QuietTactic
import Derived.BigQuiet
import Derived.Deep.RegionHeld3
import Derived.Deep.AppendLies
import Derived.OneCell
import Derived.Lib.SlBytesConst
import Derived.KernelRfl
import Derived.Laws.ResultCell
import Derived.Deep.CutRange
import Derived.Lib.AppendZeros
import Derived.ProofKit
import Derived.WalkMore
import Derived.Deep.RegionWith
import Derived.StillTailTactics
import Derived.Laws.Entries
import Derived.Great.BuildSlice
import Derived.ScopeJumps
import Derived.Control
import Derived.Laws.CopyOwn
import Derived.Laws.Tables
import Derived.Lib.Mul64
import Derived.Laws.Bits64b
import Derived.Laws.Externs
import Derived.Test.YtckggbkoabmjiaaDoorQz01
import Derived.Test.YtckggbkoabmjiaaDoorQz02
import Derived.Test.YtckggbkoabmjiaaDoorQz03
import Derived.Test.YtckggbkoabmjiaaDoorQz09
import Derived.Test.YtckggbkoabmjiaaDoorQz14
import Derived.Test.YtckggbkoabmjiaaDoorQz15
import Derived.Test.YtckggbkoabmjiaaDoorQz24
import Derived.Test.YtckggbkoabmjiaaDoorQz26
namespace Go.Proofs.YtckggbkoabmjiaaDoor
set_option linter.unusedVariables false
set_option linter.unusedSimpArgs false
open Go.RowKit
section
section
variable {P : Program} {w : World}
theorem row_sliced {a : Option Addr} {cap : Nat} {vs : List Value} (h : Row1 w (.slice a vs.length cap) vs) (i k : Nat) (hik : i ≤ k) (hk : k ≤ vs.length) : Row1 w (sliced a i k cap 1) ((vs.drop i).take (k - i)) := by
 obtain ⟨a0, cap0, e0, h1, h2, h3, h4⟩ := h
 cases e0
 have hl : ((vs.drop i).take (k - i)).length = k - i := by simp; omega
 unfold sliced
 by_cases hc : cap = i
 ·rw [if_pos hc]
  have hv : (vs.drop i).take (k - i) = [] := List.eq_nil_of_length_eq_zero (by omega)
  rw [hv]
  refine ⟨a, cap - i, by rw [show k - i = 0 from by omega]; rfl, Nat.zero_le _, by omega, fun e => by have := h3 e; omega, fun h => absurd rfl h⟩
 ·rw [if_neg hc]
  refine ⟨a.map (·.add (i * 1)), cap - i, by rw [hl], by rw [hl]; omega, by omega, fun e => ?_, fun hne => ?_⟩
  ·cases a with
   | none => have := h3 rfl; omega
   | some a => cases e
  ·have hne2 : vs ≠ [] := by rintro rfl; simp at hne
   obtain ⟨b, off, rfl, g1, g2⟩ := h4 hne2
   refine ⟨b, off + i, by rw [Option.map_some, WideShapes.add_plain, Nat.mul_one], g1, fun j hj => ?_⟩
   rw [hl] at hj
   rw [Nat.add_assoc, g2 (i + j) (by omega), List.getElem?_take, if_pos hj, List.getElem?_drop]
theorem row_upto {t e : TypeId} (ht : P.underlying t = some (.slice e)) (hs : ∀ w, (sizeOf e).run P w = .ok 1 w) {v : Value} {vs : List Value} (h : Row1 w v vs) (k : Nat) (hk : k ≤ vs.length) :
  ∃ v', Row1 w v' (vs.take k) ∧ ∀ w', (Instr.sliceAt t v none (some (.int .i64 (k : Int))) none).run P w' = .ok v' w' := by
 obtain ⟨a, cap, rfl, h1, _⟩ := id h
 have e2 : P.elem t = e := by unfold Program.elem; rw [ht]
 have ht2 : P.underlying t = some (.slice (P.elem t)) := by rw [e2]; exact ht
 refine ⟨sliced a 0 k cap 1, by simpa using row_sliced h 0 k (Nat.zero_le _) hk, fun w' => ?_⟩
 rw [run_sliceAt_slice w' t _ _ _ _ ht2, run_slice_h (ht := ht2) (kh := .i64) (h := (k : Int)) (h0 := by omega) (h2 := by omega), e2, hs]
 simp
end
end
theorem csign_rows (sd m : List UInt8) (v : Value) (ls : List (List UInt8)) (w : World) (hs : sd.length = 32) (hv : RowB w v ls) (hf : ls.flatten = m) (hl : m.length ≤ 1000000000000) (hc : ls.length ≤ 1000000) (hR : GlobRQ w) (hT : GlobT w) (hG : GlobC w) :
  Calls Tryd.prog 14 #[.agg (sd.map bval).toArray, v] w fun e w' => e = .returned (.agg ((edSign sd m).map bval).toArray) ∧ Below w.heap.size w w' := by
 subst hf
 exact CSign_num sd v ls w hs hv hl hc hR hT hG
set_option maxRecDepth 100000 in
set_option maxHeartbeats 8000000 in
theorem curveCuts_any (sd : List UInt8) (v : Value) (m : List UInt8) (i : Int) (w : World) (ha : sd.length = 32) (ht : Row1 w v (m.map bval)) (hR : GlobRQ w) (hT : GlobT w) (hG : GlobC w) : Calls Tryd.prog 6 #[.agg (sd.map bval).toArray, v, .int .i64 i] w fun e w' => e = .returned (.bool true) ∧ Below w.heap.size w w' := by
 have HAL := Lib.hid ha
 clear ha
 obtain ⟨tA, tC, hform, hlc, hcm, _⟩ := id ht
 rw [List.length_map] at hform hlc
 subst hform
 unfold maxLen at hcm
 have Ht := Lib.hid ht
 clear ht
 obtain ⟨iq, hq0, hq1, hq2⟩ := info_two (P := Tryd.prog) (t := 33) (z := .slice none 0 0) (n := 1) (by kernel_rfl)
 have HQ0 := Lib.hid hq0
 have HQ1 := Lib.hid hq1
 have HQ2 := Lib.hid hq2
 clear hq0 hq1 hq2
 have HGR := Lib.hid hR
 have HGT := Lib.hid hT
 have HGC := Lib.hid hG
 clear hR hT hG
 have HB := Lib.hid (boxes_one w (sd.map bval) 23)
 go_enter Tryd.func6, Tryd.ntmps6
 go_upto_region 1 with (fail)
 obtain ⟨H1, HE⟩ := HB.out
 change Code.wp _ _ _ _ (World.alloc w (.cells (sd.map bval).toArray 23))
 generalize (World.alloc w (.cells (sd.map bval).toArray 23)) = wa at *
 obtain ⟨A, hA⟩ : ∃ A, A = w.heap.size := ⟨_, rfl⟩
 have HAW : Hid (w.heap.size ≤ A) := Lib.hid (by omega)
 rw [← hA] at H1 ⊢
 have H1 := Lib.hid H1
 have HE : Hid (Ext w wa) := Lib.hid HE
 clear hA HB
 go_wp2_with fail
 refine (alive_any13 _ (HGR.out.ext HE.out) (HGT.out.ext HE.out) (HGC.out.ext HE.out)).mono ?_
 rintro e w5 ⟨rfl, hb⟩
 have H1 := Lib.hid (ext_blk H1.out hb)
 have HE := Lib.hid (HE.out.trans hb)
 clear hb
 generalize w5 = w6 at *
 by_cases h3 : 300 < m.length
 ·have h3' : (300 : Int) < (m.length : Int) := by omega
  go_wp2_with fail
  go_ret
  exact ⟨rfl, HE.out⟩
 ·have h3' : (m.length : Int) ≤ 300 := by omega
  have d3 : decide (300 < (m.length : Int)) = false := decide_eq_false (by omega)
  have HLS : Hid (m.length ≤ 300) := Lib.hid (by omega)
  clear h3
  by_cases hi : i < 0
  ·skip
   go_wp2_with fail
   go_ret
   exact ⟨rfl, HE.out⟩
  ·have hi0 : 0 ≤ i := by omega
   have di0 : decide (i < 0) = false := decide_eq_false hi
   by_cases hj : (m.length : Int) < i
   ·skip
    go_wp2_with fail
    go_ret
    exact ⟨rfl, HE.out⟩
   ·obtain ⟨k, rfl⟩ : ∃ k : Nat, i = (k : Int) := ⟨i.toNat, by omega⟩
    have hk : k ≤ m.length := by omega
    have dj0 : decide ((m.length : Int) < (k : Int)) = false := decide_eq_false hj
    have hk' : (k : Int) ≤ (m.length : Int) := by omega
    have hmk : (k : Int) ≤ (m.length : Int) := hk'
    obtain ⟨v1, hr1, sl1⟩ := row_upto Tryd.underlying33 Tryd.sizeOf5 Ht.out k (by rw [List.length_map]; exact hk)
    obtain ⟨v2, hr2, sl2⟩ := row_cut Tryd.underlying33 Tryd.sizeOf5 Ht.out k (by rw [List.length_map]; exact hk)
    rw [← List.map_take] at hr1
    rw [← List.map_drop] at hr2
    obtain ⟨ml, hml⟩ : ∃ l, l = m.take k := ⟨_, rfl⟩
    obtain ⟨mr, hmr⟩ : ∃ l, l = m.drop k := ⟨_, rfl⟩
    have HF2 : Hid ([ml, mr].flatten = m) := Lib.hid (by rw [hml, hmr]; simp)
    have HF3 : Hid ([ml, [], mr].flatten = m) := Lib.hid (by rw [hml, hmr]; simp)
    rw [← hml] at hr1
    rw [← hmr] at hr2
    obtain ⟨a1, c1, hv1, _⟩ := id hr1
    obtain ⟨a2, c2, hv2, _⟩ := id hr2
    rw [List.length_map] at hv1 hv2
    obtain ⟨n1, hn1⟩ : ∃ n, n = ml.length := ⟨_, rfl⟩
    obtain ⟨n2, hn2⟩ : ∃ n, n = mr.length := ⟨_, rfl⟩
    rw [← hn1] at hv1
    rw [← hn2] at hv2
    subst hv1 hv2
    have HR1 := Lib.hid hr1
    have HR2 := Lib.hid hr2
    have HS1 := Lib.hid sl1
    have HS2 := Lib.hid sl2
    clear hml hmr hn1 hn2 hr1 hr2 sl1 sl2
    go_wp2_with (first | (refine wpList_load_mid rfl _ _ rfl A 0 rfl _ _ (H1.out.range) Tryd.underlying23 rfl (num_size HAL.out) ?_))
    refine (csign_one sd m _ _ HAL.out (Ht.out.below HE.out) (by have := HLS.out; omega) (HGR.out.ext HE.out) (HGT.out.ext HE.out) (HGC.out.ext HE.out)).mono ?_
    rintro e wp ⟨rfl, hb⟩
    have H1 := Lib.hid (ext_blk H1.out hb)
    have HE := Lib.hid (HE.out.trans hb)
    clear hb
    have HLgb := Lib.hid (edSign_length sd m)
    obtain ⟨gb, hnm⟩ : ∃ k, k = edSign sd m := ⟨_, rfl⟩
    rw [← hnm] at HLgb ⊢
    have HNgb := Lib.hid hnm
    clear hnm
    have HZ := Lib.hid (Blk.made wp (ints .u8 (List.replicate 64 0)) 30)
    have HEA := Lib.hid (Ext.alloc wp (.cells (ints .u8 (List.replicate 64 0)).toArray 30))
    have HL : Hid ((gb.map bval).length = (ints .u8 (List.replicate 64 0)).length) := Lib.hid (by rw [List.length_map, HLgb.out]; rfl)
    go_upto_region 5 with (refine wpList_store_blk rfl _ _ _ rfl wp.heap.size (gb.map bval) rfl rfl _ _ HZ.out HL.out (sig_size HLgb.out) (bval_one _) ?_; intro w7 hb hg)
    have HX := Lib.hid (ext_grown HEA.out hg (Nat.le_refl _))
    obtain ⟨pg, hT⟩ : ∃ T, T = wp.heap.size := ⟨_, rfl⟩
    rw [← hT] at hb ⊢
    clear hT
    have H1 := Lib.hid (ext_blk H1.out HX.out)
    have HE := Lib.hid (HE.out.trans HX.out)
    have HVg := Lib.hid hb
    clear hb hg HX HZ HEA HL
    generalize w7 = wg at *
    have HVT : Hid (verB (edPub sd) gb m = true) := Lib.hid (verB_true (by rw [HNgb.out]; exact ver_sign sd m))
    go_wp2_with fail
    have B0 : Ext wg wg.drew := Ext.drew _
    refine wp_region_held_drew (S := fun w' => Ext wg w') (by kernel_rfl) B0 (fun hHeld => ?_)
    refine wpAnyH_take (i := 0) (v := .agg ((gb).map bval).toArray) rfl (by kernel_rfl) (by kernel_rfl) (by kernel_rfl) (fun _ _ _ h => h) (yieldsIf_load_mid (by rfl) _ _ rfl pg 0 rfl _ _ (fun w h => bl_range HVg.out h) Tryd.underlying30 rfl (sig_size HLgb.out)) hHeld ?_
    simp only [Act.put, nrm]
    refine wpAnyH_take (i := 1) (v := .agg ((sd).map bval).toArray) rfl (by kernel_rfl) (by kernel_rfl) (by kernel_rfl) (fun _ _ _ h => h) (yieldsIf_load_mid (by rfl) _ _ rfl A 0 rfl _ _ (fun w h => bl_range H1.out h) Tryd.underlying23 rfl (num_size HAL.out)) hHeld ?_
    simp only [Act.put, nrm]
    refine wpAnyH_take (i := 2) (v := .slice tA m.length tC) rfl (by kernel_rfl) (by kernel_rfl) (by kernel_rfl) (fun _ _ _ h => h) (yi_move _ (.slice tA m.length tC) (by rfl) rfl rfl) hHeld ?_
    simp only [Act.put, nrm]
    refine wpAnyH_take (i := 3) (v := .int .i64 (k : Int)) rfl (by kernel_rfl) (by kernel_rfl) (by kernel_rfl) (fun _ _ _ h => h) (yi_move _ (.int .i64 (k : Int)) (by rfl) rfl rfl) hHeld ?_
    simp only [Act.put, nrm]
    refine wpAnyH_take (i := 4) (v := .slice a1 n1 c1) rfl (by kernel_rfl) (by kernel_rfl) (by kernel_rfl) (fun _ _ _ h => h) (yi_slice _ _ _ _ (.slice tA m.length tC) (.slice a1 n1 c1) none (some (.int .i64 (k : Int))) (by rfl) rfl rfl rfl rfl HS1.out) hHeld ?_
    simp only [Act.put, nrm]
    refine wpAnyH_take (i := 5) (v := .slice tA m.length tC) rfl (by kernel_rfl) (by kernel_rfl) (by kernel_rfl) (fun _ _ _ h => h) (yi_move _ (.slice tA m.length tC) (by rfl) rfl rfl) hHeld ?_
    simp only [Act.put, nrm]
    refine wpAnyH_take (i := 6) (v := .int .i64 (k : Int)) rfl (by kernel_rfl) (by kernel_rfl) (by kernel_rfl) (fun _ _ _ h => h) (yi_move _ (.int .i64 (k : Int)) (by rfl) rfl rfl) hHeld ?_
    simp only [Act.put, nrm]
    refine wpAnyH_take (i := 7) (v := .slice a2 n2 c2) rfl (by kernel_rfl) (by kernel_rfl) (by kernel_rfl) (fun _ _ _ h => h) (yi_slice _ _ _ _ (.slice tA m.length tC) (.slice a2 n2 c2) (some (.int .i64 (k : Int))) none (by rfl) rfl rfl rfl rfl HS2.out) hHeld ?_
    simp only [Act.put, nrm]
    refine wpAnyH_ready (rs := [8]) (by kernel_rfl) (by simp) (AllReadyH.cons rfl (fun K hK => ?_) AllReadyH.nil)
    refine step_wp (by rfl) ?_
    refine wp_buildSlice_d (some 40) _ _ _ _ rfl rfl #[.slice a1 n1 c1, .slice a2 n2 c2] iq (.slice none 0 0) Tryd.underlying27 HQ0.out HQ1.out (by rw [HQ2.out]; decide) (by rw [HQ2.out]; decide) (by rw [HQ2.out]; kernel_rfl) ?_
    obtain ⟨m1, hm1⟩ : ∃ wNew, wNew = World.alloc wg.drew (.cells #[.slice a1 n1 c1, .slice a2 n2 c2] 33) := ⟨_, rfl⟩
    rw [← hm1]
    have b1 : Ext wg.drew m1 := by rw [hm1]; exact Ext.alloc _ _
    obtain ⟨g1, hg1⟩ : ∃ gNew, gNew = (wg.drew).heap.size := ⟨_, rfl⟩
    rw [← hg1]
    have r1 : Row1 m1 (.slice (some ⟨g1, 0, none⟩) 2 2) [.slice a1 n1 c1, .slice a2 n2 c2] := by rw [hm1, hg1]; exact Row1.made _ _ _ _ _ _ rfl rfl rfl (by unfold maxLen; omega)
    clear hm1 hg1
    have N1 : Ext wg m1 := B0.trans b1
    refine hK.out _ _ N1 (fun hHeld => ?_)
    clear hK K
    try simp only [Act.put, nrm]
    refine wpAnyH_ready (rs := [9]) (by kernel_rfl) (by simp) (AllReadyH.cons rfl (fun K hK => ?_) AllReadyH.nil)
    go_simp
    have hsg := csign_rows sd m _ [ml, mr] _ HAL.out (rowB2 r1 ((HR1.out.below HE.out).below N1) ((HR2.out.below HE.out).below N1)) HF2.out (by have := HLS.out; omega) (by simp) (HGR.out.ext (HE.out.trans N1)) (HGT.out.ext (HE.out.trans N1)) (HGC.out.ext (HE.out.trans N1))
    rw [← HNgb.out] at hsg
    refine (hsg).mono ?_
    rintro e m2 ⟨rfl, b2⟩
    have r1 := r1.below b2
    have N2 : Ext wg m2 := N1.trans b2
    refine hK.out _ _ N2 (fun hHeld => ?_)
    clear hK K
    try simp only [Act.put, nrm]
    refine wpAnyH_take (i := 10) (v := .bool true) rfl (by kernel_rfl) (by kernel_rfl) (by kernel_rfl) (fun _ _ _ h => h) (yi_eql _ _ _ _ _ 64 _ (gb) (gb) true (by rfl) rfl (decide_eq_true (rfl)) Tryd.underlying30 Tryd.underlying5 num_info num_cells sig_guard rfl rfl (HLgb.out) (HLgb.out)) hHeld ?_
    simp only [Act.put, nrm]
    refine wpAnyH_take (i := 11) (v := .bool true) rfl (by kernel_rfl) (by kernel_rfl) (by kernel_rfl) (fun _ _ _ h => h) (yi_move _ (.bool true) (by rfl) rfl rfl) hHeld ?_
    simp only [Act.put, nrm]
    refine wpAnyH_take (i := 12) (v := .agg ((sd).map bval).toArray) rfl (by kernel_rfl) (by kernel_rfl) (by kernel_rfl) (fun _ _ _ h => h) (yieldsIf_load_mid (by rfl) _ _ rfl A 0 rfl _ _ (fun w h => bl_range H1.out h) Tryd.underlying23 rfl (num_size HAL.out)) hHeld ?_
    simp only [Act.put, nrm]
    refine wpAnyH_take (i := 14) (v := .agg ((gb).map bval).toArray) rfl (by kernel_rfl) (by kernel_rfl) (by kernel_rfl) (fun _ _ _ h => h) (yieldsIf_load_mid (by rfl) _ _ rfl pg 0 rfl _ _ (fun w h => bl_range HVg.out h) Tryd.underlying30 rfl (sig_size HLgb.out)) hHeld ?_
    simp only [Act.put, nrm]
    refine wpAnyH_take (i := 15) (v := .slice tA m.length tC) rfl (by kernel_rfl) (by kernel_rfl) (by kernel_rfl) (fun _ _ _ h => h) (yi_move _ (.slice tA m.length tC) (by rfl) rfl rfl) hHeld ?_
    simp only [Act.put, nrm]
    refine wpAnyH_take (i := 16) (v := .int .i64 (k : Int)) rfl (by kernel_rfl) (by kernel_rfl) (by kernel_rfl) (fun _ _ _ h => h) (yi_move _ (.int .i64 (k : Int)) (by rfl) rfl rfl) hHeld ?_
    simp only [Act.put, nrm]
    refine wpAnyH_take (i := 17) (v := .slice a1 n1 c1) rfl (by kernel_rfl) (by kernel_rfl) (by kernel_rfl) (fun _ _ _ h => h) (yi_slice _ _ _ _ (.slice tA m.length tC) (.slice a1 n1 c1) none (some (.int .i64 (k : Int))) (by rfl) rfl rfl rfl rfl HS1.out) hHeld ?_
    simp only [Act.put, nrm]
    refine wpAnyH_take (i := 18) (v := .slice tA m.length tC) rfl (by kernel_rfl) (by kernel_rfl) (by kernel_rfl) (fun _ _ _ h => h) (yi_move _ (.slice tA m.length tC) (by rfl) rfl rfl) hHeld ?_
    simp only [Act.put, nrm]
    refine wpAnyH_take (i := 19) (v := .int .i64 (k : Int)) rfl (by kernel_rfl) (by kernel_rfl) (by kernel_rfl) (fun _ _ _ h => h) (yi_move _ (.int .i64 (k : Int)) (by rfl) rfl rfl) hHeld ?_
    simp only [Act.put, nrm]
    refine wpAnyH_take (i := 20) (v := .slice a2 n2 c2) rfl (by kernel_rfl) (by kernel_rfl) (by kernel_rfl) (fun _ _ _ h => h) (yi_slice _ _ _ _ (.slice tA m.length tC) (.slice a2 n2 c2) (some (.int .i64 (k : Int))) none (by rfl) rfl rfl rfl rfl HS2.out) hHeld ?_
    simp only [Act.put, nrm]
    refine wpAnyH_ready (rs := [13, 21]) (by kernel_rfl) (by simp) (AllReadyH.cons rfl (fun K hK => ?_) (AllReadyH.cons rfl (fun K hK => ?_) AllReadyH.nil))
    ·go_simp
     refine (CPub_num sd _ HAL.out (HGR.out.ext (HE.out.trans N2)) (HGC.out.ext (HE.out.trans N2))).mono ?_
     rintro e m3 ⟨rfl, b3⟩
     have r1 := r1.below b3
     have N3 : Ext wg m3 := N2.trans b3
     refine hK.out _ _ N3 (fun hHeld => ?_)
     clear hK K
     try simp only [Act.put, nrm]
     refine wpAnyH_ready (rs := [21]) (by kernel_rfl) (by simp) (AllReadyH.cons rfl (fun K hK => ?_) AllReadyH.nil)
     refine step_wp (by rfl) ?_
     refine wp_buildSlice_d (some 53) _ _ _ _ rfl rfl #[.slice a1 n1 c1, .slice none 0 0, .slice a2 n2 c2] iq (.slice none 0 0) Tryd.underlying27 HQ0.out HQ1.out (by rw [HQ2.out]; decide) (by rw [HQ2.out]; decide) (by rw [HQ2.out]; kernel_rfl) ?_
     obtain ⟨m4, hm4⟩ : ∃ wNew, wNew = World.alloc m3 (.cells #[.slice a1 n1 c1, .slice none 0 0, .slice a2 n2 c2] 33) := ⟨_, rfl⟩
     rw [← hm4]
     have b4 : Ext m3 m4 := by rw [hm4]; exact Ext.alloc _ _
     obtain ⟨g4, hg4⟩ : ∃ gNew, gNew = (m3).heap.size := ⟨_, rfl⟩
     rw [← hg4]
     have r1 := r1.below b4
     have r4 : Row1 m4 (.slice (some ⟨g4, 0, none⟩) 3 3) [.slice a1 n1 c1, .slice none 0 0, .slice a2 n2 c2] := by rw [hm4, hg4]; exact Row1.made _ _ _ _ _ _ rfl rfl rfl (by unfold maxLen; omega)
     clear hm4 hg4
     have N4 : Ext wg m4 := N3.trans b4
     refine hK.out _ _ N4 (fun hHeld => ?_)
     clear hK K
     try simp only [Act.put, nrm]
     refine wpAnyH_ready (rs := [22]) (by kernel_rfl) (by simp) (AllReadyH.cons rfl (fun K hK => ?_) AllReadyH.nil)
     go_simp
     have hve := cver_rows (edPub sd) gb m _ [ml, [], mr] _ (edPub_length _) HLgb.out (rowB3 r4 ((HR1.out.below HE.out).below N4) (Row1.nil _) ((HR2.out.below HE.out).below N4)) HF3.out (by have := HLS.out; omega) (by simp) (HGR.out.ext (HE.out.trans N4)) (HGT.out.ext (HE.out.trans N4)) (HGC.out.ext (HE.out.trans N4))
     rw [HVT.out] at hve
     refine (hve).mono ?_
     rintro e m5 ⟨rfl, b5⟩
     have r1 := r1.below b5
     have r4 := r4.below b5
     have N5 : Ext wg m5 := N4.trans b5
     refine hK.out _ _ N5 (fun hHeld => ?_)
     clear hK K
     try simp only [Act.put, nrm]
     refine wpAnyH_take (i := 23) (v := .bool true) rfl (by kernel_rfl) (by kernel_rfl) (by kernel_rfl) (fun _ _ _ h => h) (yi_pick _ _ _ true _ (by rfl) rfl rfl rfl) hHeld ?_
     simp only [Act.put, nrm]
     refine wpAnyH_ready (rs := [24]) (by kernel_rfl) (by simp) (AllReadyH.cons rfl (fun K hK => ?_) AllReadyH.nil)
     go_simp
     refine hK.out _ _ N5 (fun hHeld => ?_)
     clear hK K
     try simp only [Act.put, nrm]
     refine wpAnyH_done (by kernel_rfl) ?_ _
     go_wp2_with fail
     go_ret
     exact ⟨rfl, HE.out.trans N5⟩
    ·refine step_wp (by rfl) ?_
     refine wp_buildSlice_d (some 53) _ _ _ _ rfl rfl #[.slice a1 n1 c1, .slice none 0 0, .slice a2 n2 c2] iq (.slice none 0 0) Tryd.underlying27 HQ0.out HQ1.out (by rw [HQ2.out]; decide) (by rw [HQ2.out]; decide) (by rw [HQ2.out]; kernel_rfl) ?_
     obtain ⟨m3, hm3⟩ : ∃ wNew, wNew = World.alloc m2 (.cells #[.slice a1 n1 c1, .slice none 0 0, .slice a2 n2 c2] 33) := ⟨_, rfl⟩
     rw [← hm3]
     have b3 : Ext m2 m3 := by rw [hm3]; exact Ext.alloc _ _
     obtain ⟨g3, hg3⟩ : ∃ gNew, gNew = (m2).heap.size := ⟨_, rfl⟩
     rw [← hg3]
     have r1 := r1.below b3
     have r3 : Row1 m3 (.slice (some ⟨g3, 0, none⟩) 3 3) [.slice a1 n1 c1, .slice none 0 0, .slice a2 n2 c2] := by rw [hm3, hg3]; exact Row1.made _ _ _ _ _ _ rfl rfl rfl (by unfold maxLen; omega)
     clear hm3 hg3
     have N3 : Ext wg m3 := N2.trans b3
     refine hK.out _ _ N3 (fun hHeld => ?_)
     clear hK K
     try simp only [Act.put, nrm]
     refine wpAnyH_ready (rs := [13]) (by kernel_rfl) (by simp) (AllReadyH.cons rfl (fun K hK => ?_) AllReadyH.nil)
     go_simp
     refine (CPub_num sd _ HAL.out (HGR.out.ext (HE.out.trans N3)) (HGC.out.ext (HE.out.trans N3))).mono ?_
     rintro e m4 ⟨rfl, b4⟩
     have r1 := r1.below b4
     have r3 := r3.below b4
     have N4 : Ext wg m4 := N3.trans b4
     refine hK.out _ _ N4 (fun hHeld => ?_)
     clear hK K
     try simp only [Act.put, nrm]
     refine wpAnyH_ready (rs := [22]) (by kernel_rfl) (by simp) (AllReadyH.cons rfl (fun K hK => ?_) AllReadyH.nil)
     go_simp
     have hve := cver_rows (edPub sd) gb m _ [ml, [], mr] _ (edPub_length _) HLgb.out (rowB3 r3 ((HR1.out.below HE.out).below N4) (Row1.nil _) ((HR2.out.below HE.out).below N4)) HF3.out (by have := HLS.out; omega) (by simp) (HGR.out.ext (HE.out.trans N4)) (HGT.out.ext (HE.out.trans N4)) (HGC.out.ext (HE.out.trans N4))
     rw [HVT.out] at hve
     refine (hve).mono ?_
     rintro e m5 ⟨rfl, b5⟩
     have r1 := r1.below b5
     have r3 := r3.below b5
     have N5 : Ext wg m5 := N4.trans b5
     refine hK.out _ _ N5 (fun hHeld => ?_)
     clear hK K
     try simp only [Act.put, nrm]
     refine wpAnyH_take (i := 23) (v := .bool true) rfl (by kernel_rfl) (by kernel_rfl) (by kernel_rfl) (fun _ _ _ h => h) (yi_pick _ _ _ true _ (by rfl) rfl rfl rfl) hHeld ?_
     simp only [Act.put, nrm]
     refine wpAnyH_ready (rs := [24]) (by kernel_rfl) (by simp) (AllReadyH.cons rfl (fun K hK => ?_) AllReadyH.nil)
     go_simp
     refine hK.out _ _ N5 (fun hHeld => ?_)
     clear hK K
     try simp only [Act.put, nrm]
     refine wpAnyH_done (by kernel_rfl) ?_ _
     go_wp2_with fail
     go_ret
     exact ⟨rfl, HE.out.trans N5⟩
end Go.Proofs.YtckggbkoabmjiaaDoor
