/- Texts that belong together, one behind the other; each says in its own first remark what it shows. -/
import Derived.Test.YtjnnhkodkbhbbaaAllC3

/- ImagePlaces walks to true. Laid by wip/gen/gimgl6.py. Each theorem names its own conditions. -/
namespace Go.Proofs.Ytjnnhkodkbhbbaa
open Go.RowKit
set_option linter.unusedVariables false
set_option linter.unusedSimpArgs false

set_option maxRecDepth 100000 in
set_option maxHeartbeats 8000000 in
theorem imgPlaces_any (SI : ImgSaid) (key other : List UInt8) (ver i u k : Int) (p : List UInt8) (pv : Value) (w : World) (hk : key.length = 32) (ho : other.length = 32) (hp : Row1 w pv (p.map bval)) :
    Calls Try.prog 6 #[.agg (key.map bval).toArray, .agg (other.map bval).toArray, .int .i64 ver, .int .i64 i, .int .i64 u, .int .i64 k, pv] w fun e w' => e = .returned (.bool true) ∧ Below w.heap.size w w' := by
  obtain ⟨ap, cp, hpv, -⟩ := id hp
  rw [List.length_map] at hpv
  obtain ⟨pn, hpn⟩ : ∃ n, n = p.length := ⟨_, rfl⟩
  rw [← hpn] at hpv
  subst hpv
  have HSI := Lib.hid SI
  have HKL := Lib.hid hk
  have HOL := Lib.hid ho
  have HIK := Lib.hid (num_size hk)
  have HIO := Lib.hid (num_size ho)
  have HPV := Lib.hid hp
  have HPN := Lib.hid hpn
  clear hk ho hp hpn SI
  have HB := Lib.hid (boxes2 w (key.map bval) (other.map bval) 34 34)
  go_enter Try.func6, Try.ntmps6
  go_upto_region 1 with (fail)
  obtain ⟨h0, h1, hE⟩ := HB.out
  change Code.wp _ _ _ _ ((w.alloc (.cells (key.map bval).toArray 34)).alloc (.cells (other.map bval).toArray 34))
  generalize (w.alloc (.cells (key.map bval).toArray 34)).alloc (.cells (other.map bval).toArray 34) = wa at *
  obtain ⟨D, hD⟩ : ∃ X, X = w.heap.size + 1 := ⟨_, rfl⟩
  rw [← hD] at h1 ⊢
  obtain ⟨A, hA⟩ : ∃ X, X = w.heap.size := ⟨_, rfl⟩
  rw [← hA] at h0 ⊢
  have HA := Lib.hid h0
  have HD := Lib.hid h1
  have HE : Hid (Ext w wa) := Lib.hid hE
  have HO : Hid (w.heap.size = A ∧ A < D) := Lib.hid (by omega)
  clear HB hE h0 h1 hA hD
  have HAL := Lib.hid (alive_any18 HSI.out wa)
  go_wp2_with fail
  refine HAL.out.mono ?_
  rintro e w1 ⟨rfl, hb⟩
  have HA := Lib.hid (ext_blk HA.out hb)
  have HD := Lib.hid (ext_blk HD.out hb)
  have HE : Hid (Ext w w1) := Lib.hid (HE.out.trans hb)
  clear hb HAL
  by_cases h1 : ver < 0
  · have g1 : decide (ver < 0) = true := decide_eq_true h1
    go_wp2_with fail
    go_ret
    exact ⟨rfl, HE.out⟩
  have g1 : decide (ver < 0) = false := decide_eq_false h1
  by_cases h2 : 1073741824 < ver
  · have g2 : decide (1073741824 < ver) = true := decide_eq_true h2
    go_wp2_with fail
    go_ret
    exact ⟨rfl, HE.out⟩
  have g2 : decide (1073741824 < ver) = false := decide_eq_false h2
  by_cases h3 : i < 0
  · have g3 : decide (i < 0) = true := decide_eq_true h3
    go_wp2_with fail
    go_ret
    exact ⟨rfl, HE.out⟩
  have g3 : decide (i < 0) = false := decide_eq_false h3
  by_cases h4 : 31 < i
  · have g4 : decide (31 < i) = true := decide_eq_true h4
    go_wp2_with fail
    go_ret
    exact ⟨rfl, HE.out⟩
  have g4 : decide (31 < i) = false := decide_eq_false h4
  by_cases h5 : pn ≠ 64
  · have g5 : ((pn : Int) != 64) = true := by simp; omega
    go_wp2_with fail
    go_ret
    exact ⟨rfl, HE.out⟩
  obtain rfl : pn = 64 := by omega
  obtain ⟨j, rfl⟩ : ∃ j : Nat, i = (j : Int) := ⟨i.toNat, by omega⟩
  have HPL : Hid (p.length = 64) := Lib.hid (by rw [← HPN.out])
  have HSM := Lib.hid (smallB_of (n := ver) (by omega) (by omega))
  have HJ : Hid (j ≤ 31) := Lib.hid (by omega)
  have HIM : Hid (imgB ver (j : Int) p.length 64 = true) := Lib.hid (imgB_of HSM.out (by omega) (by omega) HPL.out)
  have hsea := HSI.out.sea key ver (j : Int) p _ w1 HKL.out (HPV.out.below HE.out) (by rw [HPL.out]; decide)
  have hopn := opn_seal (key := key) (i := j) HSM.out HJ.out HPL.out
  have q1 : selE ver (j : Int) p.length 64 = 0 := if_pos HIM.out
  have q2 : selL key ver (j : Int) p = blkS key ver j p := by
    unfold selL
    rw [if_pos HIM.out, Int.toNat_natCast]
  rw [q1, q2] at hsea
  have hc80 : (blkS key ver j p).length = 80 := blkS_length HPL.out
  obtain ⟨c, hc⟩ : ∃ c, c = blkS key ver j p := ⟨_, rfl⟩
  rw [← hc] at hsea hopn hc80
  have HS := Lib.hid hsea
  have HOS := Lib.hid hopn
  have HCL := Lib.hid hc80
  clear hsea hopn hc80 q1 q2 hc HIM HSM HPN
  go_upto_region 4 with (fail)
  clear g1 g2 g3 g4 h1 h2 h3 h4 h5
  go_wp2_with (refine wpList_load_blk rfl _ _ rfl A rfl _ _ _ _ HA.out Try.underlying34 HIK.out ?_)
  refine HS.out.mono ?_
  rintro e w2 ⟨cv, rfl, hr, hb⟩
  have HC := Lib.hid (Row1.of_own hr)
  have HA := Lib.hid (ext_blk HA.out hb)
  have HD := Lib.hid (ext_blk HD.out hb)
  have HE := Lib.hid (HE.out.trans hb)
  clear hr hb HS
  have HS2 := Lib.hid (HSI.out.opn key ver (j : Int) c cv w2 HKL.out HC.out (by rw [HCL.out]; decide))
  rw [HOS.out.1, HOS.out.2] at HS2
  go_wp2_with (refine wpList_load_blk rfl _ _ rfl A rfl _ _ _ _ HA.out Try.underlying34 HIK.out ?_)
  refine HS2.out.mono ?_
  rintro e w3 ⟨y1, rfl, hr, hb⟩
  have HX1 := Lib.hid hr
  have HC := Lib.hid (HC.out.below hb)
  have HD := Lib.hid (ext_blk HD.out hb)
  have HE := Lib.hid (HE.out.trans hb)
  clear hr hb HS2 HA HOS
  have HZ := Lib.hid (Blk.made w3 (z12.map bval) 44)
  have HEA := Lib.hid (Ext.alloc w3 (.cells (z12.map bval).toArray 44))
  go_upto_region 7 with (fail)
  change Code.wp _ _ _ _ (w3.alloc (.cells (z12.map bval).toArray 44))
  generalize w3.alloc (.cells (z12.map bval).toArray 44) = w4 at *
  obtain ⟨Z, hZ⟩ : ∃ Z, Z = w3.heap.size := ⟨_, rfl⟩
  rw [← hZ] at HZ ⊢
  have HZW : Hid (w.heap.size ≤ Z ∧ w3.heap.size ≤ Z) := Lib.hid (by have := HE.out.size; omega)
  clear hZ
  refine wp_region_held_drew (S := fun _ => True) (by kernel_rfl) trivial (fun hHeld => ?_)
  refine wpAnyH_take (i := 0) (v := .slice (some ⟨Z, 4, none⟩) 8 8) rfl (by kernel_rfl) (by kernel_rfl) (by kernel_rfl) (fun _ _ _ h => h) (yi_val (.slice (some ⟨Z, 4, none⟩) 8 8) (by rfl) (fun w _ => by go_simp)) hHeld ?_
  simp only [Act.put, List.getElem_toArray, List.getElem_cons_zero, List.getElem_cons_succ, List.setIfInBounds_toArray, List.set_cons_zero, List.set_cons_succ]
  refine wpAnyH_take (i := 1) (v := .int .i64 k) rfl (by kernel_rfl) (by kernel_rfl) (by kernel_rfl) (fun _ _ _ h => h) (yi_move _ (.int .i64 k) (by rfl) rfl rfl) hHeld ?_
  simp only [Act.put, List.getElem_toArray, List.getElem_cons_zero, List.getElem_cons_succ, List.setIfInBounds_toArray, List.set_cons_zero, List.set_cons_succ]
  refine wpAnyH_ready (rs := [2]) (by kernel_rfl) (by simp) (AllReadyH.cons rfl (fun K0 hK0 => ?_) AllReadyH.nil)
  go_simp
  refine (rone_any k w4.drew).mono ?_
  rintro e w5 ⟨rv, rfl, ho, hb⟩
  have hr := Row1.of_own ho
  obtain ⟨ar, cr, hrv, _⟩ := id hr
  rw [List.length_map, be8_length] at hrv
  subst hrv
  have HRR := Lib.hid hr
  have HX := Lib.hid ((Ext.drew w4).trans hb)
  have HZ := Lib.hid (ext_blk HZ.out HX.out)
  have HE5 := Lib.hid (HEA.out.trans HX.out)
  clear hr ho hb HX HEA
  refine hK0.out _ _ trivial (fun hHeld => ?_)
  clear hK0 K0
  try simp only [Act.put, List.getElem_toArray, List.getElem_cons_zero, List.getElem_cons_succ, List.setIfInBounds_toArray, List.set_cons_zero, List.set_cons_succ]
  refine wpAnyH_ready (rs := [3]) (by kernel_rfl) (by simp) (AllReadyH.cons rfl (fun K0 hK0 => ?_) AllReadyH.nil)
  refine step_wp (by rfl) ?_
  refine wp_copy_blk _ _ 22 22 rfl 5 Try.underlying22 one_u8m _ _ _ _ _ _ rfl rfl Z 4 _ _ HZ.out ((pck_be8 k).map bval) (by rw [List.length_map, be8_length]; rfl) (fun h => ⟨rfl, row_src HRR.out (pck_be8 k) (by rw [List.take_length]) (Nat.le_refl _) (Ext.refl _) h⟩) (by rw [List.length_map, List.length_map, be8_length, z12_length]; omega) (bval_one _) ?_
  intro w6 hb6 hg6
  rw [lay_non] at hb6
  have HZ := Lib.hid hb6
  have HE6 := Lib.hid (ext_grown HE5.out hg6 HZW.out.2)
  clear hb6 hg6 HRR HE5
  refine hK0.out _ _ trivial (fun hHeld => ?_)
  clear hK0 K0 hHeld
  try simp only [Act.put, List.getElem_toArray, List.getElem_cons_zero, List.getElem_cons_succ, List.setIfInBounds_toArray, List.set_cons_zero, List.set_cons_succ]
  refine wpAnyH_done (by kernel_rfl) ?_ _
  have HD := Lib.hid (ext_blk HD.out HE6.out)
  have HC := Lib.hid (HC.out.below HE6.out)
  have HX1 := Lib.hid (HX1.out.below HE6.out)
  have HE := Lib.hid (HE.out.trans HE6.out)
  obtain ⟨nn, hnn⟩ : ∃ nn, nn = ([0, 0, 0, 0] ++ pck_be8 k : List UInt8) := ⟨_, rfl⟩
  rw [← hnn] at HZ
  have HNL : Hid (nn.length = 12) := Lib.hid (by rw [hnn]; rfl)
  have HNK : Hid (0 ≤ k → nn = nonB k.toNat) := Lib.hid (fun h => by rw [hnn]; unfold nonB; rw [Int.toNat_of_nonneg h])
  have HIN := Lib.hid (nonce_size HNL.out)
  clear hnn HE6 HZW
  have HS3 := Lib.hid (HSI.out.opn other u k c cv w6 HOL.out HC.out (by rw [HCL.out]; decide))
  obtain ⟨G, hG⟩ : ∃ G, G = opnE other u k c := ⟨_, rfl⟩
  obtain ⟨Q, hQ⟩ : ∃ Q, Q = opnL other u k c := ⟨_, rfl⟩
  rw [← hG, ← hQ] at HS3
  have HG := Lib.hid hG
  have HQ := Lib.hid hQ
  clear hG hQ
  go_wp2_with (refine wpList_load_blk rfl _ _ rfl D rfl _ _ _ _ HD.out Try.underlying34 HIO.out ?_)
  refine HS3.out.mono ?_
  rintro e w8 ⟨y2, rfl, hr, hb⟩
  have HX2 := Lib.hid hr
  have HD := Lib.hid (ext_blk HD.out hb)
  have HZ := Lib.hid (ext_blk HZ.out hb)
  have HC := Lib.hid (HC.out.below hb)
  have HX1 := Lib.hid (HX1.out.below hb)
  have HPV := Lib.hid (HPV.out.below (HE.out.trans hb))
  have HE := Lib.hid (HE.out.trans hb)
  clear hr hb HS3
  generalize w8 = w6 at *
  go_wp2_with fail
  refine (num18 0 w6).mono ?_
  rintro e w' ⟨rfl, rfl⟩
  go_wp2_with fail
  refine (num18 0 w6).mono ?_
  rintro e w' ⟨rfl, rfl⟩
  have hsy1 := run_string_row (P := Try.prog) (v := y1) 22 9 5 Try.underlying22 Try.underlying5 Try.underlying9 HX1.out
  have hsp := run_string_row (P := Try.prog) (v := .slice ap 64 cp) 22 9 5 Try.underlying22 Try.underlying5 Try.underlying9 HPV.out
  go_upto_region 11 with (fail)
  clear hsy1 hsp
  have OUT : Hid (u < 0 ∨ 2147483647 < u ∨ k < 0 ∨ 31 < k → G = 1 ∧ Q = []) := Lib.hid (fun h => by
    have hi : imgB u k c.length 80 = false := by
      cases hi : imgB u k c.length 80 with
      | false => rfl
      | true =>
        obtain ⟨e1, e2, e3, -⟩ := imgB_all hi
        have e4 : 0 ≤ u ∧ u ≤ 2147483647 := by
          unfold smallB at e1
          simpa using e1
        omega
    rw [HG.out, HQ.out]
    exact opn_out hi)
  by_cases k1 : u < 0
  · have gk1 : decide (u < 0) = true := decide_eq_true k1
    obtain ⟨rfl, rfl⟩ := OUT.out (Or.inl k1)
    obtain ⟨xa, xc, hx2, -⟩ := id HX2.out
    have hx3 : y2 = .slice xa 0 xc := hx2
    subst hx3
    clear hx2
    go_wp2_with fail
    refine (num18 1 w6).mono ?_
    rintro e w' ⟨rfl, rfl⟩
    go_wp2_with fail
    go_ret
    exact ⟨rfl, HE.out⟩
  have gk1 : decide (u < 0) = false := decide_eq_false k1
  by_cases k2 : 2147483647 < u
  · have gk2 : decide (2147483647 < u) = true := decide_eq_true k2
    obtain ⟨rfl, rfl⟩ := OUT.out (Or.inr (Or.inl k2))
    obtain ⟨xa, xc, hx2, -⟩ := id HX2.out
    have hx3 : y2 = .slice xa 0 xc := hx2
    subst hx3
    clear hx2
    go_wp2_with fail
    refine (num18 1 w6).mono ?_
    rintro e w' ⟨rfl, rfl⟩
    go_wp2_with fail
    go_ret
    exact ⟨rfl, HE.out⟩
  have gk2 : decide (2147483647 < u) = false := decide_eq_false k2
  by_cases k3 : k < 0
  · have gk3 : decide (k < 0) = true := decide_eq_true k3
    obtain ⟨rfl, rfl⟩ := OUT.out (Or.inr (Or.inr (Or.inl k3)))
    obtain ⟨xa, xc, hx2, -⟩ := id HX2.out
    have hx3 : y2 = .slice xa 0 xc := hx2
    subst hx3
    clear hx2
    go_wp2_with fail
    refine (num18 1 w6).mono ?_
    rintro e w' ⟨rfl, rfl⟩
    go_wp2_with fail
    go_ret
    exact ⟨rfl, HE.out⟩
  have gk3 : decide (k < 0) = false := decide_eq_false k3
  by_cases k4 : 31 < k
  · have gk4 : decide (31 < k) = true := decide_eq_true k4
    obtain ⟨rfl, rfl⟩ := OUT.out (Or.inr (Or.inr (Or.inr k4)))
    obtain ⟨xa, xc, hx2, -⟩ := id HX2.out
    have hx3 : y2 = .slice xa 0 xc := hx2
    subst hx3
    clear hx2
    go_wp2_with fail
    refine (num18 1 w6).mono ?_
    rintro e w' ⟨rfl, rfl⟩
    go_wp2_with fail
    go_ret
    exact ⟨rfl, HE.out⟩
  have gk4 : decide (31 < k) = false := decide_eq_false k4
  have IN : Hid (G = aErr (openB other nn c (pck_be8 u)) ∧ Q = (openB other nn c (pck_be8 u)).getD []) := Lib.hid (by
    have hi : imgB u k c.length 80 = true := imgB_of (smallB_of (by omega) (by omega)) (by omega) (by omega) HCL.out
    obtain ⟨e1, e2⟩ := opn_in (key := other) hi
    rw [HG.out, HQ.out, e1, e2, HNK.out (by omega)]
    exact ⟨rfl, rfl⟩)
  go_upto_region 13 with (fail)
  clear gk1 gk2 gk3 gk4 k1 k2 k3 k4 OUT HG HQ
  have B0 : Ext w6 w6.drew := Ext.drew _
  refine wp_region_held_drew (S := fun w' => Ext w6 w') (by kernel_rfl) B0 (fun hHeld => ?_)
  refine wpAnyH_take (i := 0) (v := .agg ((other).map bval).toArray) rfl (by kernel_rfl) (by kernel_rfl) (by kernel_rfl) (fun _ _ _ h => h) (yieldsIf_load_mid (by rfl) _ _ rfl D 0 rfl _ _ (fun w h => bl_range HD.out h) Try.underlying34 rfl HIO.out) hHeld ?_
  simp only [Act.put, List.getElem_toArray, List.getElem_cons_zero, List.getElem_cons_succ, List.setIfInBounds_toArray, List.set_cons_zero, List.set_cons_succ]
  refine wpAnyH_take (i := 1) (v := .agg ((nn).map bval).toArray) rfl (by kernel_rfl) (by kernel_rfl) (by kernel_rfl) (fun _ _ _ h => h) (yieldsIf_load_mid (by rfl) _ _ rfl Z 0 rfl _ _ (fun w h => bl_range HZ.out h) Try.underlying44 rfl HIN.out) hHeld ?_
  simp only [Act.put, List.getElem_toArray, List.getElem_cons_zero, List.getElem_cons_succ, List.setIfInBounds_toArray, List.set_cons_zero, List.set_cons_succ]
  refine wpAnyH_take (i := 2) (v := cv) rfl (by kernel_rfl) (by kernel_rfl) (by kernel_rfl) (fun _ _ _ h => h) (yi_move _ (cv) (by rfl) rfl rfl) hHeld ?_
  simp only [Act.put, List.getElem_toArray, List.getElem_cons_zero, List.getElem_cons_succ, List.setIfInBounds_toArray, List.set_cons_zero, List.set_cons_succ]
  refine wpAnyH_take (i := 3) (v := .int .i64 u) rfl (by kernel_rfl) (by kernel_rfl) (by kernel_rfl) (fun _ _ _ h => h) (yi_move _ (.int .i64 u) (by rfl) rfl rfl) hHeld ?_
  simp only [Act.put, List.getElem_toArray, List.getElem_cons_zero, List.getElem_cons_succ, List.setIfInBounds_toArray, List.set_cons_zero, List.set_cons_succ]
  refine wpAnyH_ready (rs := [4]) (by kernel_rfl) (by simp) (AllReadyH.cons rfl (fun K hK => ?_) AllReadyH.nil)
  go_simp
  refine (rone_any u w6.drew).mono ?_
  rintro e m1 ⟨x1, rfl, o1, b1⟩
  have r1 : Row1 m1 x1 ((pck_be8 u).map bval) := Row1.of_own o1
  have N1 : Ext w6 m1 := B0.trans b1
  refine hK.out _ _ N1 (fun hHeld => ?_)
  clear hK K
  try simp only [Act.put, List.getElem_toArray, List.getElem_cons_zero, List.getElem_cons_succ, List.setIfInBounds_toArray, List.set_cons_zero, List.set_cons_succ]
  refine wpAnyH_ready (rs := [5]) (by kernel_rfl) (by simp) (AllReadyH.cons rfl (fun K hK => ?_) AllReadyH.nil)
  go_simp
  refine (AOpen_num other nn c (pck_be8 u) cv x1 m1 HOL.out HNL.out (HC.out.below N1) r1 (by rw [HCL.out]; decide) (by rw [be8_length]; decide)).mono ?_
  rintro e m2 ⟨x2, rfl, r2, b2⟩
  have r1 := r1.below b2
  have HX3 := Lib.hid r2
  clear r2
  have N2 : Ext w6 m2 := N1.trans b2
  refine hK.out _ _ N2 (fun hHeld => ?_)
  clear hK K
  try simp only [Act.put, List.getElem_toArray, List.getElem_cons_zero, List.getElem_cons_succ, List.setIfInBounds_toArray, List.set_cons_zero, List.set_cons_succ]
  refine wpAnyH_take (i := 6) (v := .tuple #[x2, .int .i64 (aErr (openB other nn c (pck_be8 u)))]) rfl (by kernel_rfl) (by kernel_rfl) (by kernel_rfl) (fun _ _ _ h => h) (yi_move _ (.tuple #[x2, .int .i64 (aErr (openB other nn c (pck_be8 u)))]) (by rfl) rfl rfl) hHeld ?_
  simp only [Act.put, List.getElem_toArray, List.getElem_cons_zero, List.getElem_cons_succ, List.setIfInBounds_toArray, List.set_cons_zero, List.set_cons_succ]
  refine wpAnyH_take (i := 7) (v := x2) rfl (by kernel_rfl) (by kernel_rfl) (by kernel_rfl) (fun _ _ _ h => h) (yi_val (x2) (by rfl) (fun w _ => by go_simp)) hHeld ?_
  simp only [Act.put, List.getElem_toArray, List.getElem_cons_zero, List.getElem_cons_succ, List.setIfInBounds_toArray, List.set_cons_zero, List.set_cons_succ]
  refine wpAnyH_take (i := 8) (v := .int .i64 (aErr (openB other nn c (pck_be8 u)))) rfl (by kernel_rfl) (by kernel_rfl) (by kernel_rfl) (fun _ _ _ h => h) (yi_val (.int .i64 (aErr (openB other nn c (pck_be8 u)))) (by rfl) (fun w _ => by go_simp)) hHeld ?_
  simp only [Act.put, List.getElem_toArray, List.getElem_cons_zero, List.getElem_cons_succ, List.setIfInBounds_toArray, List.set_cons_zero, List.set_cons_succ]
  refine wpAnyH_take (i := 9) (v := x2) rfl (by kernel_rfl) (by kernel_rfl) (by kernel_rfl) (fun _ _ _ h => h) (yi_assign _ (x2) (by rfl) rfl rfl) hHeld ?_
  simp only [Act.put, List.getElem_toArray, List.getElem_cons_zero, List.getElem_cons_succ, List.setIfInBounds_toArray, List.set_cons_zero, List.set_cons_succ]
  refine wpAnyH_ready (rs := [10]) (by kernel_rfl) (by simp) (AllReadyH.cons rfl (fun K hK => ?_) AllReadyH.nil)
  go_simp
  refine hK.out _ _ N2 (fun hHeld => ?_)
  clear hK K
  try simp only [Act.put, List.getElem_toArray, List.getElem_cons_zero, List.getElem_cons_succ, List.setIfInBounds_toArray, List.set_cons_zero, List.set_cons_succ]
  refine wpAnyH_done (by kernel_rfl) ?_ _
  have HX := Lib.hid N2
  generalize m2 = w7 at HX HX3 ⊢
  generalize x2 = x3 at HX3 ⊢
  obtain ⟨rfl, rfl⟩ := IN.out
  have HX2 := Lib.hid (HX2.out.below HX.out)
  have HE := Lib.hid (HE.out.trans HX.out)
  generalize (openB other nn c (pck_be8 u)).getD [] = Q at *
  generalize aErr (openB other nn c (pck_be8 u)) = G at *
  have hsy2 := run_string_row (P := Try.prog) (v := y2) 22 9 5 Try.underlying22 Try.underlying5 Try.underlying9 HX2.out
  have hsx3 := run_string_row (P := Try.prog) (v := x3) 22 9 5 Try.underlying22 Try.underlying5 Try.underlying9 HX3.out
  go_wp2_with fail
  refine (num18 G w7).mono ?_
  rintro e w' ⟨rfl, rfl⟩
  go_wp2_with fail
  refine (num18 G w7).mono ?_
  rintro e w' ⟨rfl, rfl⟩
  go_wp2_with fail
  go_ret
  exact ⟨rfl, HE.out⟩

end Go.Proofs.Ytjnnhkodkbhbbaa
