/- The walks of the document's own answers of chapter 3: Canon, Pow, Inv. Each theorem names its own conditions. -/
import Derived.Test.YtmiapjmdolecbaaRefTops
namespace Go.Proofs.Ytmiapjmdolecbaa
open Go.RowKit
set_option linter.unusedVariables false
set_option linter.unusedSimpArgs false

set_option maxHeartbeats 2000000 in
theorem rCanon_num (l : List UInt8) (w : World) (hl : l.length = 32) :
    Calls Try.prog 13 #[.agg (l.map bval).toArray] w fun e w' => e = .returned (numP (leN l)) ∧ Below w.heap.size w w' := by
  have HL := Lib.hid hl
  have HBX := Lib.hid (boxes2 w (l.map bval) (ints .u8 (List.replicate 32 0)) 23 23)
  have HI1 : Hid ((Try.prog.info? 23).map (·.size) = some (l.map bval).length) := Lib.hid (by rw [List.length_map, hl]; exact Try.arr23)
  have HI3 : Hid ((Try.prog.info? 23).map (·.size) = some ((bytesN 32 ((leN l : Int) % pP).toNat).map bval).length) := Lib.hid (by rw [List.length_map, bytesN_length]; exact Try.arr23)
  have HIN := Lib.hid (rin_el l ((w.alloc (.cells (l.map bval).toArray 23)).alloc (.cells (ints .u8 (List.replicate 32 0)).toArray 23)) hl)
  clear hl
  go_enter Try.func13, Try.ntmps13
  go_wp2_with (refine wpList_load_blk rfl _ _ rfl w.heap.size rfl _ _ _ _ HBX.out.1 Try.underlying23 HI1.out ?_)
  change Calls _ _ _ ((w.alloc (.cells (l.map bval).toArray 23)).alloc (.cells (ints .u8 (List.replicate 32 0)).toArray 23)) _
  generalize (w.alloc (.cells (l.map bval).toArray 23)).alloc (.cells (ints .u8 (List.replicate 32 0)).toArray 23) = w0 at *
  obtain ⟨h1, h2, h3⟩ := HBX.out
  obtain ⟨A, hA⟩ : ∃ A, A = w.heap.size := ⟨_, rfl⟩
  rw [← hA] at h1 h2 ⊢
  have hA2 : w.heap.size ≤ A := by omega
  have H2 := Lib.hid h2
  have H3 := Lib.hid h3
  clear h1 h2 h3 HBX hA
  refine HIN.out.mono ?_
  rintro e w1 ⟨r1, rfl, e1, b1⟩
  have HO := Lib.hid (rout_any r1 _ w1 e1)
  have HB1 := Lib.hid b1
  clear b1 e1
  go_wp2_with fail
  refine HO.out.mono ?_
  rintro e w2 ⟨rfl, b2⟩
  have HB2 := Lib.hid (HB1.out.trans (b2.mono HB1.out.size))
  have H22 := Lib.hid (bl_blk H2.out HB2.out)
  have hl5 : Hid (((bytesN 32 ((leN l : Int) % pP).toNat).map bval).length = (ints .u8 (List.replicate 32 0)).length) := Lib.hid (by rw [List.length_map, bytesN_length]; rfl)
  clear b2
  go_wp2_with (refine wpList_store_blk rfl _ _ _ rfl (A + 1) _ rfl rfl _ _ H22.out hl5.out HI3.out (bval_one _) ?_; intro w5 hb5 hg5)
  exact bodyPost_ret (v := numP (leN l)) (result_blk (by rfl) _ (A + 1) _ _ _ _ (by rfl) hb5 Try.underlying23 HI3.out) rfl ⟨rfl, (H3.out.trans (HB2.out.mono H3.out.size)).grown hg5 (Nat.le_trans H3.out.size HB2.out.size) (fun r hr => by cases hr; omega)⟩

set_option maxHeartbeats 2000000 in
theorem rPow_num (l m : List UInt8) (w : World) (hl : l.length = 32) (hm : m.length = 32) :
    Calls Try.prog 21 #[.agg (l.map bval).toArray, .agg (m.map bval).toArray] w fun e w' => e = .returned (numP ((leN l : Int) ^ leN m)) ∧ Below w.heap.size w w' := by
  have HL := Lib.hid hl
  have HM := Lib.hid hm
  have HBX := Lib.hid (boxes3 w (l.map bval) (m.map bval) (ints .u8 (List.replicate 32 0)) 23 23 23)
  have hu := Try.underlying23
  have hi1 : (Try.prog.info? 23).map (·.size) = some (l.map bval).length := by rw [List.length_map, hl]; exact Try.arr23
  have hi2 : (Try.prog.info? 23).map (·.size) = some (m.map bval).length := by rw [List.length_map, hm]; exact Try.arr23
  have HI3 : Hid ((Try.prog.info? 23).map (·.size) = some ((bytesN 32 (((leN l : Int) ^ leN m) % pP).toNat).map bval).length) := Lib.hid (by rw [List.length_map, bytesN_length]; exact Try.arr23)
  have HI1 := Lib.hid hi1
  have HI2 := Lib.hid hi2
  have HU := Lib.hid hu
  clear hl hm hi1 hi2 hu
  go_enter Try.func21, Try.ntmps21
  go_wp2_with fail
  change Code.wp _ _ _ _ (((w.alloc (.cells (l.map bval).toArray 23)).alloc (.cells (m.map bval).toArray 23)).alloc (.cells (ints .u8 (List.replicate 32 0)).toArray 23))
  generalize ((w.alloc (.cells (l.map bval).toArray 23)).alloc (.cells (m.map bval).toArray 23)).alloc (.cells (ints .u8 (List.replicate 32 0)).toArray 23) = w0 at *
  obtain ⟨h1, h2, h3, h4⟩ := HBX.out
  obtain ⟨A, hA⟩ : ∃ A, A = w.heap.size := ⟨_, rfl⟩
  rw [← hA] at h1 h2 h3 ⊢
  have hA2 : w.heap.size ≤ A := by omega
  have H1 := Lib.hid h1
  have H2 := Lib.hid h2
  have H3 := Lib.hid h3
  have H4 := Lib.hid h4
  clear h1 h2 h3 h4 HBX hA
  have hi1 := HI1.out
  have hi2 := HI2.out
  have hu := HU.out
  have B0 : Below w0.heap.size w0 w0.drew := (Below.refl _ _).drew
  refine wp_region_held_drew (S := fun w' => w'.rangeAt A 0 (l.map bval) ∧ w'.rangeAt (A + 1) 0 (m.map bval)) (by kernel_rfl) ⟨bl_range H1.out B0, bl_range H2.out B0⟩ (fun hHeld => ?_)
  refine wpAnyH_take (i := 0) (v := .agg (l.map bval).toArray) rfl (by kernel_rfl) (by kernel_rfl) (by kernel_rfl) (fun _ _ _ h => h) (yieldsIf_load_mid (by rfl) _ _ rfl A 0 rfl _ _ (fun w h => h.1) hu rfl hi1) hHeld ?_
  try simp only [Act.put, List.setIfInBounds_toArray, List.set_cons_zero, List.set_cons_succ]
  refine wpAnyH_take (i := 2) (v := .agg (m.map bval).toArray) rfl (by kernel_rfl) (by kernel_rfl) (by kernel_rfl) (fun _ _ _ h => h) (yieldsIf_load_mid (by rfl) _ _ rfl (A + 1) 0 rfl _ _ (fun w h => h.2) hu rfl hi2) hHeld ?_
  try simp only [Act.put, List.setIfInBounds_toArray, List.set_cons_zero, List.set_cons_succ]
  refine wpAnyH_ready (rs := [1]) (by kernel_rfl) (by simp) (AllReadyH.cons rfl (fun K hK => ?_) AllReadyH.nil)
  go_simp
  refine (rin_el l _ HL.out).mono ?_
  rintro e w1 ⟨r1, rfl, e1, b1⟩
  have B1 := B0.trans (b1.mono B0.size)
  refine hK.out _ _ ⟨bl_range H1.out B1, bl_range H2.out B1⟩ (fun hHeld => ?_)
  clear hK K hHeld
  try simp only [Act.put, List.setIfInBounds_toArray, List.set_cons_zero, List.set_cons_succ]
  refine wpAnyH_ready (rs := [3]) (by kernel_rfl) (by simp) (AllReadyH.cons rfl (fun K hK => ?_) AllReadyH.nil)
  go_simp
  refine (rpow_any _ _ m _ e1 HM.out).mono ?_
  rintro e w2 ⟨r2, rfl, e2, b2⟩
  have B2 := B1.trans (b2.mono B1.size)
  refine hK.out _ _ ⟨bl_range H1.out B2, bl_range H2.out B2⟩ (fun hHeld => ?_)
  clear hK K hHeld
  try simp only [Act.put, List.setIfInBounds_toArray, List.set_cons_zero, List.set_cons_succ]
  refine wpAnyH_ready (rs := [4]) (by kernel_rfl) (by simp) (AllReadyH.cons rfl (fun K hK => ?_) AllReadyH.nil)
  go_simp
  refine (rout_any _ _ _ e2).mono ?_
  rintro e w3 ⟨rfl, b3⟩
  have B3 := B2.trans (b3.mono B2.size)
  refine hK.out _ _ ⟨bl_range H1.out B3, bl_range H2.out B3⟩ (fun hHeld => ?_)
  clear hK K hHeld
  try simp only [Act.put, List.setIfInBounds_toArray, List.set_cons_zero, List.set_cons_succ]
  refine wpAnyH_ready (rs := [5]) (by kernel_rfl) (by simp) (AllReadyH.cons rfl (fun K hK => ?_) AllReadyH.nil)
  rw [if_pos (by rfl)]
  refine wp_store_blk _ _ _ rfl (A + 1 + 1) ((bytesN 32 (((leN l : Int) ^ leN m) % pP).toNat).map bval) rfl rfl _ _ (bl_blk H3.out B3) (by rw [List.length_map, bytesN_length]; rfl) HI3.out (bval_one _) ?_
  intro w5 hb5 hg5
  refine hK.out _ _ ⟨((bl_blk H1.out B3).grown hg5 (by simp; omega)).range, ((bl_blk H2.out B3).grown hg5 (by simp)).range⟩ (fun hHeld => ?_)
  clear hK K hHeld
  refine wpAnyH_done (by kernel_rfl) ?_ _
  go_wp2_with fail
  have HB5 := (H4.out.trans (B3.mono H4.out.size)).grown hg5 (Nat.le_trans H4.out.size B3.size) (fun r hr => by cases hr; omega)
  exact bodyPost_ret (v := numP ((leN l : Int) ^ leN m)) (result_blk (by rfl) _ (A + 1 + 1) _ _ _ _ (by rfl) hb5 HU.out HI3.out) rfl ⟨rfl, HB5⟩

end Go.Proofs.Ytmiapjmdolecbaa
