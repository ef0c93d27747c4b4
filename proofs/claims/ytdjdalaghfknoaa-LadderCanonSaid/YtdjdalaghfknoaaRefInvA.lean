/- The walks of the document's own most and inv. Each theorem names its own conditions. -/
import Derived.Test.YtdjdalaghfknoaaRefNum
import Derived.Test.YtdjdalaghfknoaaRefPow
namespace Go.Proofs.Ytdjdalaghfknoaa
open Go.RowKit
set_option linter.unusedVariables false
set_option linter.unusedSimpArgs false

set_option maxHeartbeats 2000000 in
theorem rmost_any (w : World) : Calls Try.prog 44 #[.int .i64 21] w fun e w' => e = .returned (.agg ((bytesN 32 (pP - 2).toNat).map bval).toArray) ∧ Below w.heap.size w w' := by
  have HBX := Lib.hid (boxes2 w (ints .u8 (List.replicate 32 0)) (ints .u8 (List.replicate 32 0)) 23 23)
  go_enter Try.func44, Try.ntmps44
  go_wp2_with fail
  change Code.wp _ _ _ _ ((w.alloc (.cells (ints .u8 (List.replicate 32 0)).toArray 23)).alloc (.cells (ints .u8 (List.replicate 32 0)).toArray 23))
  generalize (w.alloc (.cells (ints .u8 (List.replicate 32 0)).toArray 23)).alloc (.cells (ints .u8 (List.replicate 32 0)).toArray 23) = w0 at *
  obtain ⟨h1, h2, h3⟩ := HBX.out
  obtain ⟨A, hA⟩ : ∃ A, A = w.heap.size := ⟨_, rfl⟩
  rw [← hA] at h1 h2 ⊢
  have hA2 : w.heap.size ≤ A := by omega
  have H1 := Lib.hid h1
  have H2 := Lib.hid h2
  have H3 := Lib.hid h3
  clear h1 h2 h3 HBX hA
  go_loopw [4] (fun i wr => ∃ (k : Nat) (bs : List Int), k ≤ 32 ∧ i = .int .i64 k ∧ FullB bs k ∧ Blk wr A (ints .u8 (List.replicate 32 0)) 23 ∧ Blk wr (A + 1) (ints .u8 bs) 23 ∧ Below w.heap.size w wr) (fun i _ => 32 - (intOf i).toNat)
  case atStart => exact ⟨0, _, by omega, rfl, ⟨rfl, fun j hj => by omega⟩, H1.out, H2.out, H3.out⟩
  case round =>
    clear H1 H2 H3
    obtain ⟨k, bs, hk, rfl, hfb, hb1, hb2, hbel⟩ := hrel
    have i0' : (0 : Int) ≤ (k : Int) := Int.natCast_nonneg _
    have hlen := hfb.len
    by_cases hlt : k < 32
    · have i1 : (k : Int) < 32 := by omega
      have e1 := hb2.cell k
      rw [ints_get (by omega)] at e1
      have f1 := hb2.free k
      have hst := hfb.step hlt
      have HST := Lib.hid hst
      have H1 := Lib.hid hb1
      have H2 := Lib.hid hb2
      have H3 := Lib.hid hbel
      clear hb1 hb2 hbel hfb hst hlen
      go_wp2_with fail
      go_roundw
      case rel =>
        refine ⟨k + 1, _, by omega, by go_num, HST.out, H1.out.far (by simp) _, ?_, H3.out.setCell (by simp; omega) _⟩
        rw [← ints_set]
        exact H2.out.set k _
      case measure => simp [intOf]; omega
    · have hk' : k = 32 := by omega
      subst hk'
      have hd := hfb.done
      subst hd
      have e1 : wr.cell? ⟨A + 1, 31, none⟩ = some (.int .u8 255) := by rw [hb2.cell 31]; rfl
      have e2 : wr.cell? ⟨A + 1, 0, none⟩ = some (.int .u8 255) := by rw [hb2.cell 0]; rfl
      have f1 := hb2.free 31
      have f2 := hb2.free 0
      have hb3 := (hb2.set 31 (.int .u8 127)).set 0 (.int .u8 235)
      have hb4 := (hb1.far (a := ⟨A + 1, 31, none⟩) (by simp) (.int .u8 127)).far (a := ⟨A + 1, 0, none⟩) (by simp) (.int .u8 235)
      rw [ints_set, ints_set] at hb3
      have e3 : ints .u8 (((List.replicate 32 255).set 31 127).set 0 235) = (bytesN 32 (pP - 2).toNat).map bval := by kernel_rfl
      rw [e3] at hb3
      have hb5 : Below w.heap.size w ((wr.setCell ⟨A + 1, 31, none⟩ (.int .u8 127)).setCell ⟨A + 1, 0, none⟩ (.int .u8 235)) := (hbel.setCell (by simp; omega) _).setCell (by simp; omega) _
      have H3 := Lib.hid hb3
      have H4 := Lib.hid hb4
      have H5 := Lib.hid hb5
      have hi1 : Hid ((Try.prog.info? 23).map (·.size) = some ((bytesN 32 (pP - 2).toNat).map bval).length) := Lib.hid (by rw [List.length_map, bytesN_length]; exact Try.arr23)
      have hl1 : Hid (((bytesN 32 (pP - 2).toNat).map bval).length = (ints .u8 (List.replicate 32 0)).length) := Lib.hid (by rw [List.length_map, bytesN_length]; rfl)
      clear hb1 hb2 hb3 hb4 hb5 hbel hfb hlen e3
      go_wp2_with (first | (refine wpList_load_blk rfl _ _ rfl (A + 1) rfl _ _ _ _ H3.out Try.underlying23 hi1.out ?_) | (refine wpList_store_blk rfl _ _ _ rfl A _ rfl rfl _ _ H4.out hl1.out hi1.out (bval_one _) ?_; intro w7 hb7 hg7))
      exact bodyPost_ret (v := .agg ((bytesN 32 (pP - 2).toNat).map bval).toArray) (result_blk (by rfl) _ A _ _ _ _ (by rfl) hb7 Try.underlying23 hi1.out) rfl ⟨rfl, H5.out.grown hg7 H5.out.size (fun r hr => by cases hr; omega)⟩

theorem fld_leN_p2 : leN (bytesN 32 (pP - 2).toNat) = (pP - 2).toNat := by decide +kernel

set_option maxHeartbeats 2000000 in
theorem rinv_any (u : Value) (x : Int) (w : World) (hu : IsEl u x) :
    Calls Try.prog 32 #[u] w fun e w' => ∃ r, e = .returned r ∧ IsEl r (x ^ (pP - 2).toNat) ∧ Below w.heap.size w w' := by
  have HUE := Lib.hid hu
  obtain ⟨xs, rfl, la, ba, qa, va⟩ := hu
  have hu := Try.underlying48
  have hi1 : (Try.prog.info? 48).map (·.size) = some (ints .i64 xs).length := by rw [ints_length, la]; exact Try.arr48
  have HU := Lib.hid hu
  have HI1 := Lib.hid hi1
  have HBX := Lib.hid (boxes2 w (ints .i64 xs) (ints .i64 (List.replicate 16 0)) 48 48)
  clear la ba va hu hi1
  go_enter Try.func32, Try.ntmps32
  go_wp2_with fail
  change Code.wp _ _ _ _ ((w.alloc (.cells (ints .i64 xs).toArray 48)).alloc (.cells (ints .i64 (List.replicate 16 0)).toArray 48))
  generalize (w.alloc (.cells (ints .i64 xs).toArray 48)).alloc (.cells (ints .i64 (List.replicate 16 0)).toArray 48) = w0 at *
  obtain ⟨h1, h2, h4⟩ := HBX.out
  obtain ⟨A, hA⟩ : ∃ A, A = w.heap.size := ⟨_, rfl⟩
  rw [← hA] at h1 h2 ⊢
  have hA2 : w.heap.size ≤ A := by omega
  have H1 := Lib.hid h1
  have H3 := Lib.hid h2
  have H4 := Lib.hid h4
  clear h1 h2 h4 HBX hA
  have hi1 := HI1.out
  have hu := HU.out
  have B0 : Below w0.heap.size w0 w0.drew := (Below.refl _ _).drew
  refine wp_region_held_drew (S := fun w' => w'.rangeAt A 0 (ints .i64 xs)) (by kernel_rfl) (bl_range H1.out B0) (fun hHeld => ?_)
  refine wpAnyH_take (i := 0) (v := .agg (ints .i64 xs).toArray) rfl (by kernel_rfl) (by kernel_rfl) (by kernel_rfl) (fun _ _ _ h => h) (yieldsIf_load_mid (by rfl) _ _ rfl A 0 rfl _ _ (fun w h => h) hu rfl hi1) hHeld ?_
  try simp only [Act.put, List.setIfInBounds_toArray, List.set_cons_zero, List.set_cons_succ]
  refine wpAnyH_ready (rs := [1]) (by kernel_rfl) (by simp) (AllReadyH.cons rfl (fun K hK => ?_) AllReadyH.nil)
  go_simp
  refine (rmost_any _).mono ?_
  rintro e w1 ⟨rfl, b1⟩
  have B1 := B0.trans (b1.mono B0.size)
  refine hK.out _ _ (bl_range H1.out B1) (fun hHeld => ?_)
  clear hK K hHeld
  try simp only [Act.put, List.setIfInBounds_toArray, List.set_cons_zero, List.set_cons_succ]
  refine wpAnyH_ready (rs := [2]) (by kernel_rfl) (by simp) (AllReadyH.cons rfl (fun K hK => ?_) AllReadyH.nil)
  go_simp
  refine (rpow_any _ _ _ _ HUE.out (bytesN_length 32 (pP - 2).toNat)).mono ?_
  rintro e w2 ⟨r2, rfl, e2, b2⟩
  rw [fld_leN_p2] at e2
  obtain ⟨z2, rfl, lz2, bz2, qz2, vz2⟩ := id e2
  have B2 := B1.trans (b2.mono B1.size)
  refine hK.out _ _ (bl_range H1.out B2) (fun hHeld => ?_)
  clear hK K hHeld
  try simp only [Act.put, List.setIfInBounds_toArray, List.set_cons_zero, List.set_cons_succ]
  refine wpAnyH_ready (rs := [3]) (by kernel_rfl) (by simp) (AllReadyH.cons rfl (fun K hK => ?_) AllReadyH.nil)
  have hi2 : (Try.prog.info? 48).map (·.size) = some (ints .i64 z2).length := by rw [ints_length, lz2]; exact Try.arr48
  rw [if_pos (by rfl)]
  refine wp_store_blk _ _ _ rfl (A + 1) (ints .i64 z2) rfl rfl _ _ (bl_blk H3.out B2) (by rw [ints_length, ints_length, lz2]; rfl) hi2 (ints_one _ _) ?_
  intro w5 hb5 hg5
  refine hK.out _ _ ((bl_blk H1.out B2).grown hg5 (by simp)).range (fun hHeld => ?_)
  clear hK K hHeld
  refine wpAnyH_done (by kernel_rfl) ?_ _
  have HB5 := Lib.hid ((H4.out.trans (B2.mono H4.out.size)).grown hg5 (Nat.le_trans H4.out.size B2.size) (fun r hr => by cases hr; omega))
  have HI2 := Lib.hid hi2
  have HBB := Lib.hid hb5
  have HE2 := Lib.hid e2
  clear hi1 hu hi2 hb5 hg5 e2 vz2 bz2 lz2
  go_wp2_with fail
  exact bodyPost_ret (v := .agg (ints .i64 z2).toArray) (result_blk (by rfl) _ (A + 1) _ _ _ _ (by rfl) HBB.out HU.out HI2.out) rfl ⟨_, rfl, HE2.out, HB5.out⟩

end Go.Proofs.Ytdjdalaghfknoaa
