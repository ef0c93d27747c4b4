/- The walks of the reference's root: eighth, same. Each theorem names its own conditions. -/
import Derived.Test.YtmiapjmdolecbaaDoorFldLaw0
import Derived.Test.YtmiapjmdolecbaaDoorFldRootM
import Derived.Test.YtmiapjmdolecbaaDoorRefNum
import Derived.Test.YtmiapjmdolecbaaDoorDetAll
import Derived.Test.YtmiapjmdolecbaaDoorFieldRoots
namespace Go.Proofs.YtmiapjmdolecbaaDoor
open Go.RowKit
set_option linter.unusedVariables false
set_option linter.unusedSimpArgs false

set_option maxHeartbeats 2000000 in
theorem reighth_any (w : World) : Calls Tryd.prog 31 #[] w fun e w' => e = .returned (.agg ((bytesN 32 pE).map bval).toArray) ∧ Below w.heap.size w w' := by
  have HBX := Lib.hid (boxes2 w (ints .u8 (List.replicate 32 0)) (ints .u8 (List.replicate 32 0)) 23 23)
  go_enter Tryd.func31, Tryd.ntmps31
  go_wp2_with fail
  change Code.wp _ _ _ _ ((w.alloc (.cells (ints .u8 (List.replicate 32 0)).toArray 23)).alloc (.cells (ints .u8 (List.replicate 32 0)).toArray 23))
  generalize (w.alloc (.cells (ints .u8 (List.replicate 32 0)).toArray 23)).alloc (.cells (ints .u8 (List.replicate 32 0)).toArray 23) = w0 at *
  obtain ⟨h1, h2, h3⟩ := HBX.out
  obtain ⟨A, hA⟩ : ∃ A, A = w.heap.size := ⟨_, rfl⟩
  rw [← hA] at h1 h2 ⊢
  have hA2 : w.heap.size ≤ A := by omega
  have H1 := Lib.hid h1
  have H2 := Lib.hid h2
  have H3 := Lib.hid h3
  clear h1 h2 h3 HBX hA
  go_loopw [2] (fun i wr => ∃ (k : Nat) (bs : List Int), k ≤ 32 ∧ i = .int .i64 k ∧ FullB bs k ∧ Blk wr A (ints .u8 (List.replicate 32 0)) 23 ∧ Blk wr (A + 1) (ints .u8 bs) 23 ∧ Below w.heap.size w wr) (fun i _ => 32 - (intOf i).toNat)
  case atStart => exact ⟨0, _, by omega, rfl, ⟨rfl, fun j hj => by omega⟩, H1.out, H2.out, H3.out⟩
  case round =>
    clear H1 H2 H3
    obtain ⟨k, bs, hk, rfl, hfb, hb1, hb2, hbel⟩ := hrel
    have i0' : (0 : Int) ≤ (k : Int) := Int.natCast_nonneg _
    have hlen := hfb.len
    by_cases hlt : k < 32
    · have i1 : (k : Int) < 32 := by omega
      have e1 := hb2.cell k
      rw [ints_get (by omega)] at e1
      have f1 := hb2.free k
      have hst := hfb.step hlt
      have HST := Lib.hid hst
      have H1 := Lib.hid hb1
      have H2 := Lib.hid hb2
      have H3 := Lib.hid hbel
      clear hb1 hb2 hbel hfb hst hlen
      go_wp2_with fail
      go_roundw
      case rel =>
        refine ⟨k + 1, _, by omega, by go_num, HST.out, H1.out.far (by simp) _, ?_, H3.out.setCell (by simp; omega) _⟩
        rw [← ints_set]
        exact H2.out.set k _
      case measure => simp [intOf]; omega
    · have hk' : k = 32 := by omega
      subst hk'
      have hd := hfb.done
      subst hd
      have e1 : wr.cell? ⟨A + 1, 31, none⟩ = some (.int .u8 255) := by rw [hb2.cell 31]; rfl
      have e2 : wr.cell? ⟨A + 1, 0, none⟩ = some (.int .u8 255) := by rw [hb2.cell 0]; rfl
      have f1 := hb2.free 31
      have f2 := hb2.free 0
      have hb3 := (hb2.set 0 (.int .u8 254)).set 31 (.int .u8 15)
      have hb4 := (hb1.far (a := ⟨A + 1, 0, none⟩) (by simp) (.int .u8 254)).far (a := ⟨A + 1, 31, none⟩) (by simp) (.int .u8 15)
      rw [ints_set, ints_set] at hb3
      have e3 : ints .u8 (((List.replicate 32 255).set 0 254).set 31 15) = (bytesN 32 pE).map bval := by kernel_rfl
      rw [e3] at hb3
      have hb5 : Below w.heap.size w ((wr.setCell ⟨A + 1, 0, none⟩ (.int .u8 254)).setCell ⟨A + 1, 31, none⟩ (.int .u8 15)) := (hbel.setCell (by simp; omega) _).setCell (by simp; omega) _
      have H3 := Lib.hid hb3
      have H4 := Lib.hid hb4
      have H5 := Lib.hid hb5
      have hi1 : Hid ((Tryd.prog.info? 23).map (·.size) = some ((bytesN 32 pE).map bval).length) := Lib.hid (by rw [List.length_map, bytesN_length]; exact Tryd.arr23)
      have hl1 : Hid (((bytesN 32 pE).map bval).length = (ints .u8 (List.replicate 32 0)).length) := Lib.hid (by rw [List.length_map, bytesN_length]; rfl)
      clear hb1 hb2 hb3 hb4 hb5 hbel hfb hlen e3
      go_wp2_with (first | (refine wpList_load_blk rfl _ _ rfl (A + 1) rfl _ _ _ _ H3.out Tryd.underlying23 hi1.out ?_) | (refine wpList_store_blk rfl _ _ _ rfl A _ rfl rfl _ _ H4.out hl1.out hi1.out (bval_one _) ?_; intro w7 hb7 hg7))
      exact bodyPost_ret (v := .agg ((bytesN 32 pE).map bval).toArray) (result_blk (by rfl) _ A _ _ _ _ (by rfl) hb7 Tryd.underlying23 hi1.out) rfl ⟨rfl, H5.out.grown hg7 H5.out.size (fun r hr => by cases hr; omega)⟩

theorem leN_p2 : leN (bytesN 32 pE) = pE := by decide +kernel

theorem leN_eighth : leN (bytesN 32 pE) = pE := by decide +kernel

set_option maxHeartbeats 4000000 in
theorem rsame_any (u v : Value) (x y : Int) (w : World) (hu : IsEl u x) (hv : IsEl v y) :
    Calls Tryd.prog 32 #[u, v] w fun e w' => e = .returned (.bool (decide (nb x = nb y))) ∧ Below w.heap.size w w' := by
  have HU := Lib.hid hu
  have HV := Lib.hid hv
  obtain ⟨xs, rfl, la, ba, qa, va⟩ := hu
  obtain ⟨ys, rfl, lb, bb, qb, vb⟩ := hv
  have HI1 : Hid ((Tryd.prog.info? 42).map (·.size) = some (ints .i64 xs).length) := Lib.hid (by rw [ints_length, la]; exact Tryd.arr42)
  have HI2 : Hid ((Tryd.prog.info? 42).map (·.size) = some (ints .i64 ys).length) := Lib.hid (by rw [ints_length, lb]; exact Tryd.arr42)
  have HB := Lib.hid (boxes2 w (ints .i64 xs) (ints .i64 ys) 42 42)
  clear la ba va lb bb vb
  go_enter Tryd.func32, Tryd.ntmps32
  go_wp2_with fail
  change Code.wp _ _ _ _ ((w.alloc (.cells (ints .i64 xs).toArray 42)).alloc (.cells (ints .i64 ys).toArray 42))
  generalize (w.alloc (.cells (ints .i64 xs).toArray 42)).alloc (.cells (ints .i64 ys).toArray 42) = w0 at *
  obtain ⟨h1, h2, hE⟩ := HB.out
  obtain ⟨A, hA⟩ : ∃ A, A = w.heap.size := ⟨_, rfl⟩
  rw [← hA] at h1 h2 ⊢
  have hA2 : w.heap.size ≤ A := by omega
  have H1 := Lib.hid h1
  have H2 := Lib.hid h2
  have HE : Hid (Ext w w0) := Lib.hid hE
  clear h1 h2 hE HB
  by_cases he : nb x = nb y
  · skip
    refine wp_region_all (by kernel_rfl) (by kernel_rfl) ?_
    refine det_load _ _ A (ints .i64 xs) _ (by rfl) rfl rfl (fun w hw => ext_range H1.out hw) Tryd.underlying42 rfl HI1.out ?_
    simp only [Act.put, List.setIfInBounds_toArray, List.set_cons_zero, List.set_cons_succ]
    refine det_call _ _ _ [.agg (ints .i64 xs).toArray] (.agg ((nb x).map bval).toArray) (by rfl) rfl Tryd.call21 rfl (fun w hw => rout_any _ x w HU.out) ?_
    simp only [Act.put, List.setIfInBounds_toArray, List.set_cons_zero, List.set_cons_succ]
    refine det_load _ _ (A + 1) (ints .i64 ys) _ (by rfl) rfl rfl (fun w hw => ext_range H2.out hw) Tryd.underlying42 rfl HI2.out ?_
    simp only [Act.put, List.setIfInBounds_toArray, List.set_cons_zero, List.set_cons_succ]
    refine det_call _ _ _ [.agg (ints .i64 ys).toArray] (.agg ((nb y).map bval).toArray) (by rfl) rfl Tryd.call21 rfl (fun w hw => rout_any _ y w HV.out) ?_
    simp only [Act.put, List.setIfInBounds_toArray, List.set_cons_zero, List.set_cons_succ]
    refine det_eql _ _ _ _ _ _ 32 _ (nb x) (nb y) true (by rfl) rfl (Or.inl ⟨rfl, decide_eq_true he⟩) Tryd.underlying23 Tryd.underlying5 num_info num_cells num_guard rfl rfl (nb_length _) (nb_length _) ?_
    simp only [Act.put, List.setIfInBounds_toArray, List.set_cons_zero, List.set_cons_succ]
    refine det_assign _ (.bool true) (by rfl) rfl rfl ?_
    simp only [Act.put, List.setIfInBounds_toArray, List.set_cons_zero, List.set_cons_succ]
    refine det_nil (fun w9 hw9 => ?_)
    go_wp2_with fail
    go_ret
    exact ⟨by rw [decide_eq_true he]; rfl, HE.out.trans hw9⟩
  · skip
    refine wp_region_all (by kernel_rfl) (by kernel_rfl) ?_
    refine det_load _ _ A (ints .i64 xs) _ (by rfl) rfl rfl (fun w hw => ext_range H1.out hw) Tryd.underlying42 rfl HI1.out ?_
    simp only [Act.put, List.setIfInBounds_toArray, List.set_cons_zero, List.set_cons_succ]
    refine det_call _ _ _ [.agg (ints .i64 xs).toArray] (.agg ((nb x).map bval).toArray) (by rfl) rfl Tryd.call21 rfl (fun w hw => rout_any _ x w HU.out) ?_
    simp only [Act.put, List.setIfInBounds_toArray, List.set_cons_zero, List.set_cons_succ]
    refine det_load _ _ (A + 1) (ints .i64 ys) _ (by rfl) rfl rfl (fun w hw => ext_range H2.out hw) Tryd.underlying42 rfl HI2.out ?_
    simp only [Act.put, List.setIfInBounds_toArray, List.set_cons_zero, List.set_cons_succ]
    refine det_call _ _ _ [.agg (ints .i64 ys).toArray] (.agg ((nb y).map bval).toArray) (by rfl) rfl Tryd.call21 rfl (fun w hw => rout_any _ y w HV.out) ?_
    simp only [Act.put, List.setIfInBounds_toArray, List.set_cons_zero, List.set_cons_succ]
    refine det_eql _ _ _ _ _ _ 32 _ (nb x) (nb y) false (by rfl) rfl (Or.inl ⟨rfl, decide_eq_false he⟩) Tryd.underlying23 Tryd.underlying5 num_info num_cells num_guard rfl rfl (nb_length _) (nb_length _) ?_
    simp only [Act.put, List.setIfInBounds_toArray, List.set_cons_zero, List.set_cons_succ]
    refine det_assign _ (.bool false) (by rfl) rfl rfl ?_
    simp only [Act.put, List.setIfInBounds_toArray, List.set_cons_zero, List.set_cons_succ]
    refine det_nil (fun w9 hw9 => ?_)
    go_wp2_with fail
    go_ret
    exact ⟨by rw [decide_eq_false he]; rfl, HE.out.trans hw9⟩

end Go.Proofs.YtmiapjmdolecbaaDoor
