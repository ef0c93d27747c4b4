/- The walk of the document's own less: q is taken off once. Each theorem names its own conditions. -/
import Derived.Test.YtoebokeehhfboaaDoorRefQM
import Derived.Test.YtoebokeehhfboaaDoorSclRest
namespace Go.Proofs.YtoebokeehhfboaaDoor
open Go.RowKit
set_option linter.unusedVariables false
set_option linter.unusedSimpArgs false

/-- The variable order reads as the text lays it. -/
def GlobO (w : World) : Prop := w.rangeAt 0 0 (ints .i64 ORD)
theorem GlobO.ext {w w' : World} (h : GlobO w) (hb : Ext w w') : GlobO w' := glob_ext h hb
theorem GlobO.cell {w : World} (h : GlobO w) {j : Nat} (hj : j < 32) : w.cell? ⟨0, j, none⟩ = some (.int .i64 (ORD.getD j 0)) := by
  have := h j (.int .i64 (ORD.getD j 0)) (ints_get (by show j < 32; exact hj))
  rwa [Nat.zero_add] at this
theorem Tryd.arr38 : (Tryd.prog.info? 38).map (·.size) = some 33 := by kernel_rfl

set_option maxRecDepth 100000 in
set_option maxHeartbeats 4000000 in
theorem rsub_any (x : Nat) (w : World) (hx : x < 256 ^ 33) (hG : GlobO w) :
    Calls Tryd.prog 19 #[.agg (ints .i64 (dig 33 x)).toArray] w fun e w' => e = .returned (.agg (ints .i64 (dig 33 (if x < qN then x else x - qN))).toArray) ∧ Below w.heap.size w w' := by
  have HX := Lib.hid hx
  have HG := Lib.hid hG
  have HRL := Lib.hid (dig_length 33 x)
  have HRD := Lib.hid (dig_digits 33 x)
  have HDN : Hid (∀ m c, LS (dig 33 x) m c 33 → (c = 1 ∧ x < qN) ∨ (c = 0 ∧ qN ≤ x ∧ m = dig 33 (x - qN))) := Lib.hid (fun m c h => h.done hx)
  have HRS : Hid (dig 33 x = dig 33 x) := Lib.hid rfl
  obtain ⟨r, hr⟩ : ∃ r, r = dig 33 x := ⟨_, rfl⟩
  have HRX := Lib.hid hr
  have HR1 : Hid (∀ z, x < qN → z = dig 33 x → dig 33 (if x < qN then x else x - qN) = z) := Lib.hid (fun z h e => by rw [if_pos h, e])
  have HR2 : Hid (∀ z, qN ≤ x → z = dig 33 (x - qN) → dig 33 (if x < qN then x else x - qN) = z) := Lib.hid (fun z h e => by rw [if_neg (by omega), e])
  generalize dig 33 (if x < qN then x else x - qN) = res at *
  rw [← hr] at HRL HRD HDN ⊢
  have HB := Lib.hid (boxes2 w (ints .i64 r) (ints .i64 (List.replicate 33 0)) 38 38)
  have HB3 := Lib.hid (boxes3 w (ints .i64 r) (ints .i64 (List.replicate 33 0)) (ints .i64 (List.replicate 33 0)) 38 38 38)
  have HRI : Hid ((Tryd.prog.info? 38).map (·.size) = some (ints .i64 r).length) := Lib.hid (by rw [ints_length, HRL.out]; exact Tryd.arr38)
  have HRI2 : Hid ((ints .i64 r).length = (ints .i64 (List.replicate 33 0)).length) := Lib.hid (by rw [ints_length, ints_length, HRL.out]; rfl)
  clear hx hG hr HRS
  go_enter Tryd.func19, Tryd.ntmps19
  go_wp2_with (first | (refine wpList_load_blk rfl _ _ rfl w.heap.size rfl _ _ _ _ HB.out.1 Tryd.underlying38 HRI.out ?_) | (refine wpList_store_blk rfl _ _ _ rfl (w.heap.size + 1 + 1) _ rfl rfl _ _ HB3.out.2.2.1 HRI2.out HRI.out (ints_one _ _) ?_; intro w1 hb1 hg1))
  have b1 := HB3.out.1.grown hg1 (by simp; omega)
  have b2 := HB3.out.2.1.grown hg1 (by simp)
  have b4 : Ext w w1 := ext_grown HB3.out.2.2.2 hg1 (by omega)
  clear HB HB3 hg1
  obtain ⟨A, hA⟩ : ∃ A, A = w.heap.size := ⟨_, rfl⟩
  rw [← hA] at b1 b2 hb1 ⊢
  have hA2 : w.heap.size ≤ A := by omega
  have H1 := Lib.hid b1
  have H2 := Lib.hid b2
  have H3 := Lib.hid hb1
  have HE := Lib.hid b4
  clear b1 b2 hb1 b4 hA
  go_loopw [4, 5] (fun c i wr => ∃ (k : Nat) (d : Int) (m : List Int), k ≤ 33 ∧ i = .int .i64 (k : Int) ∧ c = .int .i64 d ∧ LS r m d k ∧ Blk wr A (ints .i64 r) 38 ∧ Blk wr (A + 1) (ints .i64 (List.replicate 33 0)) 38 ∧ Blk wr (A + 1 + 1) (ints .i64 m) 38 ∧ Ext w wr) (fun _ i _ => 33 - (intOf i).toNat)
  case atStart => exact ⟨0, 0, r, by omega, rfl, rfl, LS.start HRL.out, H1.out, H2.out, H3.out, HE.out⟩
  case round =>
    clear H1 H2 H3 HE
    obtain ⟨k, c, m, hk, rfl, rfl, hls, hb1, hb2, hb3, hbel⟩ := hrel
    have i0' : (0 : Int) ≤ (k : Int) := Int.natCast_nonneg _
    have hc := hls.car
    by_cases hlt : k < 33
    · have i1 : (k : Int) < 33 := by omega
      have hrl := HRL.out
      have hml := hls.len
      have e1 := hb1.cell k
      rw [ints_get (by omega)] at e1
      have e3 := hb3.cell k
      rw [ints_get (by omega)] at e3
      have f3 := hb3.free k
      have q1 := HRD.out k hlt
      have HRDK := Lib.hid q1
      generalize m.getD k 0 = u at e3
      by_cases h32 : k < 32
      · have i2 : (k : Int) < 32 := by omega
        have eg := (HG.out.ext hbel).cell h32
        have q2 := ORD_range k
        have hst := hls.step hlt HRL.out q1 (by rw [ORDX_lo h32]; exact q2) _ rfl
        rw [ORDX_lo h32] at hst
        by_cases hneg : r.getD k 0 - c - ORD.getD k 0 < 0
        all_goals
          have HST := Lib.hid hst
          have HNG := Lib.hid hneg
          generalize r.getD k 0 = a at *
          generalize ORD.getD k 0 = o at *
          have H1 := Lib.hid hb1
          have H2 := Lib.hid hb2
          have H3 := Lib.hid hb3
          have HE := Lib.hid hbel
          clear hst hb1 hb2 hb3 hbel hls hrl hml
          rcases hc with rfl | rfl
          all_goals
            go_wp2_with fail
            go_roundw
            case rel => exact ⟨k + 1, _, _, by omega, by go_num, rfl, (by first | exact HST.out.1 HNG.out _ (by omega) | exact HST.out.2 HNG.out _ (by omega)), H1.out.far (by simp <;> omega) _, H2.out.far (by simp <;> omega) _, H3.out.seti k _, Below.setCell HE.out (by simp; omega) _⟩
            case measure => simp [intOf]; omega
      · have hk32 : k = 32 := by omega
        subst hk32
        have hst := hls.step hlt HRL.out q1 (by rw [ORDX_top]; omega) _ rfl
        rw [ORDX_top] at hst
        by_cases hneg : r.getD 32 0 - c - 0 < 0
        all_goals
          have HST := Lib.hid hst
          have HNG := Lib.hid hneg
          generalize r.getD 32 0 = a at *
          have H1 := Lib.hid hb1
          have H2 := Lib.hid hb2
          have H3 := Lib.hid hb3
          have HE := Lib.hid hbel
          clear hst hb1 hb2 hb3 hbel hls hrl hml
          rcases hc with rfl | rfl
          all_goals (go_wp2_with fail)
          all_goals
            go_roundw
            case rel => exact ⟨32 + 1, _, _, by omega, by go_num, rfl, (by first | exact HST.out.1 HNG.out _ (by omega) | exact HST.out.2 HNG.out _ (by omega)), H1.out.far (by simp <;> omega) _, H2.out.far (by simp <;> omega) _, H3.out.seti 32 _, Below.setCell HE.out (by simp; omega) _⟩
            case measure => simp [intOf]
    · have hk33 : k = 33 := by omega
      subst hk33
      have hdn := HDN.out m c hls
      have hml := hls.len
      have HMI : Hid ((Tryd.prog.info? 38).map (·.size) = some (ints .i64 m).length) := Lib.hid (by rw [ints_length, hml]; exact Tryd.arr38)
      have HMI2 : Hid ((ints .i64 m).length = (ints .i64 (List.replicate 33 0)).length) := Lib.hid (by rw [ints_length, ints_length, hml]; rfl)
      have H1 := Lib.hid hb1
      have H2 := Lib.hid hb2
      have H3 := Lib.hid hb3
      have HE := Lib.hid hbel
      clear hb1 hb2 hb3 hbel hls hml hc
      rcases hdn with ⟨rfl, h1⟩ | ⟨rfl, h1, h2⟩
      · have HF := Lib.hid (HR1.out r h1 HRX.out)
        clear h1
        go_wp2_with (first | (refine wpList_load_blk rfl _ _ rfl A rfl _ _ _ _ H1.out Tryd.underlying38 HRI.out ?_) | (refine wpList_store_blk rfl _ _ _ rfl (A + 1) _ rfl rfl _ _ H2.out HRI2.out HRI.out (ints_one _ _) ?_; intro w7 hb7 hg7))
        exact bodyPost_ret (v := .agg (ints .i64 r).toArray) (result_row (by rfl) _ (A + 1) _ _ _ (by rfl) hb7 Tryd.underlying38 rfl HRI.out) rfl ⟨by rw [HF.out], ext_grown HE.out hg7 (by omega)⟩
      · have HF := Lib.hid (HR2.out m h1 h2)
        clear h1 h2
        go_wp2_with (first | (refine wpList_load_blk rfl _ _ rfl (A + 1 + 1) rfl _ _ _ _ H3.out Tryd.underlying38 HMI.out ?_) | (refine wpList_store_blk rfl _ _ _ rfl (A + 1) _ rfl rfl _ _ H2.out HMI2.out HMI.out (ints_one _ _) ?_; intro w7 hb7 hg7))
        exact bodyPost_ret (v := .agg (ints .i64 m).toArray) (result_row (by rfl) _ (A + 1) _ _ _ (by rfl) hb7 Tryd.underlying38 rfl HMI.out) rfl ⟨by rw [HF.out], ext_grown HE.out hg7 (by omega)⟩

end Go.Proofs.YtoebokeehhfboaaDoor
