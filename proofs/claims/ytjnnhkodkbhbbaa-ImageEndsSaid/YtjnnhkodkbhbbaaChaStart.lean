/- The walk of package chacha's start. Each theorem names its own conditions. -/
import Derived.Test.YtjnnhkodkbhbbaaChaBytes
import Derived.Test.YtjnnhkodkbhbbaaRefTurnK
namespace Go.Proofs.Ytjnnhkodkbhbbaa
open Go.RowKit
set_option linter.unusedVariables false
set_option linter.unusedSimpArgs false

theorem build_consts (w : World) : (Instr.build 77 #[(0, .int .u32 1634760805), (1, .int .u32 857760878), (2, .int .u32 2036477234), (3, .int .u32 1797285236)]).run Try.prog w = .ok (.agg (ints .u32 (ws (chaK [] 0))).toArray) w := by
  simp [Instr.build, Try.zeroValue77]
  rfl

set_option maxRecDepth 100000 in
set_option maxHeartbeats 8000000 in
theorem cstart_any (kb nb : List UInt8) (c : Int) (w : World) (hk : kb.length = 32) (hn : nb.length = 12) (hc1 : -9223372036854775808 ≤ c) (hc2 : c ≤ 9223372036854775807) :
    Calls Try.prog 51 #[.agg (kb.map bval).toArray, .int .i64 c, .agg (nb.map bval).toArray] w fun e w' => e = .returned (.agg (ints .u32 (ws (chaInit kb (BitVec.ofInt 32 c) nb))).toArray) ∧ Below w.heap.size w w' := by
  have HKL := Lib.hid hk
  have HNL := Lib.hid hn
  have HB := Lib.hid (boxes4 w (kb.map bval) (nb.map bval) (ints .u32 (List.replicate 16 0)) (ints .u32 (List.replicate 16 0)) 34 44 77 77)
  have HC0 : Hid (IntKind.u32.wrap c = wi (BitVec.ofInt 32 c)) := Lib.hid (by rw [← ctr_word c, IntKind.wrap_u32, IntKind.wrap_u32]; omega)
  obtain ⟨ctr, hctr⟩ : ∃ v, v = BitVec.ofInt 32 c := ⟨_, rfl⟩
  have HCTR := Lib.hid hctr
  rw [← hctr] at HC0
  clear hk hn hc1 hc2 hctr
  go_enter Try.func51, Try.ntmps51
  obtain ⟨H1, H2, H3, H4, HE⟩ := HB.out
  have H1 := Lib.hid H1
  have H2 := Lib.hid H2
  have H3 := Lib.hid H3
  have H4 := Lib.hid H4
  have HE : Hid (Ext w _) := Lib.hid HE
  have HL4 : Hid ((ints .u32 (ws (chaK [] 0))).length = (ints .u32 (List.replicate 16 0)).length) := Lib.hid (by rw [ints_length, ws_length, chaK_length, ints_length, List.length_replicate])
  have HI4 := Lib.hid (words_size (chaK_length [] 0))
  clear HB
  have hbz := build_consts
  go_upto_region 2 with (refine wpList_store_blk rfl _ _ _ rfl (w.heap.size + 1 + 1 + 1) (ints .u32 (ws (chaK [] 0))) rfl rfl _ _ H4.out HL4.out HI4.out (ints_one _ _) ?_; intro wa hb4 hg4)
  have H1 := Lib.hid (H1.out.grown hg4 (by simp; omega))
  have H2 := Lib.hid (H2.out.grown hg4 (by simp; omega))
  have H3 := Lib.hid (H3.out.grown hg4 (by simp))
  have HE := Lib.hid (ext_grown HE.out hg4 (by omega))
  have H4 : Hid (Blk wa (w.heap.size + 1 + 1 + 1) (ints .u32 (ws (chaK kb 0))) 77) := Lib.hid hb4
  obtain ⟨B, hB⟩ : ∃ B, B = w.heap.size := ⟨_, rfl⟩
  have HBW : Hid (w.heap.size ≤ B) := Lib.hid (by omega)
  rw [← hB] at H1 H2 H3 H4 ⊢
  clear hb4 hg4 hbz HL4 HI4 hB
  obtain ⟨S, hS⟩ : ∃ S, S = B + 1 + 1 + 1 := ⟨_, rfl⟩
  have HSB : Hid (B + 3 ≤ S ∧ S ≤ B + 3) := Lib.hid (by omega)
  rw [← hS] at H4 ⊢
  clear hS
  obtain ⟨R, hR⟩ : ∃ R, R = B + 1 + 1 := ⟨_, rfl⟩
  have HRB : Hid (B + 2 ≤ R ∧ R ≤ B + 2) := Lib.hid (by omega)
  rw [← hR] at H3 ⊢
  clear hR
  go_wp2_with fail
  go_loopw [11] (fun iv wr => ∃ (k : Nat), k ≤ 8 ∧ iv = .int .i64 (k : Int) ∧ Blk wr B (kb.map bval) 34 ∧ Blk wr (B + 1) (nb.map bval) 44 ∧ Blk wr R (ints .u32 (List.replicate 16 0)) 77 ∧ Blk wr S (ints .u32 (ws (chaK kb k))) 77 ∧ Ext w wr) (fun iv _ => 8 - (intOf iv).toNat)
  case atStart => exact ⟨0, by omega, rfl, H1.out, H2.out, H3.out, H4.out, HE.out⟩
  case round =>
    clear H1 H2 H3 H4 HE
    obtain ⟨k, hk, rfl, hb1, hb2, hb3, hb4, hbel⟩ := hrel
    have k0 : (0 : Int) ≤ (k : Int) := Int.natCast_nonneg _
    by_cases hlk : k < 8
    · have k1 : (k : Int) < 8 := by omega
      have hs := cut_arrL Try.underlying34 Try.sizeOf5 wr (B) (4 * k) (by omega)
      have e4 : ((4 * k : Nat) : Int) = 4 * (k : Int) := by omega
      rw [e4] at hs
      have HW := Lib.hid (cword_any (B) (4 * k) (32 - 4 * k) (32 - 4 * k) kb 34 wr hb1 (by have := HKL.out; omega) (by omega))
      have H1 := Lib.hid hb1
      have H2 := Lib.hid hb2
      have H3 := Lib.hid hb3
      have H4 := Lib.hid hb4
      have HE := Lib.hid hbel
      clear hb1 hb2 hb3 hb4 hbel e4
      go_wp2_with fail
      refine HW.out.mono ?_
      rintro e w5 ⟨rfl, rfl⟩
      have H1 : Hid (Blk wr.drew B (kb.map bval) 34) := Lib.hid H1.out
      have H2 : Hid (Blk wr.drew (B + 1) (nb.map bval) 44) := Lib.hid H2.out
      have H3 : Hid (Blk wr.drew R (ints .u32 (List.replicate 16 0)) 77) := Lib.hid H3.out
      have H4 : Hid (Blk wr.drew S (ints .u32 (ws (chaK kb k))) 77) := Lib.hid H4.out
      have HE : Hid (Ext w wr.drew) := Lib.hid (HE.out.trans (Ext.drew _))
      clear HW hs
      generalize wr.drew = w5 at *
      have f0 := H4.out.free (4 + k)
      obtain ⟨u, c0⟩ : ∃ u, w5.cell? ⟨S, 4 + k, none⟩ = some u := ⟨_, word_cell H4.out (by rw [chaK_length]; omega)⟩
      have i0 : (0 : Int) ≤ 4 + (k : Int) := by omega
      have i1 : (4 : Int) + (k : Int) < 16 := by omega
      have i2 : ((4 : Int) + (k : Int)).toNat = 4 + k := by omega
      have HX : Hid (Blk (w5.setCell ⟨S, 4 + k, none⟩ (.int .u32 (wi (leW kb (4 * k))))) S (ints .u32 (ws (chaK kb (k + 1)))) 77) := Lib.hid (set_word H4.out (4 + k) _ (leW kb (4 * k)) rfl)
      generalize leW kb (4 * k) = lw at *
      go_wp2_with fail
      go_roundw
      case rel => exact ⟨k + 1, by omega, by go_num, H1.out.far (by have := HSB.out; simp; omega) _, H2.out.far (by have := HSB.out; simp; omega) _, H3.out.far (by have := HSB.out; have := HRB.out; simp; omega) _, HX.out, far_ext HE.out (by have := HBW.out; have := HSB.out; omega)⟩
      case measure => simp [intOf]; omega
    · have hk8 : k = 8 := by omega
      subst hk8
      rw [show ((8 : Nat) : Int) = 8 from rfl]
      have H1 := Lib.hid hb1
      have H2 := Lib.hid hb2
      have H3 := Lib.hid hb3
      have H4 := Lib.hid hb4
      have HE := Lib.hid hbel
      clear hb1 hb2 hb3 hb4 hbel k0 hk
      have f0 := H4.out.free 12
      obtain ⟨u, c0⟩ : ∃ u, wr.cell? ⟨S, 12, none⟩ = some u := ⟨_, word_cell H4.out (by rw [chaK_length]; omega)⟩
      have HX : Hid (Blk (wr.setCell ⟨S, 12, none⟩ (.int .u32 (wi ctr))) S (ints .u32 (ws (chaN kb ctr nb 0))) 77) := Lib.hid (set_word H4.out 12 _ ctr rfl)
      have hc0 := HC0.out
      have H1n := Lib.hid (H1.out.far (a := ⟨S, 12, none⟩) (by have := HSB.out; simp; omega) (.int .u32 (wi ctr)))
      have H2n := Lib.hid (H2.out.far (a := ⟨S, 12, none⟩) (by have := HSB.out; simp; omega) (.int .u32 (wi ctr)))
      have H3n := Lib.hid (H3.out.far (a := ⟨S, 12, none⟩) (by have := HSB.out; have := HRB.out; simp; omega) (.int .u32 (wi ctr)))
      have HEn : Hid (Ext w (wr.setCell ⟨S, 12, none⟩ (.int .u32 (wi ctr)))) := Lib.hid (far_ext HE.out (by have := HBW.out; have := HSB.out; omega))
      go_upto_region 8 with (fail)
      clear H1 H2 H3 H4 HE f0 c0 hc0
      generalize wr.setCell ⟨S, 12, none⟩ (.int .u32 (wi ctr)) = w6 at *
      have H1 := H1n
      have H2 := H2n
      have H3 := H3n
      have H4 := HX
      have HE := HEn
      clear H1n H2n H3n HX HEn
      go_wp2_with fail
      go_loopw [25] (fun iv wr => ∃ (k : Nat), k ≤ 3 ∧ iv = .int .i64 (k : Int) ∧ Blk wr B (kb.map bval) 34 ∧ Blk wr (B + 1) (nb.map bval) 44 ∧ Blk wr R (ints .u32 (List.replicate 16 0)) 77 ∧ Blk wr S (ints .u32 (ws (chaN kb ctr nb k))) 77 ∧ Ext w wr) (fun iv _ => 3 - (intOf iv).toNat)
      case atStart => exact ⟨0, by omega, rfl, H1.out, H2.out, H3.out, H4.out, HE.out⟩
      case round =>
        clear H1 H2 H3 H4 HE
        obtain ⟨k, hk, rfl, hb1, hb2, hb3, hb4, hbel⟩ := hrel
        have k0 : (0 : Int) ≤ (k : Int) := Int.natCast_nonneg _
        by_cases hlk : k < 3
        · have k1 : (k : Int) < 3 := by omega
          have hs := cut_arrL Try.underlying44 Try.sizeOf5 wr ((B + 1)) (4 * k) (by omega)
          have e4 : ((4 * k : Nat) : Int) = 4 * (k : Int) := by omega
          rw [e4] at hs
          have HW := Lib.hid (cword_any ((B + 1)) (4 * k) (12 - 4 * k) (12 - 4 * k) nb 44 wr hb2 (by have := HNL.out; omega) (by omega))
          have H1 := Lib.hid hb1
          have H2 := Lib.hid hb2
          have H3 := Lib.hid hb3
          have H4 := Lib.hid hb4
          have HE := Lib.hid hbel
          clear hb1 hb2 hb3 hb4 hbel e4
          go_wp2_with fail
          refine HW.out.mono ?_
          rintro e w5 ⟨rfl, rfl⟩
          have H1 : Hid (Blk wr.drew B (kb.map bval) 34) := Lib.hid H1.out
          have H2 : Hid (Blk wr.drew (B + 1) (nb.map bval) 44) := Lib.hid H2.out
          have H3 : Hid (Blk wr.drew R (ints .u32 (List.replicate 16 0)) 77) := Lib.hid H3.out
          have H4 : Hid (Blk wr.drew S (ints .u32 (ws (chaN kb ctr nb k))) 77) := Lib.hid H4.out
          have HE : Hid (Ext w wr.drew) := Lib.hid (HE.out.trans (Ext.drew _))
          clear HW hs
          generalize wr.drew = w5 at *
          have f0 := H4.out.free (13 + k)
          obtain ⟨u, c0⟩ : ∃ u, w5.cell? ⟨S, 13 + k, none⟩ = some u := ⟨_, word_cell H4.out (by rw [chaN_length]; omega)⟩
          have i0 : (0 : Int) ≤ 13 + (k : Int) := by omega
          have i1 : (13 : Int) + (k : Int) < 16 := by omega
          have i2 : ((13 : Int) + (k : Int)).toNat = 13 + k := by omega
          have HX : Hid (Blk (w5.setCell ⟨S, 13 + k, none⟩ (.int .u32 (wi (leW nb (4 * k))))) S (ints .u32 (ws (chaN kb ctr nb (k + 1)))) 77) := Lib.hid (set_word H4.out (13 + k) _ (leW nb (4 * k)) rfl)
          generalize leW nb (4 * k) = lw at *
          go_wp2_with fail
          go_roundw
          case rel => exact ⟨k + 1, by omega, by go_num, H1.out.far (by have := HSB.out; simp; omega) _, H2.out.far (by have := HSB.out; simp; omega) _, H3.out.far (by have := HSB.out; have := HRB.out; simp; omega) _, HX.out, far_ext HE.out (by have := HBW.out; have := HSB.out; omega)⟩
          case measure => simp [intOf]; omega
        · have hk8 : k = 3 := by omega
          subst hk8
          rw [show ((3 : Nat) : Int) = 3 from rfl]
          have H1 := Lib.hid hb1
          have H2 := Lib.hid hb2
          have H3 := Lib.hid hb3
          have H4 := Lib.hid hb4
          have HE := Lib.hid hbel
          clear hb1 hb2 hb3 hb4 hbel k0 hk
          rw [chaN_full] at H4
          have HSL := Lib.hid (chaInit_length kb ctr nb)
          rw [HCTR.out] at H4 HSL
          obtain ⟨s, hs⟩ : ∃ s, s = chaInit kb (BitVec.ofInt 32 c) nb := ⟨_, rfl⟩
          rw [← hs] at H4 HSL
          have HSS := Lib.hid hs
          clear hs
          have HIs := Lib.hid (words_size HSL.out)
          have HLs : Hid ((ints .u32 (ws s)).length = (ints .u32 (List.replicate 16 0)).length) := Lib.hid (by rw [ints_length, ws_length, HSL.out, ints_length, List.length_replicate])
          go_wp2_with (first | (refine wpList_load_blk rfl _ _ rfl S rfl _ _ _ _ H4.out Try.underlying77 HIs.out ?_) | (refine wpList_store_blk rfl _ _ _ rfl R (ints .u32 (ws s)) rfl rfl _ _ H3.out HLs.out HIs.out (ints_one _ _) ?_; intro w7 hb7 hg7))
          refine bodyPost_ret (result_blk rfl _ R _ _ _ _ rfl hb7 Try.underlying77 HIs.out) rfl ?_
          exact ⟨by rw [HSS.out], ext_grown HE.out hg7 (by have := HBW.out; have := HRB.out; omega)⟩

end Go.Proofs.Ytjnnhkodkbhbbaa
