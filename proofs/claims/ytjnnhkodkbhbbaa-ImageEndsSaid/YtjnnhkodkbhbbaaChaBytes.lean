/- The walk of package chacha's bytesOf. Each theorem names its own conditions. -/
import Derived.Test.YtjnnhkodkbhbbaaChaWord
namespace Go.Proofs.Ytjnnhkodkbhbbaa
open Go.RowKit
set_option linter.unusedVariables false
set_option linter.unusedSimpArgs false

theorem Try.arr77 : (Try.prog.info? 77).map (·.size) = some 16 := by kernel_rfl
theorem words_size {s : List W32} (h : s.length = 16) : (Try.prog.info? 77).map (·.size) = some (ints .u32 (ws s)).length := by rw [ints_length, ws_length, h]; exact Try.arr77
theorem index_wordsL {T e : TypeId} {n : Nat} (hT : Try.prog.underlying T = some (.array n e)) (hs : ∀ w, (sizeOf e).run Try.prog w = .ok 1 w) (ha : ∀ w, (isAgg e).run Try.prog w = .ok false w) (h : List W32) (hl : h.length = n) (k : Nat) (hk : k < n) (w : World) :
    (Instr.index T (.agg (ints .u32 (ws h)).toArray) (.int .i64 (k : Int))).run Try.prog w = .ok (.int .u32 (wi (h.getD k 0#32))) w := by
  have hg : (ints .u32 (ws h))[k]? = some (.int .u32 (wi (h.getD k 0#32))) := by rw [ints_get (by rw [ws_length, hl]; exact hk), ws_getD]
  have hi : 0 ≤ (k : Int) ∧ (k : Int) < (n : Int) := by omega
  unfold Instr.index
  simp only [asIntOf, Sem.run_bind, Sem.run_pure, Result.andThen_ok, run_underlying hT, hi, hs, part, ha]
  rw [if_pos ⟨trivial, trivial⟩]
  simp only [Sem.run_bind, hs, ha, Result.andThen_ok, Int.toNat_natCast, Nat.mul_one, List.getElem?_toArray, hg, Bool.false_eq_true, if_false, Sem.run_pure]

set_option maxRecDepth 100000 in
set_option maxHeartbeats 8000000 in
theorem cbytes_any (h : List W32) (hh : h.length = 16) (w : World) : Calls Try.prog 49 #[.agg (ints .u32 (ws h)).toArray] w fun e w' => e = .returned (.agg ((leB h 64).map bval).toArray) ∧ Below w.heap.size w w' := by
  have HH := Lib.hid hh
  have HB := Lib.hid (boxes3 w (ints .u32 (ws h)) (ints .u8 (List.replicate 64 0)) (ints .u8 (List.replicate 64 0)) 77 68 68)
  have HIr := Lib.hid (words_size hh)
  clear hh
  go_enter Try.func49, Try.ntmps49
  go_upto_region 2 with (fail)
  obtain ⟨H1, H2, H3, HE⟩ := HB.out
  change Code.wp _ _ _ _ (((w.alloc (.cells (ints .u32 (ws h)).toArray 77)).alloc (.cells (ints .u8 (List.replicate 64 0)).toArray 68)).alloc (.cells (ints .u8 (List.replicate 64 0)).toArray 68))
  generalize (((w.alloc (.cells (ints .u32 (ws h)).toArray 77)).alloc (.cells (ints .u8 (List.replicate 64 0)).toArray 68)).alloc (.cells (ints .u8 (List.replicate 64 0)).toArray 68)) = w3 at *
  obtain ⟨A, hA⟩ : ∃ A, A = w.heap.size := ⟨_, rfl⟩
  rw [← hA] at H1 H2 H3 ⊢
  have hA2 : w.heap.size ≤ A := by omega
  have H1 := Lib.hid H1
  have H2 := Lib.hid H2
  have H3 := Lib.hid H3
  have HE : Hid (Ext w w3) := Lib.hid HE
  clear hA HB
  go_wp2_with (refine wpList_load_blk rfl _ _ rfl A rfl _ _ _ _ H1.out Try.underlying77 HIr.out ?_)
  go_loopw [7] (fun iv wr => ∃ (k : Nat), k ≤ 16 ∧ iv = .int .i64 (k : Int) ∧ Blk wr (A + 1) (ints .u8 (List.replicate 64 0)) 68 ∧ Blk wr (A + 1 + 1) ((putK h k).map bval) 68 ∧ Ext w wr) (fun iv _ => 16 - (intOf iv).toNat)
  case atStart => exact ⟨0, by omega, rfl, H2.out, by rw [putK, List.map_replicate]; exact H3.out, HE.out⟩
  case round =>
    clear H1 H2 H3 HE
    obtain ⟨k, hk, rfl, hb2, hb3, hbel⟩ := hrel
    have k0 : (0 : Int) ≤ (k : Int) := Int.natCast_nonneg _
    by_cases hlk : k < 16
    · have k1 : (k : Int) < 16 := by omega
      have hi := index_wordsL Try.underlying77 Try.sizeOf75 Try.isAgg75 h HH.out k hlk
      have hs := cut_arrL Try.underlying68 Try.sizeOf5 wr (A + 1 + 1) (4 * k) (by omega)
      have e4 : ((4 * k : Nat) : Int) = 4 * (k : Int) := by omega
      rw [e4] at hs
      have HP := Lib.hid (cput_any (A + 1 + 1) (4 * k) (64 - 4 * k) (64 - 4 * k) (putK h k) (h.getD k 0#32) _ wr hb3 (by rw [putK_length]; omega) (by omega))
      have HK : Hid (putK h (k + 1) = put4L (putK h k) (4 * k) (h.getD k 0#32)) := Lib.hid rfl
      have H2 := Lib.hid hb2
      have HE := Lib.hid hbel
      clear hb2 hb3 hbel e4
      generalize h.getD k 0#32 = y at *
      go_wp2_with fail
      refine HP.out.mono ?_
      rintro e w4 ⟨rfl, hb, hg⟩
      have H2 := Lib.hid (H2.out.grown hg (by simp))
      have HE := Lib.hid (ext_grown HE.out hg (by omega))
      have H3 := Lib.hid hb
      clear hb hg HP hs hi
      go_wp2_with fail
      go_roundw
      case rel => exact ⟨k + 1, by omega, by go_num, H2.out, by rw [HK.out]; exact H3.out, HE.out⟩
      case measure => simp [intOf]; omega
    · have hk8 : k = 16 := by omega
      subst hk8
      rw [putK_full h] at hb3
      have H2 := Lib.hid hb2
      have H3 := Lib.hid hb3
      have HE := Lib.hid hbel
      clear hb2 hb3 hbel
      have HIo : Hid ((Try.prog.info? 68).map (·.size) = some ((leB h 64).map bval).length) := Lib.hid (sig_size (leB_length h 64))
      have HLo : Hid (((leB h 64).map bval).length = (ints .u8 (List.replicate 64 0)).length) := Lib.hid (by rw [List.length_map, leB_length, ints_length, List.length_replicate])
      go_wp2_with (first | (refine wpList_load_blk rfl _ _ rfl (A + 1 + 1) rfl _ _ _ _ H3.out Try.underlying68 HIo.out ?_) | (refine wpList_store_blk rfl _ _ _ rfl (A + 1) ((leB h 64).map bval) rfl rfl _ _ H2.out HLo.out HIo.out (bval_one _) ?_; intro w4 hb4 hg4))
      refine bodyPost_ret (result_blk rfl _ (A + 1) _ _ _ _ rfl hb4 Try.underlying68 HIo.out) rfl ?_
      exact ⟨rfl, ext_grown HE.out hg4 (by omega)⟩

end Go.Proofs.Ytjnnhkodkbhbbaa
