/- The walk of the code's repeated squares. Each theorem names its own conditions. -/
import Derived.Test.YtmiapjmdolecbaaDoorFldTimes
namespace Go.Proofs.YtmiapjmdolecbaaDoor
open Go.RowKit
set_option linter.unusedVariables false
set_option linter.unusedSimpArgs false

set_option maxHeartbeats 4000000 in
theorem squared_any (x : L5) (n : Nat) (hx : x.lt 18014398509481984) (hn : n < 1000) (w : World) :
    Calls Tryd.prog 26 #[x.v, .int .i64 n] w fun e w' => e = .returned (sqL x n).v ∧ Below w.heap.size w w' := by
  have HX := Lib.hid hx
  have HN := Lib.hid hn
  have HB := Lib.hid (boxes2 w x.vs zero5 33 33)
  clear hx hn
  unfold L5.v
  go_enter Tryd.func26, Tryd.ntmps26
  go_wp2_with fail
  change Code.wp _ _ _ _ ((w.alloc (.cells x.vs.toArray 33)).alloc (.cells zero5.toArray 33))
  generalize (w.alloc (.cells x.vs.toArray 33)).alloc (.cells zero5.toArray 33) = w0 at *
  obtain ⟨h1, h2, h4⟩ := HB.out
  obtain ⟨A, hA⟩ : ∃ A, A = w.heap.size := ⟨_, rfl⟩
  rw [← hA] at h1 h2 ⊢
  have hA2 : w.heap.size ≤ A := by omega
  have H1 := Lib.hid h1
  have H2 := Lib.hid h2
  have HE : Hid (Ext w w0) := Lib.hid h4
  clear h1 h2 h4 HB hA
  go_loopw [6] (fun i wr => ∃ k : Nat, k ≤ n ∧ i = .int .i64 k ∧ Blk wr A (sqL x k).vs 33 ∧ Blk wr (A + 1) zero5 33 ∧ Ext w wr) (fun i _ => n - (intOf i).toNat)
  case atStart => exact ⟨0, Nat.zero_le _, rfl, H1.out, H2.out, HE.out⟩
  case round =>
    clear H1 H2 HE
    obtain ⟨k, hk, rfl, hb1, hb2, hbe⟩ := hrel
    have i0' : (0 : Int) ≤ (k : Int) := Int.natCast_nonneg _
    have hn := HN.out
    by_cases hlt : k < n
    · have i1 : (k : Int) < (n : Int) := by omega
      have HT := Lib.hid (times_any (sqL x k) (sqL x k) (sqL_lt HX.out k) (sqL_lt HX.out k))
      have H1 := Lib.hid hb1
      have H2 := Lib.hid hb2
      have HE := Lib.hid hbe
      clear hb1 hb2 hbe
      go_wp2_with (refine wpList_load_blk rfl _ _ rfl A rfl _ _ _ _ H1.out Tryd.underlying33 Tryd.arr33 ?_)
      refine (HT.out _).mono ?_
      rintro e w1 ⟨rfl, hb1⟩
      have H1 := Lib.hid (ext_blk H1.out hb1)
      have H2 := Lib.hid (ext_blk H2.out hb1)
      have HE := Lib.hid (HE.out.trans hb1)
      clear hb1
      go_wp2_with (refine wpList_store_blk rfl _ _ _ rfl A (sqL x (k + 1)).vs rfl rfl _ _ H1.out rfl Tryd.arr33 (L5.vs_one _) ?_; intro w2 hb2 hg2)
      go_roundw
      case rel => exact ⟨k + 1, by omega, by go_num, hb2, H2.out.grown hg2 (by simp), ext_grown HE.out hg2 hA2⟩
      case measure => simp [intOf]; omega
    · have hk' : k = n := by omega
      subst hk'
      have H1 := Lib.hid hb1
      have H2 := Lib.hid hb2
      have HE := Lib.hid hbe
      clear hb1 hb2 hbe
      go_wp2_with (first | (refine wpList_load_blk rfl _ _ rfl A rfl _ _ _ _ H1.out Tryd.underlying33 Tryd.arr33 ?_) | (refine wpList_store_blk rfl _ _ _ rfl (A + 1) (sqL x k).vs rfl rfl _ _ H2.out rfl Tryd.arr33 (L5.vs_one _) ?_; intro w2 hb2 hg2))
      exact bodyPost_ret (v := (sqL x k).v) (result_row (by rfl) _ (A + 1) _ _ _ (by rfl) hb2 Tryd.underlying33 rfl Tryd.arr33) rfl ⟨rfl, ext_grown HE.out hg2 (by omega)⟩

end Go.Proofs.YtmiapjmdolecbaaDoor
