/- Texts that belong together, one behind the other. -/
import Derived.Test.YtimmnieopifcbaaGreatDoorRows
import Derived.Test.YtimmnieopifcbaaGreatDoorQz11
namespace Go.Proofs.YtimmnieopifcbaaGreatDoor
set_option linter.unusedVariables false
set_option maxRecDepth 100000
set_option maxHeartbeats 32000000
set_option linter.unusedSimpArgs false
open Go.RowKit
section
open Go.ChangeShapes Go.WideShapes Go.ChangeAt Go.RowKit
section
variable {H : Type} {enc : TypeId × Value → H} {P : Program} {W : World} {sp : Nat → Bool}
theorem row1_of_trod {t e : TypeId} {fuel : Nat} {v : Value} {y : DataW H × List MemPlace} (ht : P.underlying t = some (.slice e)) (hc : P.cellsOf e = 1)
  (hf : DataW.trod enc P W 0 (fun _ => true) true fuel t [v] = some y) :
  ∃ vs : List Value, Row1 W v vs ∧ ∀ x ∈ vs, ∃ n y, DataW.trod enc P W 0 (fun _ => true) true n e [x] = some y := by
 rcases Deep.open_slice1 ht hc hf with ⟨hcs, _⟩ | ⟨a1, len1, cap1, m, n, V, D, Pl, hcs, hb, hl, hm, hmm, _, hx⟩
 ·obtain rfl : v = .slice none 0 0 := by simpa using hcs
  exact ⟨[], Row1.nil W, fun x hx => by cases hx⟩
 ·obtain rfl : v = .slice (some a1) len1 cap1 := by simpa using hcs
  simp only [if_true] at hmm
  refine ⟨(List.range len1).map V, ⟨some a1, cap1, by simp, by simpa using hl, hm, (fun e => by cases e), fun hne => ?_⟩, ?_⟩
  ·have h0 : 0 < len1 := by
    rcases Nat.eq_zero_or_pos len1 with h | h
    ·subst h; exact absurd rfl hne
    ·exact h
   obtain ⟨b, off, spot⟩ := a1
   have hspot : spot = none := by simpa [Addr.add] using World.cell?_spot ((hx 0 (by omega)).1)
   subst hspot
   refine ⟨b, off, rfl, ?_, fun i hi => ?_⟩
   ·have := (hx 0 (by omega)).1
    exact World.block_lt_of_cell? W _ this
   ·have hi' : i < len1 := by simpa using hi
    rw [← add_plain, (hx i (by omega)).1]
    simp [hi']
  ·intro x hxm
   obtain ⟨i, hi, rfl⟩ := List.mem_map.1 hxm
   have hi' : i < len1 := by simpa using hi
   exact ⟨n, _, (hx i (by omega)).2⟩
theorem bytes_of_trod {t e : TypeId} {fuel : Nat} {v : Value} {y : DataW H × List MemPlace} (ht : P.underlying t = some (.slice e)) (he : P.underlying e = some (.int .u8)) (hc : P.cellsOf e = 1)
  (hf : DataW.trod enc P W 0 (fun _ => true) true fuel t [v] = some y) : ∃ l : List UInt8, Row1 W v (l.map bval) := by
 obtain ⟨vs, h1, h2⟩ := row1_of_trod ht hc hf
 obtain ⟨l, rfl, _⟩ := list_of_all (f := bval) (p := fun _ => True) (fun x hx => by
  obtain ⟨n, y, h⟩ := h2 x hx
  obtain ⟨b, rfl, hw⟩ := cell_int he h
  have hb : 0 ≤ b ∧ b ≤ 255 := by simpa [Lit.wf, IntKind.min, IntKind.max, IntKind.signed, IntKind.bits] using hw
  refine ⟨UInt8.ofNat b.toNat, ?_, trivial⟩
  unfold bval
  congr 1
  rw [UInt8.toNat_ofNat']
  omega)
 exact ⟨l, h1⟩
theorem open_bytes {base0 : Nat} {r : Reach} {t e : TypeId} {v : Value} {d : DataW H} {ps : List MemPlace} (ht : P.underlying t = some (.slice e)) (he : P.underlying e = some (.int .u8)) (hc : P.cellsOf e = 1)
  (hval : Value.okWide P W r base0 t v) (hd : DataW.Trod enc P W 0 (fun _ => true) true t v d ps) : ∃ l : List UInt8, Row1 W v (l.map bval) := by
 obtain ⟨a, len, cap, rfl⟩ := okWide_slice ht hval
 obtain ⟨fuel, hf⟩ := hd
 exact bytes_of_trod (y := (d, ps)) ht he hc (by simpa [Value.cells] using hf)
end
end
theorem wrapOpens_any (s b : List UInt8) (bv : Value) (w : World) (hs : s.length = 32) (hb : Row1 w bv (b.map bval)) (hG : GlobR w) (hK : GlobK w) : Calls Tryz.prog 4 #[.agg (s.map bval).toArray, bv] w fun e w' => e = .returned (.bool true) ∧ Below w.heap.size w w' := by
 have HG := jh hG
 have HGK := jh hK
 have HSL := jh hs
 have HR := jh hb
 obtain ⟨ab, capb, hbv, r1, r2, _⟩ := id hb
 rw [List.length_map] at hbv r1
 subst hbv
 unfold maxLen at r2
 have hb0 : (0 : Int) ≤ (b.length : Int) := Int.natCast_nonneg _
 clear hs hb hG hK
 have HU0 := jh (fun bv w hb hG => WUnwrap_num s b bv w HSL.out hb hG)
 have HU1 := jh (fun bv w hb hG => rUnwrap_any s b bv w HSL.out hb hG)
 have HyL : Hid ((unwK s b).length = 32) := jh unwK_length
 generalize unwK s b = y at *
 generalize unwE s b = er at *
 have HB := jh (show Blk (w.alloc (.cells (s.map bval).toArray 23)) w.heap.size (s.map bval) 23 ∧ Ext w (w.alloc (.cells (s.map bval).toArray 23)) from ⟨Blk.made w _ _, Ext.alloc w _⟩)
 go_enter Tryz.func4, Tryz.ntmps4
 go_upto_region 1 with (fail)
 obtain ⟨H1, HE⟩ := HB.out
 change Code.wp _ _ _ _ ((w.alloc (.cells (s.map bval).toArray 23)))
 generalize (w.alloc (.cells (s.map bval).toArray 23)) = wa at *
 obtain ⟨A, hA⟩ : ∃ A, A = w.heap.size := ⟨_, rfl⟩
 rw [← hA] at H1 ⊢
 have H1 := jh H1
 have HE : Hid (Ext w wa) := jh HE
 clear hA HB
 have HR := jh (HR.out.below HE.out)
 have HIs := jh (zaf HSL.out)
 have HIy := jh (zaf HyL.out)
 have HZy : Hid ((y.map bval).length = (ints .u8 (List.replicate 32 0)).length) := jh (by rw [List.length_map, zad, HyL.out]; rfl)
 go_wp2_with fail
 refine (alive_any14 wa (HG.out.ext HE.out)).mono ?_
 rintro e wb ⟨rfl, hb⟩
 have H1 := jh (zaa H1.out hb)
 have HR := jh (HR.out.below hb)
 have HE := jh (HE.out.trans hb)
 clear hb
 by_cases h200 : 200 < b.length
 ·have h200' : (200 : Int) < (b.length : Int) := by omega
  go_wp2_with fail
  go_ret
  exact ⟨rfl, HE.out⟩
 ·have h200' : ¬ (200 : Int) < (b.length : Int) := by omega
  go_wp2_with (first | (refine zab rfl _ _ rfl (A) rfl _ _ _ _ H1.out Tryz.underlying23 HIs.out ?_))
  refine (HU0.out _ wb HR.out (HG.out.ext HE.out)).mono ?_
  rintro e wc ⟨rfl, hb⟩
  have H1 := jh (zaa H1.out hb)
  have HR := jh (HR.out.below hb)
  have HE := jh (HE.out.trans hb)
  clear hb
  have HZ := jh (Blk.made wc (ints .u8 (List.replicate 32 0)) 23)
  have HEA := jh (Ext.alloc wc (.cells (ints .u8 (List.replicate 32 0)).toArray 23))
  go_upto_region 5 with (refine zac rfl _ _ _ rfl wc.heap.size (y.map bval) rfl rfl _ _ HZ.out HZy.out HIy.out (zag _) ?_; intro wd hb2 hg2)
  have HX := jh (zae HEA.out hg2 (Nat.le_refl _))
  have H1 := jh (zaa H1.out HX.out)
  have HR := jh (HR.out.below HX.out)
  have HE := jh (HE.out.trans HX.out)
  have HD := jh hb2
  generalize wc.heap.size = D at *
  clear hb2 hg2 HZ HEA HX
  go_wp2_with (first | (refine zab rfl _ _ rfl (A) rfl _ _ _ _ H1.out Tryz.underlying23 HIs.out ?_))
  refine (HU1.out _ wd HR.out (HGK.out.ext HE.out)).mono ?_
  rintro e we ⟨rfl, hb⟩
  have H1 := jh (zaa H1.out hb)
  have HD := jh (zaa HD.out hb)
  have HR := jh (HR.out.below hb)
  have HE := jh (HE.out.trans hb)
  clear hb
  have HZ := jh (Blk.made we (ints .u8 (List.replicate 32 0)) 23)
  have HEA := jh (Ext.alloc we (.cells (ints .u8 (List.replicate 32 0)).toArray 23))
  go_upto_region 6 with (refine zac rfl _ _ _ rfl we.heap.size (y.map bval) rfl rfl _ _ HZ.out HZy.out HIy.out (zag _) ?_; intro wf hb2 hg2)
  have HX := jh (zae HEA.out hg2 (Nat.le_refl _))
  have H1 := jh (zaa H1.out HX.out)
  have HD := jh (zaa HD.out HX.out)
  have HR := jh (HR.out.below HX.out)
  have HE := jh (HE.out.trans HX.out)
  have HEv := jh hb2
  generalize we.heap.size = E at *
  clear hb2 hg2 HZ HEA HX
  go_wp2_with fail
  refine (wra_num_any er wf).mono ?_
  rintro e wq ⟨rfl, rfl⟩
  go_wp2_with (first | (refine wpList_eql (by rfl) _ _ _ _ _ _ 32 _ y y true rfl (Or.inl ⟨rfl, decide_eq_true rfl⟩) Tryz.underlying23 Tryz.underlying5 num_info zek num_guard rfl rfl HyL.out HyL.out ?_) | (refine zei (by rfl) _ _ rfl (D) rfl _ _ _ _ HD.out Tryz.underlying23 HIy.out ?_) | (refine zei (by rfl) _ _ rfl (E) rfl _ _ _ _ HEv.out Tryz.underlying23 HIy.out ?_))
  go_ret
  exact ⟨rfl, HE.out⟩
end Go.Proofs.YtimmnieopifcbaaGreatDoor
