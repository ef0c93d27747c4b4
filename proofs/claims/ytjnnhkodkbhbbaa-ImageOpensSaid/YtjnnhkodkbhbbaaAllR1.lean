/- Texts that belong together, one behind the other; each says in its own first remark what it shows. -/
import Derived.Test.YtjnnhkodkbhbbaaAllC3

/- ImageOpens walks to true. Laid by wip/gen/gimgl1.py. Each theorem names its own conditions. -/
namespace Go.Proofs.Ytjnnhkodkbhbbaa
open Go.RowKit
set_option linter.unusedVariables false
set_option linter.unusedSimpArgs false

set_option maxRecDepth 100000 in
set_option maxHeartbeats 8000000 in
theorem imgOpens_any (SI : ImgSaid) (key : List UInt8) (ver i : Int) (c p : List UInt8) (cv pv : Value) (w : World) (hk : key.length = 32) (hc : Row1 w cv (c.map bval)) (hp : Row1 w pv (p.map bval)) :
    Calls Try.prog 5 #[.agg (key.map bval).toArray, .int .i64 ver, .int .i64 i, cv, pv] w fun e w' => e = .returned (.bool true) ∧ Below w.heap.size w w' := by
  obtain ⟨ac, cc, hcv, -⟩ := id hc
  rw [List.length_map] at hcv
  subst hcv
  obtain ⟨ap, cp, hpv, -⟩ := id hp
  rw [List.length_map] at hpv
  subst hpv
  have HSI := Lib.hid SI
  have HKL := Lib.hid hk
  have HIK := Lib.hid (num_size hk)
  have HCV := Lib.hid hc
  have HPV := Lib.hid hp
  clear hk hc hp SI
  have HB := Lib.hid (And.intro (Blk.made w (key.map bval) 34) (Ext.alloc w (.cells (key.map bval).toArray 34)))
  go_enter Try.func5, Try.ntmps5
  go_upto_region 1 with (fail)
  obtain ⟨h0, hE⟩ := HB.out
  change Code.wp _ _ _ _ (w.alloc (.cells (key.map bval).toArray 34))
  generalize w.alloc (.cells (key.map bval).toArray 34) = wa at *
  obtain ⟨A, hA⟩ : ∃ X, X = w.heap.size := ⟨_, rfl⟩
  rw [← hA] at h0 ⊢
  have HA := Lib.hid h0
  have HE : Hid (Ext w wa) := Lib.hid hE
  have HO : Hid (w.heap.size = A) := Lib.hid (by omega)
  clear HB hE h0 hA
  have HAL := Lib.hid (alive_any18 HSI.out wa)
  go_wp2_with fail
  refine HAL.out.mono ?_
  rintro e w1 ⟨rfl, hb⟩
  have HA := Lib.hid (ext_blk HA.out hb)
  have HE : Hid (Ext w w1) := Lib.hid (HE.out.trans hb)
  clear hb HAL
  by_cases h1 : 200 < c.length
  · have h2 : decide ((200 : Int) < (c.length : Int)) = true := decide_eq_true (by omega)
    go_wp2_with fail
    go_ret
    exact ⟨rfl, HE.out⟩
  have h2 : decide ((200 : Int) < (c.length : Int)) = false := decide_eq_false (by omega)
  by_cases h3 : 200 < p.length
  · have h4 : decide ((200 : Int) < (p.length : Int)) = true := decide_eq_true (by omega)
    go_wp2_with fail
    go_ret
    exact ⟨rfl, HE.out⟩
  have h4 : decide ((200 : Int) < (p.length : Int)) = false := decide_eq_false (by omega)
  have HCL : Hid (c.length ≤ 5000) := Lib.hid (by omega)
  have HPL : Hid (p.length ≤ 5000) := Lib.hid (by omega)
  go_upto_region 4 with (fail)
  clear h1 h2 h3 h4
  have HC1 := Lib.hid (HSI.out.opn key ver i c _ w1 HKL.out (HCV.out.below HE.out) HCL.out)
  go_wp2_with (refine wpList_load_blk rfl _ _ rfl A rfl _ _ _ _ HA.out Try.underlying34 HIK.out ?_)
  refine HC1.out.mono ?_
  rintro e w2 ⟨x1, rfl, hr, hb⟩
  have HX1 := Lib.hid hr
  have HA := Lib.hid (ext_blk HA.out hb)
  have HE := Lib.hid (HE.out.trans hb)
  clear hr hb HC1
  have HC2 := Lib.hid (rOpenBlock_full key ver i c _ w2 HKL.out (HCV.out.below HE.out))
  go_wp2_with (refine wpList_load_blk rfl _ _ rfl A rfl _ _ _ _ HA.out Try.underlying34 HIK.out ?_)
  refine HC2.out.mono ?_
  rintro e w3 ⟨x2, rfl, hr, hb⟩
  have HX2 := Lib.hid hr
  have HX1 := Lib.hid (HX1.out.below hb)
  have HA := Lib.hid (ext_blk HA.out hb)
  have HE := Lib.hid (HE.out.trans hb)
  clear hr hb HC2
  have HC3 := Lib.hid (HSI.out.sea key ver i p _ w3 HKL.out (HPV.out.below HE.out) HPL.out)
  go_wp2_with (refine wpList_load_blk rfl _ _ rfl A rfl _ _ _ _ HA.out Try.underlying34 HIK.out ?_)
  refine HC3.out.mono ?_
  rintro e w4 ⟨x3, rfl, hr, hb⟩
  have HX3 := Lib.hid (Row1.of_own hr)
  have HX1 := Lib.hid (HX1.out.below hb)
  have HX2 := Lib.hid (HX2.out.below hb)
  have HA := Lib.hid (ext_blk HA.out hb)
  have HE := Lib.hid (HE.out.trans hb)
  clear hr hb HC3
  have HC4 := Lib.hid (rSealBlock_full key ver i p _ w4 HKL.out (HPV.out.below HE.out))
  go_wp2_with (refine wpList_load_blk rfl _ _ rfl A rfl _ _ _ _ HA.out Try.underlying34 HIK.out ?_)
  refine HC4.out.mono ?_
  rintro e w5 ⟨x4, rfl, hr, hb⟩
  have HX4 := Lib.hid (Row1.of_own hr)
  have HX1 := Lib.hid (HX1.out.below hb)
  have HX2 := Lib.hid (HX2.out.below hb)
  have HX3 := Lib.hid (HX3.out.below hb)
  have HA := Lib.hid (ext_blk HA.out hb)
  have HE := Lib.hid (HE.out.trans hb)
  clear hr hb HC4
  have hsx1 := run_string_row (P := Try.prog) (v := x1) 22 9 5 Try.underlying22 Try.underlying5 Try.underlying9 HX1.out
  have hsx2 := run_string_row (P := Try.prog) (v := x2) 22 9 5 Try.underlying22 Try.underlying5 Try.underlying9 HX2.out
  have hsx3 := run_string_row (P := Try.prog) (v := x3) 22 9 5 Try.underlying22 Try.underlying5 Try.underlying9 HX3.out
  have hsx4 := run_string_row (P := Try.prog) (v := x4) 22 9 5 Try.underlying22 Try.underlying5 Try.underlying9 HX4.out
  generalize opnE key ver i c = E at *
  generalize selE ver i p.length 64 = F at *
  go_wp2_with fail
  refine (num18 E w5).mono ?_
  rintro e w' ⟨rfl, rfl⟩
  go_wp2_with fail
  refine (num18 F w5).mono ?_
  rintro e w' ⟨rfl, rfl⟩
  go_wp2_with fail
  go_ret
  exact ⟨rfl, HE.out⟩

end Go.Proofs.Ytjnnhkodkbhbbaa
