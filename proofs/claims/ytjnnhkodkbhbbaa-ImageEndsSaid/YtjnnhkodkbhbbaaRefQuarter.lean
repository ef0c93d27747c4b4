/- The walk of the document's own quarter round. Each theorem names its own conditions. -/
import Derived.Test.YtjnnhkodkbhbbaaRefRol
import Derived.StillTailTactics
import Derived.Deep.CutRange
import Derived.Test.YtjnnhkodkbhbbaaRefQuarterK
namespace Go.Proofs.Ytjnnhkodkbhbbaa
open Go.RowKit
set_option linter.unusedVariables false
set_option linter.unusedSimpArgs false

set_option maxRecDepth 100000 in
set_option maxHeartbeats 16000000 in
theorem quarter_any (X : Nat) (s : List W32) (a b c d : Nat) (w : World) (hX : Blk w X (ints .u32 (ws s)) 76) (hs : s.length = 16) (ha : a < 16) (hb : b < 16) (hc : c < 16) (hd : d < 16) (hab : a ≠ b) (hac : a ≠ c) (had : a ≠ d) (hbc : b ≠ c) (hbd : b ≠ d) (hcd : c ≠ d) :
    Calls Try.prog 62 #[.pointer (some ⟨X, 0, none⟩), .int .i64 (a : Int), .int .i64 (b : Int), .int .i64 (c : Int), .int .i64 (d : Int)] w fun e w' => e = .returned (.tuple #[]) ∧ Blk w' X (ints .u32 (ws (qrt s a b c d))) 76 ∧ w.grownBy w' (some X) := by
  have a0 : (0 : Int) ≤ (a : Int) := Int.natCast_nonneg _
  have a1 : (a : Int) < 16 := by omega
  have b0 : (0 : Int) ≤ (b : Int) := Int.natCast_nonneg _
  have b1 : (b : Int) < 16 := by omega
  have c0 : (0 : Int) ≤ (c : Int) := Int.natCast_nonneg _
  have c1 : (c : Int) < 16 := by omega
  have d0 : (0 : Int) ≤ (d : Int) := Int.natCast_nonneg _
  have d1 : (d : Int) < 16 := by omega
  obtain ⟨va, hva⟩ : ∃ v, v = s.getD a 0#32 := ⟨_, rfl⟩
  obtain ⟨vb, hvb⟩ : ∃ v, v = s.getD b 0#32 := ⟨_, rfl⟩
  obtain ⟨vc, hvc⟩ : ∃ v, v = s.getD c 0#32 := ⟨_, rfl⟩
  obtain ⟨vd, hvd⟩ : ∃ v, v = s.getD d 0#32 := ⟨_, rfl⟩
  go_enter Try.func62, Try.ntmps62
  have hQ0 : QI s a b c d s va vb vc vd := ⟨hs, hva.symm, hvb.symm, hvc.symm, hvd.symm, fun i _ _ _ _ => rfl⟩
  have HVA := Lib.hid hva
  have HVB := Lib.hid hvb
  have HVC := Lib.hid hvc
  have HVD := Lib.hid hvd
  clear hva hvb hvc hvd
  obtain ⟨v1, hv1⟩ : ∃ v, v = va + vb := ⟨_, rfl⟩
  have s0 : IntKind.u32.wrap (wi va + wi vb) = wi v1 := by rw [hv1]; exact wi_add _ _
  have p0 := qi_cell hX hQ0.ea hQ0.len ha
  have r0 := qi_cell hX hQ0.eb hQ0.len hb
  have f0 := hX.free a
  have HH0 := Lib.hid (qi_set hX a v1)
  have HQ0 := Lib.hid (hQ0.set_a ha hab hac had hbc hbd hcd v1)
  have HG0 := Lib.hid (grownBy_drewN (grownBy_set (grownBy_refl w (some X)) a (.int .u32 (wi v1))) 1)
  have Hv1 := Lib.hid hv1
  clear hv1
  go_wp2_with fail
  go_region
  go_upto_region 1 with (fail)
  change Code.wp _ _ _ _ (w.setCell ⟨X, a, none⟩ (.int .u32 (wi v1))).drew
  have hB1 : Blk (w.setCell ⟨X, a, none⟩ (.int .u32 (wi v1))).drew X _ 76 := HH0.out
  have HG0 : Hid (w.grownBy (w.setCell ⟨X, a, none⟩ (.int .u32 (wi v1))).drew (some X)) := Lib.hid HG0.out
  have hQ1 := HQ0.out
  clear HH0 HQ0 p0 r0 f0 s0 hX hQ0
  generalize (w.setCell ⟨X, a, none⟩ (.int .u32 (wi v1))).drew = w1 at *
  obtain ⟨x1, hx1⟩ : ∃ v, v = vd ^^^ v1 := ⟨_, rfl⟩
  have s1 : bits .xor .u32 (wi vd) (wi v1) = wi x1 := by rw [hx1]; exact wi_xor _ _
  obtain ⟨v2, hv2⟩ : ∃ v, v = rotl x1 16 := ⟨_, rfl⟩
  have HC1 := fun w => Lib.hid (rol_any x1 16 (by omega) w)
  rw [← hv2] at HC1
  have p1 := qi_cell hB1 hQ1.ed hQ1.len hd
  have r1 := qi_cell hB1 hQ1.ea hQ1.len ha
  have f1 := hB1.free d
  have HH1 := Lib.hid (qi_set hB1 d v2)
  have HQ1 := Lib.hid (hQ1.set_d hd hab hac had hbc hbd hcd v2)
  have HG1 := Lib.hid (grownBy_drewN (grownBy_set (HG0.out) d (.int .u32 (wi v2))) 1)
  have Hv2 := Lib.hid hv2
  clear hv2
  have Hx1 := Lib.hid hx1
  clear hx1
  go_wp2_with fail
  refine wp_region_still_tail 16 (by kernel_rfl) (by kernel_rfl) ?_
  simp only [List.take_succ_cons, List.take_zero, List.drop_succ_cons, List.drop_zero]
  repeat still_step
  still_call ((HC1 _).out.mono fun _ _ h => ⟨h.1, h.2.symm⟩)
  repeat still_step
  refine wpStill_nil ?_
  change wpList _ _ _ _ _ w1.drew
  go_upto_region 2 with (fail)
  change Code.wp _ _ _ _ (w1.drew.setCell ⟨X, d, none⟩ (.int .u32 (wi v2)))
  have hB2 : Blk (w1.drew.setCell ⟨X, d, none⟩ (.int .u32 (wi v2))) X _ 76 := HH1.out
  have HG1 : Hid (w.grownBy (w1.drew.setCell ⟨X, d, none⟩ (.int .u32 (wi v2))) (some X)) := Lib.hid HG1.out
  have hQ2 := HQ1.out
  clear HH1 HQ1 p1 r1 f1 s1 hB1 hQ1
  generalize (w1.drew.setCell ⟨X, d, none⟩ (.int .u32 (wi v2))) = w2 at *
  obtain ⟨v3, hv3⟩ : ∃ v, v = vc + v2 := ⟨_, rfl⟩
  have s2 : IntKind.u32.wrap (wi vc + wi v2) = wi v3 := by rw [hv3]; exact wi_add _ _
  have p2 := qi_cell hB2 hQ2.ec hQ2.len hc
  have r2 := qi_cell hB2 hQ2.ed hQ2.len hd
  have f2 := hB2.free c
  have HH2 := Lib.hid (qi_set hB2 c v3)
  have HQ2 := Lib.hid (hQ2.set_c hc hab hac had hbc hbd hcd v3)
  have HG2 := Lib.hid (grownBy_drewN (grownBy_set (HG1.out) c (.int .u32 (wi v3))) 1)
  have Hv3 := Lib.hid hv3
  clear hv3
  go_wp2_with fail
  go_region
  go_upto_region 3 with (fail)
  change Code.wp _ _ _ _ (w2.setCell ⟨X, c, none⟩ (.int .u32 (wi v3))).drew
  have hB3 : Blk (w2.setCell ⟨X, c, none⟩ (.int .u32 (wi v3))).drew X _ 76 := HH2.out
  have HG2 : Hid (w.grownBy (w2.setCell ⟨X, c, none⟩ (.int .u32 (wi v3))).drew (some X)) := Lib.hid HG2.out
  have hQ3 := HQ2.out
  clear HH2 HQ2 p2 r2 f2 s2 hB2 hQ2
  generalize (w2.setCell ⟨X, c, none⟩ (.int .u32 (wi v3))).drew = w3 at *
  obtain ⟨x3, hx3⟩ : ∃ v, v = vb ^^^ v3 := ⟨_, rfl⟩
  have s3 : bits .xor .u32 (wi vb) (wi v3) = wi x3 := by rw [hx3]; exact wi_xor _ _
  obtain ⟨v4, hv4⟩ : ∃ v, v = rotl x3 12 := ⟨_, rfl⟩
  have HC3 := fun w => Lib.hid (rol_any x3 12 (by omega) w)
  rw [← hv4] at HC3
  have p3 := qi_cell hB3 hQ3.eb hQ3.len hb
  have r3 := qi_cell hB3 hQ3.ec hQ3.len hc
  have f3 := hB3.free b
  have HH3 := Lib.hid (qi_set hB3 b v4)
  have HQ3 := Lib.hid (hQ3.set_b hb hab hac had hbc hbd hcd v4)
  have HG3 := Lib.hid (grownBy_drewN (grownBy_set (HG2.out) b (.int .u32 (wi v4))) 1)
  have Hv4 := Lib.hid hv4
  clear hv4
  have Hx3 := Lib.hid hx3
  clear hx3
  go_wp2_with fail
  refine wp_region_still_tail 16 (by kernel_rfl) (by kernel_rfl) ?_
  simp only [List.take_succ_cons, List.take_zero, List.drop_succ_cons, List.drop_zero]
  repeat still_step
  still_call ((HC3 _).out.mono fun _ _ h => ⟨h.1, h.2.symm⟩)
  repeat still_step
  refine wpStill_nil ?_
  change wpList _ _ _ _ _ w3.drew
  go_upto_region 4 with (fail)
  change Code.wp _ _ _ _ (w3.drew.setCell ⟨X, b, none⟩ (.int .u32 (wi v4)))
  have hB4 : Blk (w3.drew.setCell ⟨X, b, none⟩ (.int .u32 (wi v4))) X _ 76 := HH3.out
  have HG3 : Hid (w.grownBy (w3.drew.setCell ⟨X, b, none⟩ (.int .u32 (wi v4))) (some X)) := Lib.hid HG3.out
  have hQ4 := HQ3.out
  clear HH3 HQ3 p3 r3 f3 s3 hB3 hQ3
  generalize (w3.drew.setCell ⟨X, b, none⟩ (.int .u32 (wi v4))) = w4 at *
  obtain ⟨v5, hv5⟩ : ∃ v, v = v1 + v4 := ⟨_, rfl⟩
  have s4 : IntKind.u32.wrap (wi v1 + wi v4) = wi v5 := by rw [hv5]; exact wi_add _ _
  have p4 := qi_cell hB4 hQ4.ea hQ4.len ha
  have r4 := qi_cell hB4 hQ4.eb hQ4.len hb
  have f4 := hB4.free a
  have HH4 := Lib.hid (qi_set hB4 a v5)
  have HQ4 := Lib.hid (hQ4.set_a ha hab hac had hbc hbd hcd v5)
  have HG4 := Lib.hid (grownBy_drewN (grownBy_set (HG3.out) a (.int .u32 (wi v5))) 1)
  have Hv5 := Lib.hid hv5
  clear hv5
  go_wp2_with fail
  go_region
  go_upto_region 5 with (fail)
  change Code.wp _ _ _ _ (w4.setCell ⟨X, a, none⟩ (.int .u32 (wi v5))).drew
  have hB5 : Blk (w4.setCell ⟨X, a, none⟩ (.int .u32 (wi v5))).drew X _ 76 := HH4.out
  have HG4 : Hid (w.grownBy (w4.setCell ⟨X, a, none⟩ (.int .u32 (wi v5))).drew (some X)) := Lib.hid HG4.out
  have hQ5 := HQ4.out
  clear HH4 HQ4 p4 r4 f4 s4 hB4 hQ4
  generalize (w4.setCell ⟨X, a, none⟩ (.int .u32 (wi v5))).drew = w5 at *
  obtain ⟨x5, hx5⟩ : ∃ v, v = v2 ^^^ v5 := ⟨_, rfl⟩
  have s5 : bits .xor .u32 (wi v2) (wi v5) = wi x5 := by rw [hx5]; exact wi_xor _ _
  obtain ⟨v6, hv6⟩ : ∃ v, v = rotl x5 8 := ⟨_, rfl⟩
  have HC5 := fun w => Lib.hid (rol_any x5 8 (by omega) w)
  rw [← hv6] at HC5
  have p5 := qi_cell hB5 hQ5.ed hQ5.len hd
  have r5 := qi_cell hB5 hQ5.ea hQ5.len ha
  have f5 := hB5.free d
  have HH5 := Lib.hid (qi_set hB5 d v6)
  have HQ5 := Lib.hid (hQ5.set_d hd hab hac had hbc hbd hcd v6)
  have HG5 := Lib.hid (grownBy_drewN (grownBy_set (HG4.out) d (.int .u32 (wi v6))) 1)
  have Hv6 := Lib.hid hv6
  clear hv6
  have Hx5 := Lib.hid hx5
  clear hx5
  go_wp2_with fail
  refine wp_region_still_tail 16 (by kernel_rfl) (by kernel_rfl) ?_
  simp only [List.take_succ_cons, List.take_zero, List.drop_succ_cons, List.drop_zero]
  repeat still_step
  still_call ((HC5 _).out.mono fun _ _ h => ⟨h.1, h.2.symm⟩)
  repeat still_step
  refine wpStill_nil ?_
  change wpList _ _ _ _ _ w5.drew
  go_upto_region 6 with (fail)
  change Code.wp _ _ _ _ (w5.drew.setCell ⟨X, d, none⟩ (.int .u32 (wi v6)))
  have hB6 : Blk (w5.drew.setCell ⟨X, d, none⟩ (.int .u32 (wi v6))) X _ 76 := HH5.out
  have HG5 : Hid (w.grownBy (w5.drew.setCell ⟨X, d, none⟩ (.int .u32 (wi v6))) (some X)) := Lib.hid HG5.out
  have hQ6 := HQ5.out
  clear HH5 HQ5 p5 r5 f5 s5 hB5 hQ5
  generalize (w5.drew.setCell ⟨X, d, none⟩ (.int .u32 (wi v6))) = w6 at *
  obtain ⟨v7, hv7⟩ : ∃ v, v = v3 + v6 := ⟨_, rfl⟩
  have s6 : IntKind.u32.wrap (wi v3 + wi v6) = wi v7 := by rw [hv7]; exact wi_add _ _
  have p6 := qi_cell hB6 hQ6.ec hQ6.len hc
  have r6 := qi_cell hB6 hQ6.ed hQ6.len hd
  have f6 := hB6.free c
  have HH6 := Lib.hid (qi_set hB6 c v7)
  have HQ6 := Lib.hid (hQ6.set_c hc hab hac had hbc hbd hcd v7)
  have HG6 := Lib.hid (grownBy_drewN (grownBy_set (HG5.out) c (.int .u32 (wi v7))) 1)
  have Hv7 := Lib.hid hv7
  clear hv7
  go_wp2_with fail
  go_region
  go_upto_region 7 with (fail)
  change Code.wp _ _ _ _ (w6.setCell ⟨X, c, none⟩ (.int .u32 (wi v7))).drew
  have hB7 : Blk (w6.setCell ⟨X, c, none⟩ (.int .u32 (wi v7))).drew X _ 76 := HH6.out
  have HG6 : Hid (w.grownBy (w6.setCell ⟨X, c, none⟩ (.int .u32 (wi v7))).drew (some X)) := Lib.hid HG6.out
  have hQ7 := HQ6.out
  clear HH6 HQ6 p6 r6 f6 s6 hB6 hQ6
  generalize (w6.setCell ⟨X, c, none⟩ (.int .u32 (wi v7))).drew = w7 at *
  obtain ⟨x7, hx7⟩ : ∃ v, v = v4 ^^^ v7 := ⟨_, rfl⟩
  have s7 : bits .xor .u32 (wi v4) (wi v7) = wi x7 := by rw [hx7]; exact wi_xor _ _
  obtain ⟨v8, hv8⟩ : ∃ v, v = rotl x7 7 := ⟨_, rfl⟩
  have HC7 := fun w => Lib.hid (rol_any x7 7 (by omega) w)
  rw [← hv8] at HC7
  have p7 := qi_cell hB7 hQ7.eb hQ7.len hb
  have r7 := qi_cell hB7 hQ7.ec hQ7.len hc
  have f7 := hB7.free b
  have HH7 := Lib.hid (qi_set hB7 b v8)
  have HQ7 := Lib.hid (hQ7.set_b hb hab hac had hbc hbd hcd v8)
  have HG7 := Lib.hid (grownBy_drewN (grownBy_set (HG6.out) b (.int .u32 (wi v8))) 1)
  have Hv8 := Lib.hid hv8
  clear hv8
  have Hx7 := Lib.hid hx7
  clear hx7
  go_wp2_with fail
  refine wp_region_still_tail 16 (by kernel_rfl) (by kernel_rfl) ?_
  simp only [List.take_succ_cons, List.take_zero, List.drop_succ_cons, List.drop_zero]
  repeat still_step
  still_call ((HC7 _).out.mono fun _ _ h => ⟨h.1, h.2.symm⟩)
  repeat still_step
  refine wpStill_nil ?_
  change wpList _ _ _ _ _ w7.drew
  go_wp2_with fail
  have hq : QI s a b c d (qrt s a b c d) v5 v8 v7 v6 := by
    have q0 : QI s a b c d s va vb vc vd := ⟨hs, HVA.out.symm, HVB.out.symm, HVC.out.symm, HVD.out.symm, fun i _ _ _ _ => rfl⟩
    have e1 := Hv1.out
    have e2 := Hv2.out
    have e3 := Hv3.out
    have e4 := Hv4.out
    have e5 := Hv5.out
    have e6 := Hv6.out
    have e7 := Hv7.out
    have e8 := Hv8.out
    have y1 := Hx1.out
    have y3 := Hx3.out
    have y5 := Hx5.out
    have y7 := Hx7.out
    have hqq : qr4 va vb vc vd = (v5, v8, v7, v6) := by
      rw [e8, y7, e7, e6, y5, e5, e4, y3, e3, e2, y1, e1]
      rfl
    have h := ((((q0.set_a ha hab hac had hbc hbd hcd v5).set_b hb hab hac had hbc hbd hcd v8).set_c hc hab hac had hbc hbd hcd v7).set_d hd hab hac had hbc hbd hcd v6)
    unfold qrt
    rw [← HVA.out, ← HVB.out, ← HVC.out, ← HVD.out, hqq]
    exact h
  have hL := HQ7.out.eq hq
  have hB := HH7.out
  rw [hL] at hB
  refine bodyPost_end (results_none rfl _ _ _) rfl ?_
  exact ⟨rfl, hB.drewN 1, HG7.out⟩
end Go.Proofs.Ytjnnhkodkbhbbaa
