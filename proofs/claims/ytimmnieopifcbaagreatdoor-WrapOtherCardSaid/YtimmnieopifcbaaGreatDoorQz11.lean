/- Texts that belong together, one behind the other. -/
import Derived.Test.YtimmnieopifcbaaGreatDoorQz10
namespace Go.Proofs.YtimmnieopifcbaaGreatDoor
set_option linter.unusedVariables false
set_option maxRecDepth 100000
set_option maxHeartbeats 32000000
set_option linter.unusedSimpArgs false
open Go.RowKit
theorem unwK_length {s b : List UInt8} : (unwK s b).length = 32 := by
 unfold unwK
 split
 ·split
  ·exact zer_length
  ·cases h : unwO s b with
   | none => exact zer_length
   | some p => exact unwO_length (by assumption) h
 ·exact zer_length
section
section
variable {P : Program} {ops : Array Oper} {S : World → Prop}
theorem yi_len {o : Oper} {a : Act} (x : Operand) (t e : TypeId) (ad : Option Addr) (n c : Nat) (ht : P.underlying t = some (.slice e)) (hw : Region.wanted o (yielded ops a.tmps) = true) (ho : o.op = .call { callee := .builtin .len, args := #[x], argTypes := #[t] }) (hx : a.eval x = .slice ad n c) : YieldsIf P ops S o (.int .i64 (n : Int)) a :=
 yi_val _ hw (fun w _ => by
  unfold execOp
  simp [ho, resolve, invoke, builtin, hx, Builtin.len_, run_underlying ht, goInt, Result.andThen])
theorem yi_conv {o : Oper} {a : Act} (s t : TypeId) (x : Operand) (vx v : Value) (hw : Region.wanted o (yielded ops a.tmps) = true) (ho : o.op = .convert s t x) (hx : a.eval x = vx) (h : ∀ w, S w → (convert s t vx).run P w = .ok v w) : YieldsIf P ops S o v a :=
 yi_val v hw (fun w hS => by
  unfold execOp
  simp only [ho, hx, Sem.run_bind, h w hS, Result.andThen_ok, Sem.run_pure])
theorem yi_sub {o : Oper} {a : Act} (k : IntKind) (ty rt : TypeId) (x y : Operand) (m n r : Int) (hr : k.wrap (m - n) = r) (hw : Region.wanted o (yielded ops a.tmps) = true) (ho : o.op = .binOp .sub ty x y rt) (hx : a.eval x = .int k m) (hy : a.eval y = .int k n) : YieldsIf P ops S o (.int k r) a :=
 yi_val _ hw (fun w _ => by unfold execOp; simp [ho, hx, hy, eqGuard, binOp, Op.intArith, hr])
theorem yi_net {o : Oper} {a : Act} (ty rt : TypeId) (x y : Operand) (b c : List UInt8) (r : Bool) (hr : decide (b = c) = !r) (hw : Region.wanted o (yielded ops a.tmps) = true) (ho : o.op = .binOp .neq ty x y rt) (hx : a.eval x = .string ⟨b.toArray⟩) (hy : a.eval y = .string ⟨c.toArray⟩) : YieldsIf P ops S o (.bool r) a :=
 yi_val _ hw (fun w _ => by
  have hr2 : r = !decide (b = c) := by rw [hr, Bool.not_not]
  subst hr2
  unfold execOp
  simp only [ho, hx, hy]
  simp [eqGuard, binOp, Op.stringOp, Result.andThen]
  try rw [Bool.eq_iff_iff]; simp)
end
end
theorem rOpen_any (kb nb b s : List UInt8) (bv sv : Value) (w : World) (hk : kb.length = 32) (hn : nb.length = 12) (hb : Row1 w bv (b.map bval)) (hs : Row1 w sv (s.map bval)) (hbl : b.length ≤ 1000000000) (hsl : s.length ≤ 1000000000) :
  Calls Tryz.prog 22 #[.agg (kb.map bval).toArray, .agg (nb.map bval).toArray, bv, sv] w fun e w' => ∃ x, e = .returned (.tuple #[x, .bool (openB kb nb b s).isSome]) ∧ Row1 w' x (((openB kb nb b s).getD []).map bval) ∧ Below w.heap.size w w' := by
 have HB0 := jh hb
 have HS0 := jh hs
 have HBL := jh hbl
 have HSL := jh hsl
 obtain ⟨ab, capb, hbv, r1, r2, _⟩ := id hb
 rw [List.length_map] at hbv r1
 subst hbv
 unfold maxLen at r2
 have HB := jh (boxes2 w (kb.map bval) (nb.map bval) 23 44)
 have HIK : Hid ((Tryz.prog.info? 23).map (·.size) = some (kb.map bval).length) := jh (zaf hk)
 have HIN : Hid ((Tryz.prog.info? 44).map (·.size) = some (nb.map bval).length) := jh (zdj hn)
 have HKL := jh hk
 have HNL := jh hn
 have hb0 : (0 : Int) ≤ (b.length : Int) := Int.natCast_nonneg _
 clear hb hs hk hn hsl
 go_enter Tryz.func22, Tryz.ntmps22
 go_upto_region 1 with (fail)
 obtain ⟨H1, H2, HE⟩ := HB.out
 change Code.wp _ _ _ _ ((w.alloc (.cells (kb.map bval).toArray 23)).alloc (.cells (nb.map bval).toArray 44))
 generalize (w.alloc (.cells (kb.map bval).toArray 23)).alloc (.cells (nb.map bval).toArray 44) = wa at *
 obtain ⟨A, hA⟩ : ∃ A, A = w.heap.size := ⟨_, rfl⟩
 rw [← hA] at H1 H2 ⊢
 have H1 := jh H1
 have H2 := jh H2
 have HE : Hid (Ext w wa) := jh HE
 clear hA HB
 by_cases h16 : b.length < 16
 ·have h16' : (b.length : Int) < 16 := by omega
  have HON := jh (openB_short kb nb s h16)
  go_wp2_with fail
  refine bodyPost_ret (res_two rfl _ _) rfl ?_
  exact ⟨_, by rw [HON.out]; rfl, by rw [HON.out]; exact Row1.nil _, HE.out⟩
 ·have h16' : ¬ (b.length : Int) < 16 := by omega
  obtain ⟨q, hq⟩ : ∃ q, q = b.length - 16 := ⟨_, rfl⟩
  have q1 : (b.length : Int) - 16 = (q : Int) := by omega
  have q0 : (0 : Int) ≤ (q : Int) := Int.natCast_nonneg _
  have hql : q ≤ (b.map bval).length := by rw [List.length_map]; omega
  have HQL : Hid (q ≤ 1000000000) := jh (by omega)
  have HOP : Hid (openB kb nb b s = if aeaTag kb nb (b.take q) s = b.drop q then some (chaTurn kb 1 nb (b.take q)) else none) := jh (by
   unfold openB
   rw [if_neg h16, ← hq])
  have HSUB : Hid (IntKind.i64.wrap ((b.length : Int) - 16) = (q : Int)) := jh (by rw [IntKind.wrap_i64]; omega)
  have HBR := jh (HB0.out.below HE.out)
  obtain ⟨vt, ht, st⟩ := row_upto Tryz.underlying25 Tryz.sizeOf5 HBR.out q hql
  obtain ⟨at', nt, ct, rfl⟩ := row_form2 ht
  rw [← List.map_take] at ht
  have HTR := jh ht
  have hqcap : (q : Int) ≤ (capb : Int) := by rw [List.length_map] at hql; omega
  clear ht hbl hq h16 hql
  go_wp2_with (first | (refine zab rfl _ _ rfl A rfl _ _ _ _ H1.out Tryz.underlying23 HIK.out ?_) | (refine zab rfl _ _ rfl (A + 1) rfl _ _ _ _ H2.out Tryz.underlying44 HIN.out ?_))
  refine (rTag_any kb nb (b.take q) s _ _ wa HKL.out HNL.out HTR.out (HS0.out.below HE.out) (by rw [List.length_take]; have := HQL.out; omega) HSL.out).mono ?_
  rintro e w2 ⟨rfl, hb⟩
  have HE := jh (HE.out.trans hb)
  have H1 := jh (zaa H1.out hb)
  have H2 := jh (zaa H2.out hb)
  have HTR := jh (HTR.out.below hb)
  have HBR := jh (HBR.out.below hb)
  clear hb st
  have HTL := jh (zeo kb nb (b.take q) s)
  generalize aeaTag kb nb (b.take q) s = tg at *
  have HZ := jh (Blk.made w2 (ints .u8 (List.replicate 16 0)) 53)
  have HEA := jh (Ext.alloc w2 (.cells (ints .u8 (List.replicate 16 0)).toArray 53))
  have HIT : Hid ((Tryz.prog.info? 53).map (·.size) = some (tg.map bval).length) := jh (tag_size HTL.out)
  have HLo : Hid ((tg.map bval).length = (ints .u8 (List.replicate 16 0)).length) := jh (by rw [List.length_map, HTL.out, zad, List.length_replicate])
  go_upto_region 5 with (refine zac rfl _ _ _ rfl w2.heap.size (tg.map bval) rfl rfl _ _ HZ.out HLo.out HIT.out (zag _) ?_; intro w3 hb3 hg3)
  have HE4 := jh (zae HEA.out hg3 (Nat.le_refl _))
  have HE := jh (HE.out.trans HE4.out)
  have H1 := jh (zaa H1.out HE4.out)
  have H2 := jh (zaa H2.out HE4.out)
  have HTR := jh (HTR.out.below HE4.out)
  have HBR := jh (HBR.out.below HE4.out)
  obtain ⟨T, hT⟩ : ∃ T, T = w2.heap.size := ⟨_, rfl⟩
  rw [← hT] at hb3 ⊢
  have HT := jh hb3
  obtain ⟨vh, hh, sh⟩ := row_cut Tryz.underlying25 Tryz.sizeOf5 HBR.out q (by rw [List.length_map]; omega)
  obtain ⟨ah, nh, ch, rfl⟩ := row_form2 hh
  rw [← List.map_drop] at hh
  have HH := jh hh
  have HSH := jh sh
  clear hb3 hg3 HZ HEA HE4 HLo hT hh sh
  by_cases heq : tg = b.drop q
  ·have HOS : Hid (openB kb nb b s = some (chaTurn kb 1 nb (b.take q))) := jh (by rw [HOP.out, if_pos heq])
   have B0 : Ext w3 w3.drew := Ext.drew _
   refine wp_region_held_drew (S := fun w' => Ext w3 w') (by kernel_rfl) B0 (fun hHeld => ?_)
   refine tke 0 (.slice (some ⟨T, 0, none⟩) 16 16) rfl (zbm _ _ _ _ (.pointer (some ⟨T, 0, none⟩)) (.slice (some ⟨T, 0, none⟩) 16 16) none none (by rfl) rfl rfl rfl rfl (fun w => zbw Tryz.underlying53 Tryz.sizeOf5 (by omega) _ w)) hHeld ?_
   simp only [Act.put, nrm]
   refine tke 1 (.string ⟨(tg).toArray⟩) rfl (yi_conv _ _ _ (.slice (some ⟨T, 0, none⟩) 16 16) _ (by rfl) rfl rfl (fun w h => zdh _ _ 5 Tryz.underlying25 Tryz.underlying5 Tryz.underlying9 ((zbo (n := 16) HT.out (by rw [List.length_map]; exact HTL.out) (by unfold maxLen; omega)).below h))) hHeld ?_
   simp only [Act.put, nrm]
   refine tke 2 (.slice ab b.length capb) rfl (zbv _ (.slice ab b.length capb) (by rfl) rfl rfl) hHeld ?_
   simp only [Act.put, nrm]
   refine tke 3 (.slice ab b.length capb) rfl (zbv _ (.slice ab b.length capb) (by rfl) rfl rfl) hHeld ?_
   simp only [Act.put, nrm]
   refine tke 4 (.int .i64 ((b.length : Nat) : Int)) rfl (yi_len _ _ _ _ _ _ Tryz.underlying25 (by rfl) rfl rfl) hHeld ?_
   simp only [Act.put, nrm]
   refine tke 5 (.int .i64 ((q : Nat) : Int)) rfl (yi_sub .i64 _ _ _ _ _ _ ((q : Nat) : Int) HSUB.out (by rfl) rfl rfl rfl) hHeld ?_
   simp only [Act.put, nrm]
   refine tke 6 (.slice ah nh ch) rfl (zbm _ _ _ _ (.slice ab b.length capb) (.slice ah nh ch) (some (.int .i64 ((q : Nat) : Int))) none (by rfl) rfl rfl rfl rfl HSH.out) hHeld ?_
   simp only [Act.put, nrm]
   refine tke 7 (.string ⟨(b.drop q).toArray⟩) rfl (yi_conv _ _ _ (.slice ah nh ch) _ (by rfl) rfl rfl (fun w h => zdh _ _ 5 Tryz.underlying25 Tryz.underlying5 Tryz.underlying9 ((HH.out).below h))) hHeld ?_
   simp only [Act.put, nrm]
   refine tke 8 (.bool false) rfl (yi_net _ _ _ _ tg (b.drop q) false (decide_eq_true heq) (by rfl) rfl rfl rfl) hHeld ?_
   simp only [Act.put, nrm]
   refine dne ?_
   clear heq
   have HTR := jh (HTR.out.below B0)
   have H1 := jh (zaa H1.out B0)
   have H2 := jh (zaa H2.out B0)
   have HE := jh (HE.out.trans B0)
   go_wp2_with (first | (refine zab rfl _ _ rfl A rfl _ _ _ _ H1.out Tryz.underlying23 HIK.out ?_) | (refine zab rfl _ _ rfl (A + 1) rfl _ _ _ _ H2.out Tryz.underlying44 HIN.out ?_))
   refine (rTurn_any kb nb (b.take q) _ 1 w3.drew HKL.out HNL.out HTR.out (by rw [List.length_take]; have := HQL.out; omega) (by decide) (by decide)).mono ?_
   rintro e w5 ⟨x5, rfl, ho5, hb5⟩
   have HR5 := jh (Row1.of_own ho5)
   have HE := jh (HE.out.trans hb5)
   clear ho5 hb5
   go_wp2_with fail
   refine bodyPost_ret (res_two rfl _ _) rfl ?_
   exact ⟨_, by rw [HOS.out]; rfl, by rw [HOS.out]; exact HR5.out, HE.out⟩
  ·have HOS : Hid (openB kb nb b s = none) := jh (by rw [HOP.out, if_neg heq])
   have B0 : Ext w3 w3.drew := Ext.drew _
   refine wp_region_held_drew (S := fun w' => Ext w3 w') (by kernel_rfl) B0 (fun hHeld => ?_)
   refine tke 0 (.slice (some ⟨T, 0, none⟩) 16 16) rfl (zbm _ _ _ _ (.pointer (some ⟨T, 0, none⟩)) (.slice (some ⟨T, 0, none⟩) 16 16) none none (by rfl) rfl rfl rfl rfl (fun w => zbw Tryz.underlying53 Tryz.sizeOf5 (by omega) _ w)) hHeld ?_
   simp only [Act.put, nrm]
   refine tke 1 (.string ⟨(tg).toArray⟩) rfl (yi_conv _ _ _ (.slice (some ⟨T, 0, none⟩) 16 16) _ (by rfl) rfl rfl (fun w h => zdh _ _ 5 Tryz.underlying25 Tryz.underlying5 Tryz.underlying9 ((zbo (n := 16) HT.out (by rw [List.length_map]; exact HTL.out) (by unfold maxLen; omega)).below h))) hHeld ?_
   simp only [Act.put, nrm]
   refine tke 2 (.slice ab b.length capb) rfl (zbv _ (.slice ab b.length capb) (by rfl) rfl rfl) hHeld ?_
   simp only [Act.put, nrm]
   refine tke 3 (.slice ab b.length capb) rfl (zbv _ (.slice ab b.length capb) (by rfl) rfl rfl) hHeld ?_
   simp only [Act.put, nrm]
   refine tke 4 (.int .i64 ((b.length : Nat) : Int)) rfl (yi_len _ _ _ _ _ _ Tryz.underlying25 (by rfl) rfl rfl) hHeld ?_
   simp only [Act.put, nrm]
   refine tke 5 (.int .i64 ((q : Nat) : Int)) rfl (yi_sub .i64 _ _ _ _ _ _ ((q : Nat) : Int) HSUB.out (by rfl) rfl rfl rfl) hHeld ?_
   simp only [Act.put, nrm]
   refine tke 6 (.slice ah nh ch) rfl (zbm _ _ _ _ (.slice ab b.length capb) (.slice ah nh ch) (some (.int .i64 ((q : Nat) : Int))) none (by rfl) rfl rfl rfl rfl HSH.out) hHeld ?_
   simp only [Act.put, nrm]
   refine tke 7 (.string ⟨(b.drop q).toArray⟩) rfl (yi_conv _ _ _ (.slice ah nh ch) _ (by rfl) rfl rfl (fun w h => zdh _ _ 5 Tryz.underlying25 Tryz.underlying5 Tryz.underlying9 ((HH.out).below h))) hHeld ?_
   simp only [Act.put, nrm]
   refine tke 8 (.bool true) rfl (yi_net _ _ _ _ tg (b.drop q) true (decide_eq_false heq) (by rfl) rfl rfl rfl) hHeld ?_
   simp only [Act.put, nrm]
   refine dne ?_
   clear heq
   go_wp2_with fail
   refine bodyPost_ret (res_two rfl _ _) rfl ?_
   exact ⟨_, by rw [HOS.out]; rfl, by rw [HOS.out]; exact Row1.nil _, HE.out.trans B0⟩
theorem rUnwrap_any (s b : List UInt8) (bv : Value) (w : World) (hs : s.length = 32) (hb : Row1 w bv (b.map bval)) (hG : GlobK w) :
  Calls Tryz.prog 11 #[.agg (s.map bval).toArray, bv] w fun e w' => e = .returned (.tuple #[.agg ((unwK s b).map bval).toArray, .int .i64 (unwE s b)]) ∧ Below w.heap.size w w' := by
 have HB := jh (boxes2 w (s.map bval) (ints .u8 (List.replicate 32 0)) 23 23)
 have HG := jh hG
 have HSL := jh hs
 have HIS := jh (zaf hs)
 have HB0 := jh hb
 obtain ⟨ab, capb, hbv, r1, r2, _⟩ := id hb
 rw [List.length_map] at hbv r1
 subst hbv
 unfold maxLen at r2
 have hb0 : (0 : Int) ≤ (b.length : Int) := Int.natCast_nonneg _
 have HNZ : Hid ((ints .u8 (List.replicate 32 0)) = zer.map bval) := jh rfl
 have HNI : Hid ((Tryz.prog.info? 23).map (·.size) = some (ints .u8 (List.replicate 32 0)).length) := jh (by rw [HNZ.out]; exact zaf zer_length)
 clear hs hb hG
 go_enter Tryz.func11, Tryz.ntmps11
 go_upto_region 1 with (fail)
 obtain ⟨H1, HX, HE⟩ := HB.out
 change Code.wp _ _ _ _ ((w.alloc (.cells (s.map bval).toArray 23)).alloc (.cells (ints .u8 (List.replicate 32 0)).toArray 23))
 generalize (w.alloc (.cells (s.map bval).toArray 23)).alloc (.cells (ints .u8 (List.replicate 32 0)).toArray 23) = wa at *
 obtain ⟨A, hA⟩ : ∃ A, A = w.heap.size := ⟨_, rfl⟩
 have HLA : Hid (w.heap.size ≤ A + 1) := jh (by omega)
 rw [← hA] at H1 HX ⊢
 have H1 := jh H1
 have HX := jh HX
 have HE : Hid (Ext w wa) := jh HE
 clear hA HB
 by_cases h80 : b.length = 80
 ·have HBL := jh h80
  have HBR := jh (HB0.out.below HE.out)
  rw [h80] at HBR r1 ⊢
  clear hb0 h80 HB0
  have HeL : Hid ((b.take 32).length = 32) := jh (by rw [List.length_take, HBL.out]; rfl)
  obtain ⟨vh, hh, sh⟩ := row_cut Tryz.underlying25 Tryz.sizeOf5 HBR.out 32 (by rw [List.length_map, HBL.out]; omega)
  obtain ⟨ah, nh, ch, rfl⟩ := row_form2 hh
  rw [← List.map_drop] at hh
  have HCR := jh hh
  have HSH : Hid (∀ w', (Instr.sliceAt 25 (.slice ab 80 capb) (some (.int .i64 32)) none none).run Tryz.prog w' = .ok (.slice ah nh ch) w') := jh sh
  have HZ := jh (Blk.made wa ((zB 32).map bval) 23)
  have HEA := jh (Ext.alloc wa (.cells ((zB 32).map bval).toArray 23))
  have HSI := jh (row_src HBR.out (b.take 32) (by rw [HeL.out]) (by rw [HeL.out, HBL.out]; omega) HEA.out)
  have HDL : Hid ((b.drop 32).length = 48) := jh (by rw [List.length_drop, HBL.out])
  have HLOW : Hid (ladB s (b.take 32) = zer → unwE s b = 21 ∧ unwK s b = zer) := jh (fun h => ⟨unwE_low HBL.out h, unwK_low HBL.out h⟩)
  have HBAD : Hid (¬ ladB s (b.take 32) = zer → unwO s b = none → unwE s b = 10 ∧ unwK s b = zer) := jh (fun h h2 => ⟨unwE_bad HBL.out h h2, unwK_bad HBL.out h h2⟩)
  have HGOOD : Hid (∀ q, ¬ ladB s (b.take 32) = zer → unwO s b = some q → unwE s b = 0 ∧ unwK s b = q ∧ q.length = 32) := jh (fun q h h2 => ⟨unwE_good HBL.out h h2, unwK_good HBL.out h h2, unwO_length HBL.out h2⟩)
  have HO : Hid (unwO s b = openB (betK (b.take 32) (ladB s (b.take 32))) (zB 12) (b.drop 32) (pubB s)) := jh rfl
  obtain ⟨o, ho⟩ : ∃ o, o = unwO s b := ⟨_, rfl⟩
  rw [← ho] at HBAD HGOOD HO
  clear hh sh ho
  have HC := jh (fun w' => rshared_any s (b.take 32) w' HSL.out HeL.out)
  have HzL : Hid ((ladB s (b.take 32)).length = 32) := jh (zct _ _)
  have HER : Hid (shErr s (b.take 32) = if ladB s (b.take 32) = zer then 21 else 0) := jh rfl
  obtain ⟨er, her⟩ : ∃ er, er = shErr s (b.take 32) := ⟨_, rfl⟩
  rw [← her] at HC HER
  obtain ⟨z, hz⟩ : ∃ z, z = ladB s (b.take 32) := ⟨_, rfl⟩
  rw [← hz] at HC HzL HER HLOW HBAD HGOOD HO
  obtain ⟨e, he⟩ : ∃ e, e = b.take 32 := ⟨_, rfl⟩
  rw [← he] at HC HeL HSI HO
  clear her hz he
  have HIe := jh (zaf HeL.out)
  have HIz := jh (zaf HzL.out)
  have HCN : Hid ((e.map bval).length = Nat.min 80 32) := jh (by rw [List.length_map, HeL.out]; rfl)
  have HFT : Hid (0 + (e.map bval).length ≤ ((zB 32).map bval).length) := jh (by rw [List.length_map, List.length_map, HeL.out, zch]; omega)
  have HLz : Hid ((z.map bval).length = (ints .u8 (List.replicate 32 0)).length) := jh (by rw [List.length_map, zad, HzL.out]; rfl)
  go_upto_region 5 with (refine zcx rfl _ _ 25 25 rfl 5 Tryz.underlying25 one_u8 _ _ _ _ _ _ rfl rfl wa.heap.size 0 _ _ HZ.out (e.map bval) HCN.out (fun h => ⟨rfl, HSI.out h⟩) HFT.out (zag _) ?_; intro w1 hb1 hg1)
  have hsp := zdb 32 e
  rw [show List.replicate (32 - e.length) (0 : UInt8) = [] from by rw [HeL.out]; rfl, List.append_nil] at hsp
  rw [hsp] at hb1
  clear hsp
  have HW := jh (zae HEA.out hg1 (Nat.le_refl _))
  have H1 := jh (zaa H1.out HW.out)
  have HX := jh (zaa HX.out HW.out)
  have HBR := jh (HBR.out.below HW.out)
  have HCR := jh (HCR.out.below HW.out)
  have HE := jh (HE.out.trans HW.out)
  have HEB := jh hb1
  generalize wa.heap.size = E at *
  clear hb1 hg1 HZ HEA HW HSI HCN HFT
  go_wp2_with (first | (refine zab rfl _ _ rfl (A) rfl _ _ _ _ H1.out Tryz.underlying23 HIS.out ?_) | (refine zab rfl _ _ rfl (E) rfl _ _ _ _ HEB.out Tryz.underlying23 HIe.out ?_))
  refine (HC.out w1).mono ?_
  rintro ex w2 ⟨rfl, hb⟩
  have H1 := jh (zaa H1.out hb)
  have HX := jh (zaa HX.out hb)
  have HBR := jh (HBR.out.below hb)
  have HCR := jh (HCR.out.below hb)
  have HE := jh (HE.out.trans hb)
  have HEB := jh (zaa HEB.out hb)
  clear hb HC
  have HZ := jh (Blk.made w2 (ints .u8 (List.replicate 32 0)) 23)
  have HEA := jh (Ext.alloc w2 (.cells (ints .u8 (List.replicate 32 0)).toArray 23))
  go_upto_region 6 with (refine zac rfl _ _ _ rfl w2.heap.size (z.map bval) rfl rfl _ _ HZ.out HLz.out HIz.out (zag _) ?_; intro w3 hb3 hg3)
  have HW := jh (zae HEA.out hg3 (Nat.le_refl _))
  have H1 := jh (zaa H1.out HW.out)
  have HX := jh (zaa HX.out HW.out)
  have HBR := jh (HBR.out.below HW.out)
  have HCR := jh (HCR.out.below HW.out)
  have HE := jh (HE.out.trans HW.out)
  have HEB := jh (zaa HEB.out HW.out)
  have HZB := jh hb3
  generalize w2.heap.size = Z at *
  clear hb3 hg3 HZ HEA HW HLz
  by_cases hz : z = zer
  ·have HRE : Hid (er = 21) := jh (by rw [HER.out, if_pos hz])
   have HQ := jh (HLOW.out hz)
   clear hz HER HLOW HBAD HGOOD
   rw [HRE.out]
   go_wp2_with (refine zac rfl _ _ _ rfl (A + 1) (ints .u8 (List.replicate 32 0)) rfl rfl _ _ HX.out rfl HNI.out (zai _ _) ?_; intro w8 hb7 hg7)
   refine bodyPost_ret (zbq (p := 4) (u := 5) (by rfl) _ (A + 1) _ _ _ (by rfl) hb7 Tryz.underlying23 rfl HNI.out) rfl ⟨by rw [HQ.out.1, HQ.out.2, HNZ.out]; rfl, zae HE.out hg7 (by have := HLA.out; omega)⟩
  ·have HRE : Hid (er = 0) := jh (by rw [HER.out, if_neg hz])
   have HBAD := jh (HBAD.out hz)
   have HGOOD := jh (fun q => HGOOD.out q hz)
   clear hz HER HLOW
   rw [HRE.out]
   have HP := jh (rladpub_any s w3 HSL.out)
   have HpL : Hid ((pubB s).length = 32) := jh (zcj _)
   obtain ⟨p, hp⟩ : ∃ p, p = pubB s := ⟨_, rfl⟩
   rw [← hp] at HP HpL HO
   clear hp
   have HIp := jh (zaf HpL.out)
   have HLp : Hid ((p.map bval).length = (ints .u8 (List.replicate 32 0)).length) := jh (by rw [List.length_map, zad, HpL.out]; rfl)
   go_wp2_with (first | (refine zab rfl _ _ rfl (A) rfl _ _ _ _ H1.out Tryz.underlying23 HIS.out ?_))
   refine HP.out.mono ?_
   rintro ex w4 ⟨rfl, hb⟩
   have HX := jh (zaa HX.out hb)
   have HBR := jh (HBR.out.below hb)
   have HCR := jh (HCR.out.below hb)
   have HE := jh (HE.out.trans hb)
   have HEB := jh (zaa HEB.out hb)
   have HZB := jh (zaa HZB.out hb)
   clear hb HP H1
   have HZ := jh (Blk.made w4 (ints .u8 (List.replicate 32 0)) 23)
   have HEA := jh (Ext.alloc w4 (.cells (ints .u8 (List.replicate 32 0)).toArray 23))
   go_upto_region 9 with (refine zac rfl _ _ _ rfl w4.heap.size (p.map bval) rfl rfl _ _ HZ.out HLp.out HIp.out (zag _) ?_; intro w5 hb5 hg5)
   have HW := jh (zae HEA.out hg5 (Nat.le_refl _))
   have HX := jh (zaa HX.out HW.out)
   have HBR := jh (HBR.out.below HW.out)
   have HCR := jh (HCR.out.below HW.out)
   have HE := jh (HE.out.trans HW.out)
   have HEB := jh (zaa HEB.out HW.out)
   have HZB := jh (zaa HZB.out HW.out)
   have HTB := jh hb5
   generalize w4.heap.size = T at *
   clear hb5 hg5 HZ HEA HW HLp
   have rt := HCR.out
   have B0 : Ext w5 w5.drew := Ext.drew _
   refine wp_region_held_drew (S := fun w' => Ext w5 w') (by kernel_rfl) B0 (fun hHeld => ?_)
   have rt := rt.below (Ext.drew _)
   refine tke 0 (.agg ((e).map bval).toArray) rfl (yieldsIf_load_mid (by rfl) _ _ rfl E 0 rfl _ _ (fun w h => zbl HEB.out h) Tryz.underlying23 rfl HIe.out) hHeld ?_
   simp only [Act.put, nrm]
   refine tke 1 (.agg ((z).map bval).toArray) rfl (yieldsIf_load_mid (by rfl) _ _ rfl Z 0 rfl _ _ (fun w h => zbl HZB.out h) Tryz.underlying23 rfl HIz.out) hHeld ?_
   simp only [Act.put, nrm]
   refine tke 3 (.agg ((zB 12).map bval).toArray) rfl (yi_build _ _ _ _ rwra_nonce (by rfl) rfl (by simp)) hHeld ?_
   simp only [Act.put, nrm]
   refine tke 4 (.slice ab 80 capb) rfl (zbv _ (.slice ab 80 capb) (by rfl) rfl rfl) hHeld ?_
   simp only [Act.put, nrm]
   refine tke 5 (.slice ah nh ch) rfl (zbm _ _ _ _ (.slice ab 80 capb) (.slice ah nh ch) (some (.int .i64 32)) none (by rfl) rfl rfl rfl rfl HSH.out) hHeld ?_
   simp only [Act.put, nrm]
   refine tke 6 (.slice (some ⟨T, 0, none⟩) 32 32) rfl (zbm _ _ _ _ (.pointer (some ⟨T, 0, none⟩)) (.slice (some ⟨T, 0, none⟩) 32 32) none none (by rfl) rfl rfl rfl rfl (fun w => zbw Tryz.underlying23 Tryz.sizeOf5 (by omega) _ w)) hHeld ?_
   simp only [Act.put, nrm]
   refine rdy 2 rfl fun K hK => ?_
   go_simp
   refine (rwra_any e z w5.drew HeL.out HzL.out (HG.out.ext (HE.out.trans B0))).mono ?_
   rintro e m1 ⟨rfl, b1⟩
   have rt := rt.below b1
   have N1 : Ext w5 m1 := B0.trans b1
   refine hK.out _ _ N1 (fun hHeld => ?_)
   clear hK K
   try simp only [Act.put, nrm]
   refine rdy 7 rfl fun K hK => ?_
   go_simp
   refine (rOpen_any (betK e z) (zB 12) (b.drop 32) p _ _ m1 (betK_length _ _) (zch _) rt ((zbo (n := 32) HTB.out (by rw [List.length_map]; exact HpL.out) (by unfold maxLen; omega)).below N1) (by rw [HDL.out]; decide) (by rw [HpL.out]; decide)).mono ?_
   rintro e m2 ⟨x2, rfl, r2, b2⟩
   have rt := rt.below b2
   have N2 : Ext w5 m2 := N1.trans b2
   rw [← HO.out] at r2 ⊢
   obtain ⟨a2, c2, hx2, _⟩ := id r2
   rw [List.length_map] at hx2
   subst hx2
   refine hK.out _ _ N2 (fun hHeld => ?_)
   clear hK K
   try simp only [Act.put, nrm]
   refine tke 8 (.tuple #[.slice a2 ((o.getD []).length) c2, .bool o.isSome]) rfl (zbv _ (.tuple #[.slice a2 ((o.getD []).length) c2, .bool o.isSome]) (by rfl) rfl rfl) hHeld ?_
   simp only [Act.put, nrm]
   refine tke 9 (.slice a2 ((o.getD []).length) c2) rfl (yi_val (.slice a2 ((o.getD []).length) c2) (by rfl) (fun w _ => by go_simp)) hHeld ?_
   simp only [Act.put, nrm]
   refine tke 10 (.bool o.isSome) rfl (yi_val (.bool o.isSome) (by rfl) (fun w _ => by go_simp)) hHeld ?_
   simp only [Act.put, nrm]
   refine tke 11 (.slice a2 ((o.getD []).length) c2) rfl (yi_assign _ (.slice a2 ((o.getD []).length) c2) (by rfl) rfl rfl) hHeld ?_
   simp only [Act.put, nrm]
   refine rdy 12 rfl fun K hK => ?_
   go_simp
   refine hK.out _ _ N2 (fun hHeld => ?_)
   clear hK K
   try simp only [Act.put, nrm]
   refine dne ?_
   have HE6 := jh (HE.out.trans N2)
   have HX6 := jh (zaa HX.out N2)
   have HR6 := jh r2
   generalize a2 = ax at HR6 ⊢
   generalize c2 = cx at HR6 ⊢
   clear rt r2 HBR HCR HEB HZB HTB
   generalize m2 = w6 at HE6 HR6 HX6 ⊢
   cases o with
   | none =>
    have HQ := jh (HBAD.out rfl)
    have hae : (none : Option (List UInt8)).isSome = false := rfl
    rw [hae]
    clear hae
    go_wp2_with (refine zac rfl _ _ _ rfl (A + 1) (ints .u8 (List.replicate 32 0)) rfl rfl _ _ HX6.out rfl HNI.out (zai _ _) ?_; intro w8 hb7 hg7)
    refine bodyPost_ret (zbq (p := 4) (u := 5) (by rfl) _ (A + 1) _ _ _ (by rfl) hb7 Tryz.underlying23 rfl HNI.out) rfl ⟨by rw [HQ.out.1, HQ.out.2, HNZ.out]; rfl, zae HE6.out hg7 (by have := HLA.out; omega)⟩
   | some q =>
    obtain ⟨q1, q2, q3⟩ := HGOOD.out q rfl
    have HQ : Hid (unwE s b = 0 ∧ unwK s b = q) := jh ⟨q1, q2⟩
    have HqL := jh q3
    have hae : (some q).isSome = true := rfl
    rw [hae]
    have HR7 : Hid (Row1 w6 (.slice ax (((some q).getD []).length) cx) (q.map bval)) := HR6
    have hql : ((some q).getD []).length = 32 := q3
    rw [hql] at HR7 ⊢
    clear q1 q2 q3 hae hql HR6
    have HZ := jh (Blk.made w6 ((zB 32).map bval) 23)
    have HEA := jh (Ext.alloc w6 (.cells ((zB 32).map bval).toArray 23))
    have HSI := jh (row_src HR7.out q (by rw [List.take_length]) (Nat.le_refl _) HEA.out)
    have HCN : Hid ((q.map bval).length = Nat.min 32 32) := jh (by rw [List.length_map, HqL.out]; rfl)
    have HFT : Hid (0 + (q.map bval).length ≤ ((zB 32).map bval).length) := jh (by rw [List.length_map, List.length_map, HqL.out, zch]; omega)
    have HIq := jh (zaf HqL.out)
    have HLq : Hid ((q.map bval).length = (ints .u8 (List.replicate 32 0)).length) := jh (by rw [List.length_map, zad, HqL.out]; rfl)
    go_upto_region 14 with (refine zcx rfl _ _ 25 25 rfl 5 Tryz.underlying25 one_u8 _ _ _ _ _ _ rfl rfl w6.heap.size 0 _ _ HZ.out (q.map bval) HCN.out (fun h => ⟨rfl, HSI.out h⟩) HFT.out (zag _) ?_; intro w7 hb1 hg1)
    have hsp := zdb 32 q
    rw [show List.replicate (32 - q.length) (0 : UInt8) = [] from by rw [HqL.out]; rfl, List.append_nil] at hsp
    rw [hsp] at hb1
    have HW := jh (zae HEA.out hg1 (Nat.le_refl _))
    have HX6 := jh (zaa HX6.out HW.out)
    have HE6 := jh (HE6.out.trans HW.out)
    have HKB := jh hb1
    generalize w6.heap.size = KB at *
    clear hb1 hg1 HZ HEA HW HSI HCN HFT hsp
    go_wp2_with (first | (refine zab rfl _ _ rfl KB rfl _ _ _ _ HKB.out Tryz.underlying23 HIq.out ?_) | (refine zac rfl _ _ _ rfl (A + 1) (q.map bval) rfl rfl _ _ HX6.out HLq.out HIq.out (zag _) ?_; intro w8 hb7 hg7))
    refine bodyPost_ret (zbq (p := 4) (u := 5) (by rfl) _ (A + 1) _ _ _ (by rfl) hb7 Tryz.underlying23 rfl HIq.out) rfl ⟨by rw [HQ.out.1, HQ.out.2]; rfl, zae HE6.out hg7 (by have := HLA.out; omega)⟩
 ·have h80' : ¬ (b.length : Int) = 80 := by omega
  have HRE := jh (unwE_long (s := s) h80)
  have HRK := jh (unwK_long (s := s) h80)
  clear h80
  go_wp2_with (refine zac rfl _ _ _ rfl (A + 1) (ints .u8 (List.replicate 32 0)) rfl rfl _ _ HX.out rfl HNI.out (zai _ _) ?_; intro w8 hb7 hg7)
  refine bodyPost_ret (zbq (p := 4) (u := 5) (by rfl) _ (A + 1) _ _ _ (by rfl) hb7 Tryz.underlying23 rfl HNI.out) rfl ⟨by rw [HRE.out, HRK.out, HNZ.out]; rfl, zae HE.out hg7 (by have := HLA.out; omega)⟩
end Go.Proofs.YtimmnieopifcbaaGreatDoor
