/- Lemmas. -/
import Derived.Test.YthafgicndklgfaaGreatDoorQy19
import Derived.Test.YthafgicndklgfaaGreatDoorQy23
namespace Go.Proofs.YthafgicndklgfaaGreatDoor
set_option linter.unusedVariables false
set_option maxRecDepth 100000
set_option maxHeartbeats 32000000
set_option linter.unusedSimpArgs false
open Go.RowKit
section
open Go.ChangeShapes Go.WideShapes Go.ChangeAt Go.RowKit
section
variable {H : Type} {enc : TypeId × Value → H} {P : Program} {W : World}
theorem cells_of_arr {t e : TypeId} {n fuel : Nat} {cs : List Value} {x : DataW H × List MemPlace} (ht : P.underlying t = some (.array n e)) (he : P.underlying e = some (.int .u8)) (hc : P.cellsOf e = 1) (hct : P.cellsOf t = n)
  (h : DataW.trod enc P W 0 (fun _ => true) true fuel t cs = some x) : ∃ l : List UInt8, cs = l.map bval ∧ l.length = n := by
 obtain ⟨xs, m, _, _, hl, hxl, hx⟩ := DataW.trod_array ht h
 rw [hct] at hl
 have hone : ∀ c ∈ cs, ∃ n y, DataW.trod enc P W 0 (fun _ => true) true n e [c] = some y := fun c hcm => by
  obtain ⟨i, hi, rfl⟩ := List.getElem_of_mem hcm
  have := hx i (by omega)
  rw [hc, Nat.mul_one] at this
  refine ⟨m, xs[i]'(by omega), ?_⟩
  rw [List.getElem?_eq_getElem (by omega)] at this
  rw [← this]
  congr 1
  show [cs[i]] = (cs.drop i).take 1
  rw [q164 hi]
  rfl
 obtain ⟨zs, hz, hw⟩ := list_of_all (f := Value.int .u8) (p := fun n => (Lit.int .u8 n).wf = true) (fun x hx => by
  obtain ⟨n, y, h⟩ := hone x hx
  exact cell_int he h)
 subst hz
 obtain ⟨l, e⟩ := bytes_of_ints hw
 refine ⟨l, e, ?_⟩
 have := congrArg List.length e
 rw [q101, q101] at this
 rw [q101] at hl
 omega
theorem open_stop {base0 : Nat} {r : Reach} {t e : TypeId} {f0 f1 : Field} {v : Value} {d : DataW H} {ps : List MemPlace} (ht : P.underlying t = some (.struct #[f0, f1])) (hct : P.cellsOf t = 65)
  (h0 : P.underlying f0.type = some (.int .i64)) (o0 : f0.offset = 0) (c0 : P.cellsOf f0.type = 1) (h1 : P.underlying f1.type = some (.array 64 e)) (o1 : f1.offset = 1) (c1 : P.cellsOf f1.type = 64)
  (he : P.underlying e = some (.int .u8)) (hc : P.cellsOf e = 1) (hval : Value.okWide P W r base0 t v) (hd : DataW.Trod enc P W 0 (fun _ => true) true t v d ps) :
  ∃ (id : Int) (sig : List UInt8), v = .agg (stopC id sig).toArray ∧ sig.length = 64 ∧ (Lit.int .i64 id).wf = true := by
 obtain ⟨cs, rfl, hsz⟩ := okWide_struct ht hval
 rw [hct] at hsz
 obtain ⟨l⟩ := cs
 obtain ⟨fuel, hf⟩ := hd
 have hf2 : DataW.trod enc P W 0 (fun _ => true) true fuel t l = some (d, ps) := hf
 obtain ⟨y0, y1, n, _, _, g0, g1⟩ := trod_struct2 ht hf2
 rw [o0, c0] at g0
 rw [o1, c1] at g1
 have hl : l.length = 65 := by simpa using hsz
 match l, hl with
 | x :: rest, hl =>
  have hr : rest.length = 64 := by simpa using hl
  obtain ⟨id, hid, hw⟩ := cell_int h0 (show DataW.trod enc P W 0 (fun _ => true) true n f0.type [x] = some y0 from g0)
  have g1' : DataW.trod enc P W 0 (fun _ => true) true n f1.type rest = some y1 := by
   have e1 : ((x :: rest).drop 1).take 64 = rest := by
    rw [List.drop_one, List.tail_cons, q110 (by omega)]
   rw [e1] at g1
   exact g1
  obtain ⟨sig, hs, hsl⟩ := cells_of_arr h1 he hc c1 g1'
  subst hs
  subst hid
  exact ⟨id, sig, rfl, hsl, hw⟩
theorem open_cert {base0 : Nat} {r : Reach} {t e : TypeId} {f0 f1 f2 : Field} {v : Value} {d : DataW H} {ps : List MemPlace} (ht : P.underlying t = some (.struct #[f0, f1, f2])) (hct : P.cellsOf t = 97)
  (h0 : P.underlying f0.type = some (.int .i64)) (o0 : f0.offset = 0) (c0 : P.cellsOf f0.type = 1) (h1 : P.underlying f1.type = some (.array 32 e)) (o1 : f1.offset = 1) (c1 : P.cellsOf f1.type = 32)
  (h2 : P.underlying f2.type = some (.array 64 e)) (o2 : f2.offset = 33) (c2 : P.cellsOf f2.type = 64)
  (he : P.underlying e = some (.int .u8)) (hc : P.cellsOf e = 1) (hval : Value.okWide P W r base0 t v) (hd : DataW.Trod enc P W 0 (fun _ => true) true t v d ps) :
  ∃ (id : Int) (key sig : List UInt8), v = .agg (certC id key sig).toArray ∧ key.length = 32 ∧ sig.length = 64 ∧ (Lit.int .i64 id).wf = true := by
 obtain ⟨cs, rfl, hsz⟩ := okWide_struct ht hval
 rw [hct] at hsz
 obtain ⟨l⟩ := cs
 obtain ⟨fuel, hf⟩ := hd
 have hf2 : DataW.trod enc P W 0 (fun _ => true) true fuel t l = some (d, ps) := hf
 obtain ⟨y0, y1, y2, n, _, _, g0, g1, g2⟩ := Deep.trod_struct3 ht hf2
 rw [o0, c0] at g0
 rw [o1, c1] at g1
 rw [o2, c2] at g2
 have hl : l.length = 97 := by simpa using hsz
 match l, hl with
 | x :: rest, hl =>
  have hr : rest.length = 96 := by simpa using hl
  obtain ⟨id, hid, hw⟩ := cell_int h0 (show DataW.trod enc P W 0 (fun _ => true) true n f0.type [x] = some y0 from g0)
  have g1' : DataW.trod enc P W 0 (fun _ => true) true n f1.type (rest.take 32) = some y1 := g1
  have g2' : DataW.trod enc P W 0 (fun _ => true) true n f2.type (rest.drop 32) = some y2 := by
   have e1 : ((x :: rest).drop 33).take 64 = rest.drop 32 := by
    rw [show (x :: rest).drop 33 = rest.drop 32 from rfl, q110 (by rw [q139]; omega)]
   rw [e1] at g2
   exact g2
  obtain ⟨key, hk, hkl⟩ := cells_of_arr h1 he hc c1 g1'
  obtain ⟨sig, hs, hsl⟩ := cells_of_arr h2 he hc c2 g2'
  refine ⟨id, key, sig, ?_, hkl, hsl, hw⟩
  subst hid
  unfold certC
  rw [← hk, ← hs, q117]
end
end
theorem certChecks_any {MG : World → Prop} (SC : CrtSaid MG) (root key sig ssig : List UInt8) (cid sid : Int) (w : World) (hr : root.length = 32) (hk : key.length = 32) (hs : sig.length = 64) (hss : ssig.length = 64) (hc : I64 cid) (hi : I64 sid) (hG : MG w) (hV : GV w) :
  Calls Tryz.prog 4 #[.agg (root.map bval).toArray, .agg (certC cid key sig).toArray, .agg (stopC sid ssig).toArray] w fun e w' => e = .returned (.bool true) ∧ Below w.heap.size w w' := by
 have HG := jh hG
 have HV := jh hV
 have HSC := jh SC
 have HRL := jh hr
 have HIR := jh (zac hr)
 have HIC := jh (zdv (id := cid) hk hs)
 have HIS := jh (zdp (id := sid) hss)
 have HB := jh (boxes3 w (root.map bval) (certC cid key sig) (stopC sid ssig) 23 28 39)
 have HC1 := jh (fun w hG => SC.check root key sig cid w hr hk hs hc hG)
 have HC2 := jh (fun w hG => rCheckCert_any root key sig cid w hr hk hs hG)
 have HS1 := jh (fun w hG => SC.checkStop root ssig sid w hr hss hi hG)
 have HS2 := jh (fun w hG => rCheckStop_any root ssig sid w hr hss hG)
 generalize certV root cid key sig = u at *
 generalize stopV root sid ssig = v at *
 clear hr hk hs hss hc hi hG hV SC
 go_enter Tryz.func4, Tryz.ntmps4
 go_upto_region 1 with (fail)
 obtain ⟨H1, H2, H3, HE⟩ := HB.out
 change Code.wp _ _ _ _ (((w.alloc (.cells (root.map bval).toArray 23)).alloc (.cells (certC cid key sig).toArray 28)).alloc (.cells (stopC sid ssig).toArray 39))
 generalize ((w.alloc (.cells (root.map bval).toArray 23)).alloc (.cells (certC cid key sig).toArray 28)).alloc (.cells (stopC sid ssig).toArray 39) = wa at *
 have HE : Hid (Ext w wa) := jh HE
 obtain ⟨C, hC⟩ : ∃ C, C = w.heap.size + 1 + 1 := ⟨_, rfl⟩
 rw [← hC] at H3 ⊢
 obtain ⟨B, hB⟩ : ∃ B, B = w.heap.size + 1 := ⟨_, rfl⟩
 rw [← hB] at H2 ⊢
 obtain ⟨A, hA⟩ : ∃ A, A = w.heap.size := ⟨_, rfl⟩
 rw [← hA] at H1 ⊢
 have H1 := jh H1
 have H2 := jh H2
 have H3 := jh H3
 clear hA hB hC HB
 go_wp2_with fail
 refine (alive_any16 HSC.out wa (HSC.out.ext HG.out HE.out) (HV.out.1.ext HE.out).gp).mono ?_
 rintro e w1 ⟨rfl, hb⟩
 have H1 := xb H1 hb
 have H2 := xb H2 hb
 have H3 := xb H3 hb
 have HE := xt HE hb
 clear hb
 have HM := jh (fun (wx : World) (hx : Ext w1 wx) => HSC.out.ext HG.out (HE.out.trans hx))
 have HW := jh (fun (wx : World) (hx : Ext w1 wx) => HV.out.ext (HE.out.trans hx))
 go_upto_region 2 with (fail)
 have B0 : Ext w1 w1.drew := Ext.drew _
 refine wp_region_held_drew (S := fun w' => Ext w1 w') (by kernel_rfl) B0 (fun hW => ?_)
 refine tke 0 (.bool true) rfl (zbm _ (.bool true) (by rfl) rfl rfl) hW ?_
 simp only [nm]
 refine tke 1 (.bool true) rfl (zbm _ (.bool true) (by rfl) rfl rfl) hW ?_
 simp only [nm]
 refine tke 2 (.agg ((root).map bval).toArray) rfl (sld A 0 (fun w h => zah H1.out h) q100 HIR.out) hW ?_
 simp only [nm]
 refine tke 3 (.agg (certC cid key sig).toArray) rfl (sld B 0 (fun w h => zah H2.out h) q131 HIC.out) hW ?_
 simp only [nm]
 refine tke 5 (.agg ((root).map bval).toArray) rfl (sld A 0 (fun w h => zah H1.out h) q100 HIR.out) hW ?_
 simp only [nm]
 refine tke 6 (.agg (certC cid key sig).toArray) rfl (sld B 0 (fun w h => zah H2.out h) q131 HIC.out) hW ?_
 simp only [nm]
 refine rdy 4 rfl fun K hK => ?_
 go_simp
 refine (HC1.out w1.drew (HM.out w1.drew B0)).mono ?_
 rintro e m1 ⟨rfl, b1⟩
 have N1 : Ext w1 m1 := B0.trans b1
 refine hK.out _ _ N1 (fun hW => ?_)
 clear hK K
 try simp only [nm]
 refine rdy 7 rfl fun K hK => ?_
 go_simp
 refine (HC2.out m1 (HW.out m1 N1)).mono ?_
 rintro e m2 ⟨rfl, b2⟩
 have N2 : Ext w1 m2 := N1.trans b2
 refine hK.out _ _ N2 (fun hW => ?_)
 clear hK K
 try simp only [nm]
 refine tke 8 (.bool true) rfl (yi_eqb _ _ _ _ u u true (by simp) q176 (by rfl) rfl rfl rfl) hW ?_
 simp only [nm]
 refine tke 9 (.bool true) rfl (zct _ _ _ true _ (by rfl) rfl rfl rfl) hW ?_
 simp only [nm]
 refine tke 10 (.bool true) rfl (zbm _ (.bool true) (by rfl) rfl rfl) hW ?_
 simp only [nm]
 refine tke 11 (.agg ((root).map bval).toArray) rfl (sld A 0 (fun w h => zah H1.out h) q100 HIR.out) hW ?_
 simp only [nm]
 refine tke 12 (.agg (stopC sid ssig).toArray) rfl (sld C 0 (fun w h => zah H3.out h) q144 HIS.out) hW ?_
 simp only [nm]
 refine tke 14 (.agg ((root).map bval).toArray) rfl (sld A 0 (fun w h => zah H1.out h) q100 HIR.out) hW ?_
 simp only [nm]
 refine tke 15 (.agg (stopC sid ssig).toArray) rfl (sld C 0 (fun w h => zah H3.out h) q144 HIS.out) hW ?_
 simp only [nm]
 refine rdy 13 rfl fun K hK => ?_
 go_simp
 refine (HS1.out m2 (HM.out m2 N2)).mono ?_
 rintro e m3 ⟨rfl, b3⟩
 have N3 : Ext w1 m3 := N2.trans b3
 refine hK.out _ _ N3 (fun hW => ?_)
 clear hK K
 try simp only [nm]
 refine rdy 16 rfl fun K hK => ?_
 go_simp
 refine (HS2.out m3 (HW.out m3 N3)).mono ?_
 rintro e m4 ⟨rfl, b4⟩
 have N4 : Ext w1 m4 := N3.trans b4
 refine hK.out _ _ N4 (fun hW => ?_)
 clear hK K
 try simp only [nm]
 refine tke 17 (.bool true) rfl (yi_eqb _ _ _ _ v v true (by simp) q176 (by rfl) rfl rfl rfl) hW ?_
 simp only [nm]
 refine tke 18 (.bool true) rfl (zct _ _ _ true _ (by rfl) rfl rfl rfl) hW ?_
 simp only [nm]
 refine rdy 19 rfl fun K hK => ?_
 go_simp
 refine hK.out _ _ N4 (fun hW => ?_)
 clear hK K
 try simp only [nm]
 refine dne ?_
 have HN := xt HE N4
 go_wp2_with fail
 go_ret
 exact ⟨rfl, HN.out⟩
section
open Go.ChangeShapes Go.WideShapes Go.ChangeAt Go.WideMaps Go.WideElems Go.RowKit
theorem certChecks_opened {H : Type} {MG : World → Prop} (SC : CrtSaid MG) (enc : TypeId × Value → H) : LawWalkG (fun W => MG W ∧ GV W) enc Tryz.prog 4 Tryz.f4.params.toList := by
 intro W base args ds ps hval hA hlt hfz hG
 rw [Tryz.params4] at hA hval
 obtain ⟨v0, v1, v2, d0, d1, d2, p0, p1, p2, rfl, rfl, rfl, h0, h1, h2⟩ := trodAll_three hA
 obtain ⟨x0, rfl, hx0⟩ := open_num q100 q111 (by kernel_rfl) (by kernel_rfl) (hval 0 23 v0 rfl rfl) h0
 obtain ⟨n1, k1, x1, rfl, hk1, hx1, hw1⟩ := open_cert q131 (by kernel_rfl) q147 rfl (by kernel_rfl) q100 rfl (by kernel_rfl) q119 rfl (by kernel_rfl) q111 (by kernel_rfl) (hval 1 28 v1 rfl rfl) h1
 obtain ⟨n2, x2, rfl, hx2, hw2⟩ := open_stop q144 (by kernel_rfl) q147 rfl (by kernel_rfl) q119 rfl (by kernel_rfl) q111 (by kernel_rfl) (hval 2 39 v2 rfl rfl) h2
 exact certChecks_any SC x0 k1 x1 x2 n1 n2 W hx0 hk1 hx1 hx2 (I64_wf hw1) (I64_wf hw2) hG.1 hG.2
end
