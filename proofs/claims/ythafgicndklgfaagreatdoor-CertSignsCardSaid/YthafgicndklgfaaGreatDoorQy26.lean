/- Lemmas. -/
import Derived.Test.YthafgicndklgfaaGreatDoorQy22
import Derived.Test.YthafgicndklgfaaGreatDoorQy23
namespace Go.Proofs.YthafgicndklgfaaGreatDoor
set_option linter.unusedVariables false
set_option maxRecDepth 100000
set_option maxHeartbeats 32000000
set_option linter.unusedSimpArgs false
open Go.RowKit
theorem sgnK_length {id : Int} {key : List UInt8} (hk : key.length = 32) : (sgnK id key).length = 32 := by
 unfold sgnK
 split
 ·exact hk
 ·exact zde
theorem sgnG_length (root : List UInt8) (id : Int) (key : List UInt8) : (sgnG root id key).length = 64 := by
 unfold sgnG
 split
 ·exact certG_length _ _ _
 ·exact zbv
section
section
variable {P : Program}
theorem part_i64 {t : TypeId} {id : Int} {r : List Value} (w : World) (ht : P.underlying t = some (.int .i64)) (hc : P.cellsOf t = 1) : (part t (Value.int .i64 id :: r).toArray 0).run P w = .ok (.int .i64 id) w := by
 simp [part, isAgg, run_underlying ht]
theorem part_arr {t e : TypeId} {n o : Nat} {i : TypeInfo} {pre post : List Value} {l : List UInt8} (w : World) (ht : P.underlying t = some (.array n e)) (hi : P.info? t = some i) (hsz : i.size = n) (hl : l.length = n) (hp : pre.length = o) :
  (part t (pre ++ (l.map bval ++ post)).toArray o).run P w = .ok (.agg (l.map bval).toArray) w := by
 have e1 : ((pre ++ (l.map bval ++ post)).toArray.extract o (o + n)) = (l.map bval).toArray := by
  subst hp
  subst hl
  simp [List.extract_eq_take_drop]
 have e2 : (typeInfo t).run P w = .ok i w := by simp [typeInfo, hi]
 simp [part, isAgg, run_underlying ht, sizeOf, e2, hsz]
 try (subst hp; subst hl; simp)
theorem eqIn_bytes {ty e : TypeId} {n : Nat} {i : TypeInfo} (d : Nat) (hu : P.underlying ty = some (.array n e)) (he : P.underlying e = some (.int .u8)) (hi : P.info? e = some i) (hc : P.cellsOf e = 1) (xs ys : List UInt8) (hx : xs.length = n) (hy : ys.length = n) (w : World) :
  (Op.equalIn (d + 2) ty (.agg (xs.map bval).toArray) (.agg (ys.map bval).toArray)).run P w = .ok (decide (xs = ys)) w := by
 have h1 := run_equalIn_array (P := P) w (d + 1) (xs.map bval).toArray (ys.map bval).toArray hu hi
 rw [hc, run_eqItems_bytes he hi d xs ys w (List.range n) (fun j hj => by have := List.mem_range.1 hj; omega)] at h1
 refine Eq.trans h1 ?_
 congr 1
 rw [Bool.eq_iff_iff, List.all_eq_true, decide_eq_true_iff]
 constructor
 ·intro h
  apply List.ext_getElem (by omega)
  intro k hk1 hk2
  have := h k (List.mem_range.2 (by omega))
  simpa [List.getD, hk1, hk2] using this
 ·rintro rfl j _
  simp
variable {t e : TypeId} {f0 f1 f2 : Field} {i1 i2 ie : TypeInfo} {a b : Int} {ka kb sa sb : List UInt8}
theorem equal_cert (ht : P.underlying t = some (.struct #[f0, f1, f2])) (hp : P.stoodInHeld t = false) (n0 : f0.name ≠ "_") (n1 : f1.name ≠ "_") (n2 : f2.name ≠ "_") (h0 : P.underlying f0.type = some (.int .i64)) (o0 : f0.offset = 0) (c0 : P.cellsOf f0.type = 1)
  (h1 : P.underlying f1.type = some (.array 32 e)) (o1 : f1.offset = 1) (g1 : P.info? f1.type = some i1) (z1 : i1.size = 32) (h2 : P.underlying f2.type = some (.array 64 e)) (o2 : f2.offset = 33) (g2 : P.info? f2.type = some i2) (z2 : i2.size = 64)
  (he : P.underlying e = some (.int .u8)) (ge : P.info? e = some ie) (hc : P.cellsOf e = 1) (xa : ka.length = 32) (xb : kb.length = 32)
  (la : sa.length = 64) (lb : sb.length = 64) (w : World) : (Op.equalIn 10000 t (.agg (certC a ka sa).toArray) (.agg (certC b kb sb).toArray)).run P w = .ok (decide (a = b ∧ ka = kb ∧ sa = sb)) w := by
 have hf : P.fieldsOf t = #[f0, f1, f2] := by unfold Program.fieldsOf; rw [ht]
 have p0 : ∀ (id : Int) (k s : List UInt8) (w : World), (part f0.type (certC id k s).toArray f0.offset).run P w = .ok (.int .i64 id) w := fun id k s w => by rw [o0]; exact part_i64 w h0 c0
 have p1 : ∀ (id : Int) (k s : List UInt8) (w : World), k.length = 32 → (part f1.type (certC id k s).toArray f1.offset).run P w = .ok (.agg (k.map bval).toArray) w := fun id k s w hk => by
  rw [o1]
  exact part_arr (P := P) (pre := [.int .i64 id]) (post := s.map bval) (l := k) w h1 g1 z1 hk rfl
 have p2 : ∀ (id : Int) (k s : List UInt8) (w : World), k.length = 32 → s.length = 64 → (part f2.type (certC id k s).toArray f2.offset).run P w = .ok (.agg (s.map bval).toArray) w := fun id k s w hk hs => by
  rw [o2]
  have h := part_arr (P := P) (pre := .int .i64 id :: k.map bval) (post := []) (l := s) (o := 33) w h2 g2 z2 hs (by rw [q126, q101, hk])
  rw [q136] at h
  exact h
 rw [show 10000 = 9999 + 1 from rfl, run_equalIn_struct w 9999 t _ _ (by rw [hf]; exact ht) hp, hf]
 have q0 := run_equalIn_int (P := P) w 9998 f0.type .i64 .i64 a b h0
 have q1 := eqIn_bytes (P := P) 9997 h1 he ge hc ka kb xa xb w
 have q2 := eqIn_bytes (P := P) 9997 h2 he ge hc sa sb la lb w
 simp only [Op.eqFields, n0, n1, n2, ne_eq, not_false_eq_true, if_true, Sem.run_bind, p0, p1 _ _ _ _ xa, p1 _ _ _ _ xb, p2 _ _ _ _ xa la, p2 _ _ _ _ xb lb, q0, q1, q2, Result.andThen_ok, Sem.run_ite, Sem.run_pure]
 by_cases e1 : a = b
 ·by_cases e2 : ka = kb
  ·by_cases e3 : sa = sb
   ·simp [e1, e2, e3]
   ·simp [e1, e2, e3]
  ·simp [e1, e2]
 ·simp [e1]
section
variable {ops : Array Oper} {S : World → Prop}
theorem yi_eqs {o : Oper} {a : Act} (ty rt : TypeId) (x y : Operand) (xs ys : Array Value) (r : Bool) (hr : ∀ w, (Op.equalIn 10000 ty (.agg xs) (.agg ys)).run P w = .ok r w) (hm : P.eqGuardType P.depth ty = false)
  (hw : Region.wanted o (yielded ops a.tmps) = true) (ho : o.op = .binOp .eql ty x y rt) (hx : a.eval x = .agg xs) (hy : a.eval y = .agg ys) : YieldsIf P ops S o (.bool r) a :=
 zbj _ hw (fun w _ => by
  have h1 : (Op.equal ty (.agg xs) (.agg ys)).run P w = .ok r w := hr w
  unfold execOp
  simp [ho, hx, hy, eqGuard, hm, binOp, h1])
end
end
end
theorem sig_info16 : ∃ i : TypeInfo, Tryz.prog.info? 26 = some i ∧ i.size = 64 := by
 have h : (Tryz.prog.info? 26).map (·.size) = some 64 := by kernel_rfl
 cases h2 : Tryz.prog.info? 26 with
 | none => rw [h2] at h; cases h
 | some i => rw [h2] at h; exact ⟨i, rfl, Option.some.inj h⟩
theorem num_info16 : ∃ i : TypeInfo, Tryz.prog.info? 23 = some i ∧ i.size = 32 := by
 have h : (Tryz.prog.info? 23).map (·.size) = some 32 := by kernel_rfl
 cases h2 : Tryz.prog.info? 23 with
 | none => rw [h2] at h; cases h
 | some i => rw [h2] at h; exact ⟨i, rfl, Option.some.inj h⟩
theorem cert_guard : Tryz.prog.eqGuardType Tryz.prog.depth 28 = false := by kernel_rfl
theorem cert_eq {a b : Int} {ka kb sa sb : List UInt8} {r : Bool} (xa : ka.length = 32) (xb : kb.length = 32) (la : sa.length = 64) (lb : sb.length = 64) (hr : decide (a = b ∧ ka = kb ∧ sa = sb) = r) (w : World) : (Op.equalIn 10000 28 (.agg (certC a ka sa).toArray) (.agg (certC b kb sb).toArray)).run Tryz.prog w = .ok r w := by
 obtain ⟨i, hi, hz⟩ := sig_info16
 obtain ⟨j, hj, hy⟩ := num_info16
 rw [← hr]
 exact equal_cert (t := 28) q131 (by kernel_rfl) (by decide) (by decide) (by decide) q147 rfl (by kernel_rfl) q100 rfl hj hy q119 rfl hi hz q111 zch zby xa xb la lb w
theorem sgnI_in (sid : Int) (key : List UInt8) : I64 (sgnI sid key) := by
 unfold I64 sgnI sgnOk
 split
 ·next h =>
  have h1 : smallB sid = true := by
   cases hb : smallB sid with
   | true => rfl
   | false => rw [hb] at h; simp at h
  have := smallB_lo h1
  have := smallB_hi h1
  omega
 ·omega
section
section
variable {P : Program} {ops : Array Oper} {S : World → Prop}
theorem yi_neI {o : Oper} {a : Act} (k : IntKind) (ty rt : TypeId) (x y : Operand) (b c : Int) (r : Bool) (hr : decide (b = c) = !r) (hw : Region.wanted o (yielded ops a.tmps) = true) (ho : o.op = .binOp .neq ty x y rt) (hx : a.eval x = .int k b) (hy : a.eval y = .int k c) : YieldsIf P ops S o (.bool r) a :=
 zbj _ hw (fun w _ => by
  have hr2 : r = !decide (b = c) := by rw [hr, Bool.not_not]
  subst hr2
  unfold execOp
  simp only [ho, hx, hy]
  simp [eqGuard, binOp, Op.intCmp, Result.andThen]
  try rw [Bool.eq_iff_iff]; simp)
end
end
theorem sgn_holds {sid : Int} {key : List UInt8} (root : List UInt8) (h : sgnE sid key = 0) : certV (edPub root) (sgnI sid key) (sgnK sid key) (sgnG root sid key) = true := by
 cases h1 : smallB sid with
 | false => rw [(sgn_arg (key := key) h1 root).1] at h; cases h
 | true =>
  cases h2 : mayB key with
  | false => rw [(sgn_key (key := key) h1 h2 root).1] at h; cases h
  | true =>
   have hy := sgn_yes h1 h2 root
   rw [hy.2.1, hy.2.2.1, hy.2.2.2]
   exact certV_sign root key h1
theorem certSigns_any {MG : World → Prop} (SC : CrtSaid MG) (root key : List UInt8) (sid : Int) (w : World) (hr : root.length = 32) (hk : key.length = 32) (hi : I64 sid) (hG : MG w) (hV : GV w) :
  Calls Tryz.prog 3 #[.agg (root.map bval).toArray, .int .i64 sid, .agg (key.map bval).toArray] w fun e w' => e = .returned (.bool true) ∧ Below w.heap.size w w' := by
 have HG := jh hG
 have HV := jh hV
 have HSC := jh SC
 have HRL := jh hr
 have HKL := jh hk
 have HSI := jh hi
 have HIR := jh (zac hr)
 have HIK := jh (zac hk)
 have HB := jh (boxes2 w (root.map bval) (key.map bval) 23 23)
 have HPL : Hid ((edPub root).length = 32) := jh (edPub_length _)
 have HS1 := jh (fun w hG => SC.sign root key sid w hr hk hi hG)
 have HS2 := jh (fun w hG => rSignCert_any root key sid w hr hk hG)
 have HPR := jh (fun w hG => rpub_g root w hr hG)
 have HHO := jh (fun h => sgn_holds (sid := sid) (key := key) root h)
 have HII := jh (sgnI_in sid key)
 have HJL := jh (sgnK_length (id := sid) hk)
 have HGL := jh (sgnG_length root sid key)
 generalize sgnE sid key = E at *
 generalize sgnI sid key = I at *
 generalize sgnK sid key = J at *
 generalize sgnG root sid key = g at *
 generalize edPub root = p at *
 clear hr hk hi hG hV SC
 have HLC : Hid ((certC I J g).length = (certC 0 z32 z64).length) := jh (by rw [zbz HJL.out HGL.out, zbz zde zbv])
 have HIC := jh (zdv (id := I) HJL.out HGL.out)
 go_enter Tryz.func3, Tryz.ntmps3
 go_upto_region 1 with (fail)
 obtain ⟨H1, H2, HE⟩ := HB.out
 change Code.wp _ _ _ _ ((w.alloc (.cells (root.map bval).toArray 23)).alloc (.cells (key.map bval).toArray 23))
 generalize (w.alloc (.cells (root.map bval).toArray 23)).alloc (.cells (key.map bval).toArray 23) = wa at *
 have HE : Hid (Ext w wa) := jh HE
 obtain ⟨B, hB⟩ : ∃ B, B = w.heap.size + 1 := ⟨_, rfl⟩
 rw [← hB] at H2 ⊢
 obtain ⟨A, hA⟩ : ∃ A, A = w.heap.size := ⟨_, rfl⟩
 rw [← hA] at H1 ⊢
 have H1 := jh H1
 have H2 := jh H2
 clear hA hB HB
 go_wp2_with fail
 refine (alive_any16 HSC.out wa (HSC.out.ext HG.out HE.out) (HV.out.1.ext HE.out).gp).mono ?_
 rintro e w1 ⟨rfl, hb⟩
 have H1 := xb H1 hb
 have H2 := xb H2 hb
 have HE := xt HE hb
 clear hb
 go_wp2_with (first | (refine zbo (by rfl) _ _ rfl A rfl _ _ _ _ H1.out q100 HIR.out ?_) | (refine zbo (by rfl) _ _ rfl B rfl _ _ _ _ H2.out q100 HIK.out ?_))
 refine (HS1.out w1 (HSC.out.ext HG.out HE.out)).mono ?_
 rintro e w2 ⟨rfl, hb⟩
 have H1 := xb H1 hb
 have H2 := xb H2 hb
 have HE := xt HE hb
 clear hb HS1
 have HZ := jh (Blk.made w2 (certC 0 z32 z64) 28)
 have HEA := jh (Ext.alloc w2 (.cells (certC 0 z32 z64).toArray 28))
 go_upto_region 3 with (refine ssb w2.heap.size (certC I J g) HZ.out HLC.out HIC.out (zek _ _ _) ?_; intro w3 hb2 hg2)
 have HX := jh (zab HEA.out hg2 (q102 _))
 have H1 := xb H1 HX.out
 have H2 := xb H2 HX.out
 have HE := xt HE HX.out
 have H3 := jh hb2
 obtain ⟨C, hC⟩ : ∃ C, C = w2.heap.size := ⟨_, rfl⟩
 rw [← hC] at H3 ⊢
 clear hb2 hg2 HZ HEA HX hC
 go_wp2_with (first | (refine zbo (by rfl) _ _ rfl A rfl _ _ _ _ H1.out q100 HIR.out ?_) | (refine zbo (by rfl) _ _ rfl B rfl _ _ _ _ H2.out q100 HIK.out ?_))
 refine (HS2.out w3 (HV.out.ext HE.out)).mono ?_
 rintro e w4 ⟨rfl, hb⟩
 have H1 := xb H1 hb
 have H2 := xb H2 hb
 have H3 := xb H3 hb
 have HE := xt HE hb
 clear hb HS2
 have HZ := jh (Blk.made w4 (certC 0 z32 z64) 28)
 have HEA := jh (Ext.alloc w4 (.cells (certC 0 z32 z64).toArray 28))
 go_upto_region 4 with (refine ssb w4.heap.size (certC I J g) HZ.out HLC.out HIC.out (zek _ _ _) ?_; intro w5 hb2 hg2)
 have HX := jh (zab HEA.out hg2 (q102 _))
 have H1 := xb H1 HX.out
 have H3 := xb H3 HX.out
 have HE := xt HE HX.out
 have H4 := jh hb2
 obtain ⟨D, hD⟩ : ∃ D, D = w4.heap.size := ⟨_, rfl⟩
 rw [← hD] at H4 ⊢
 clear hb2 hg2 HZ HEA HX hD H2
 by_cases hx : E = 0
 ·have HEN := jh hx
  have HHV := jh (HHO.out hx)
  have HC1 := jh (fun (wx : World) (hx : Ext w5 wx) => HSC.out.check p J g I wx HPL.out HJL.out HGL.out HII.out (HSC.out.ext HG.out (HE.out.trans hx)))
  have HPX := jh (fun (wx : World) (hx : Ext w5 wx) => HPR.out wx (HV.out.1.ext (HE.out.trans hx)).gp)
  rw [HHV.out] at HC1
  clear hx HHO HPR
  have B0 : Ext w5 w5.drew := Ext.drew _
  refine wp_region_held_drew (S := fun w' => Ext w5 w') (by kernel_rfl) B0 (fun hW => ?_)
  refine tke 0 (.bool true) rfl (zbm _ (.bool true) (by rfl) rfl rfl) hW ?_
  simp only [nm]
  refine tke 1 (.bool true) rfl (zbm _ (.bool true) (by rfl) rfl rfl) hW ?_
  simp only [nm]
  refine tke 2 (.int .i64 E) rfl (zbm _ (.int .i64 E) (by rfl) rfl rfl) hW ?_
  simp only [nm]
  refine tke 4 (.int .i64 E) rfl (zbm _ (.int .i64 E) (by rfl) rfl rfl) hW ?_
  simp only [nm]
  refine rdy 3 rfl fun K hK => ?_
  go_simp
  refine (crt_num_any (E) w5.drew).mono ?_
  rintro e m1 ⟨rfl, b1⟩
  have N1 : Ext w5 m1 := B0.trans b1
  refine hK.out _ _ N1 (fun hW => ?_)
  clear hK K
  try simp only [nm]
  refine tke 5 (.bool true) rfl (yi_eqi .i64 _ _ _ _ _ _ true (decide_eq_true (rfl)) (by rfl) rfl rfl rfl) hW ?_
  simp only [nm]
  refine tke 6 (.bool true) rfl (zct _ _ _ true _ (by rfl) rfl rfl rfl) hW ?_
  simp only [nm]
  refine tke 7 (.bool true) rfl (zbm _ (.bool true) (by rfl) rfl rfl) hW ?_
  simp only [nm]
  refine tke 8 (.agg (certC I J g).toArray) rfl (sld C 0 (fun w h => zah H3.out h) q131 HIC.out) hW ?_
  simp only [nm]
  refine tke 9 (.agg (certC I J g).toArray) rfl (sld D 0 (fun w h => zah H4.out h) q131 HIC.out) hW ?_
  simp only [nm]
  refine tke 10 (.bool true) rfl (yi_eqs _ _ _ _ _ _ true (cert_eq HJL.out HJL.out HGL.out HGL.out (decide_eq_true ⟨rfl, rfl, rfl⟩)) cert_guard (by rfl) rfl rfl rfl) hW ?_
  simp only [nm]
  refine tke 11 (.bool true) rfl (zct _ _ _ true _ (by rfl) rfl rfl rfl) hW ?_
  simp only [nm]
  refine tke 12 (.bool true) rfl (zbm _ (.bool true) (by rfl) rfl rfl) hW ?_
  simp only [nm]
  refine tke 13 (.int .i64 E) rfl (zbm _ (.int .i64 E) (by rfl) rfl rfl) hW ?_
  simp only [nm]
  refine tke 14 (.bool false) rfl (yi_neI .i64 _ _ _ _ E 0 false (decide_eq_true HEN.out) (by rfl) rfl rfl rfl) hW ?_
  simp only [nm]
  refine tke 15 (.bool false) rfl (zbm _ (.bool false) (by rfl) rfl rfl) hW ?_
  simp only [nm]
  refine tke 16 (.agg ((root).map bval).toArray) rfl (sld A 0 (fun w h => zah H1.out h) q100 HIR.out) hW ?_
  simp only [nm]
  refine tke 18 (.agg (certC I J g).toArray) rfl (sld C 0 (fun w h => zah H3.out h) q131 HIC.out) hW ?_
  simp only [nm]
  refine rdy 17 rfl fun K hK => ?_
  go_simp
  refine (HPX.out m1 N1).mono ?_
  rintro e m2 ⟨rfl, b2⟩
  have N2 : Ext w5 m2 := N1.trans b2
  refine hK.out _ _ N2 (fun hW => ?_)
  clear hK K
  try simp only [nm]
  refine rdy 19 rfl fun K hK => ?_
  go_simp
  refine (HC1.out m2 N2).mono ?_
  rintro e m3 ⟨rfl, b3⟩
  have N3 : Ext w5 m3 := N2.trans b3
  refine hK.out _ _ N3 (fun hW => ?_)
  clear hK K
  try simp only [nm]
  refine tke 20 (.bool true) rfl (zct _ _ _ false _ (by rfl) rfl rfl rfl) hW ?_
  simp only [nm]
  refine tke 21 (.bool true) rfl (zct _ _ _ true _ (by rfl) rfl rfl rfl) hW ?_
  simp only [nm]
  refine rdy 22 rfl fun K hK => ?_
  go_simp
  refine hK.out _ _ N3 (fun hW => ?_)
  clear hK K
  try simp only [nm]
  refine dne ?_
  have HN := xt HE N3
  go_wp2_with fail
  go_ret
  exact ⟨rfl, HN.out⟩
 ·have HEN := jh hx
  clear hx HHO HPR
  have B0 : Ext w5 w5.drew := Ext.drew _
  refine wp_region_held_drew (S := fun w' => Ext w5 w') (by kernel_rfl) B0 (fun hW => ?_)
  refine tke 0 (.bool true) rfl (zbm _ (.bool true) (by rfl) rfl rfl) hW ?_
  simp only [nm]
  refine tke 1 (.bool true) rfl (zbm _ (.bool true) (by rfl) rfl rfl) hW ?_
  simp only [nm]
  refine tke 2 (.int .i64 E) rfl (zbm _ (.int .i64 E) (by rfl) rfl rfl) hW ?_
  simp only [nm]
  refine tke 4 (.int .i64 E) rfl (zbm _ (.int .i64 E) (by rfl) rfl rfl) hW ?_
  simp only [nm]
  refine rdy 3 rfl fun K hK => ?_
  go_simp
  refine (crt_num_any (E) w5.drew).mono ?_
  rintro e m1 ⟨rfl, b1⟩
  have N1 : Ext w5 m1 := B0.trans b1
  refine hK.out _ _ N1 (fun hW => ?_)
  clear hK K
  try simp only [nm]
  refine tke 5 (.bool true) rfl (yi_eqi .i64 _ _ _ _ _ _ true (decide_eq_true (rfl)) (by rfl) rfl rfl rfl) hW ?_
  simp only [nm]
  refine tke 6 (.bool true) rfl (zct _ _ _ true _ (by rfl) rfl rfl rfl) hW ?_
  simp only [nm]
  refine tke 7 (.bool true) rfl (zbm _ (.bool true) (by rfl) rfl rfl) hW ?_
  simp only [nm]
  refine tke 8 (.agg (certC I J g).toArray) rfl (sld C 0 (fun w h => zah H3.out h) q131 HIC.out) hW ?_
  simp only [nm]
  refine tke 9 (.agg (certC I J g).toArray) rfl (sld D 0 (fun w h => zah H4.out h) q131 HIC.out) hW ?_
  simp only [nm]
  refine tke 10 (.bool true) rfl (yi_eqs _ _ _ _ _ _ true (cert_eq HJL.out HJL.out HGL.out HGL.out (decide_eq_true ⟨rfl, rfl, rfl⟩)) cert_guard (by rfl) rfl rfl rfl) hW ?_
  simp only [nm]
  refine tke 11 (.bool true) rfl (zct _ _ _ true _ (by rfl) rfl rfl rfl) hW ?_
  simp only [nm]
  refine tke 12 (.bool true) rfl (zbm _ (.bool true) (by rfl) rfl rfl) hW ?_
  simp only [nm]
  refine tke 13 (.int .i64 E) rfl (zbm _ (.int .i64 E) (by rfl) rfl rfl) hW ?_
  simp only [nm]
  refine tke 14 (.bool true) rfl (yi_neI .i64 _ _ _ _ E 0 true (decide_eq_false HEN.out) (by rfl) rfl rfl rfl) hW ?_
  simp only [nm]
  refine tke 15 (.bool true) rfl (zbm _ (.bool true) (by rfl) rfl rfl) hW ?_
  simp only [nm]
  refine tke 16 undef rfl (zbt (by rfl)) hW ?_
  simp only [nm]
  refine tke 17 undef rfl (zbt (by rfl)) hW ?_
  simp only [nm]
  refine tke 18 undef rfl (zbt (by rfl)) hW ?_
  simp only [nm]
  refine tke 19 undef rfl (zbt (by rfl)) hW ?_
  simp only [nm]
  refine tke 20 (.bool true) rfl (zct _ _ _ true _ (by rfl) rfl rfl rfl) hW ?_
  simp only [nm]
  refine tke 21 (.bool true) rfl (zct _ _ _ true _ (by rfl) rfl rfl rfl) hW ?_
  simp only [nm]
  refine rdy 22 rfl fun K hK => ?_
  go_simp
  refine hK.out _ _ N1 (fun hW => ?_)
  clear hK K
  try simp only [nm]
  refine dne ?_
  have HN := xt HE N1
  go_wp2_with fail
  go_ret
  exact ⟨rfl, HN.out⟩
section
open Go.ChangeShapes Go.WideShapes Go.ChangeAt Go.WideMaps Go.WideElems Go.RowKit
theorem certSigns_opened {H : Type} {MG : World → Prop} (SC : CrtSaid MG) (enc : TypeId × Value → H) : LawWalkG (fun W => MG W ∧ GV W) enc Tryz.prog 3 Tryz.f3.params.toList := by
 intro W base args ds ps hval hA hlt hfz hG
 rw [Tryz.params3] at hA hval
 obtain ⟨v0, v1, v2, d0, d1, d2, p0, p1, p2, rfl, rfl, rfl, h0, h1, h2⟩ := trodAll_three hA
 obtain ⟨x0, rfl, hx0⟩ := open_num q100 q111 (by kernel_rfl) (by kernel_rfl) (hval 0 23 v0 rfl rfl) h0
 obtain ⟨x1, rfl, _, _, hw1⟩ := open_int q147 (hval 1 3 v1 rfl rfl) h1
 obtain ⟨x2, rfl, hx2⟩ := open_num q100 q111 (by kernel_rfl) (by kernel_rfl) (hval 2 23 v2 rfl rfl) h2
 exact certSigns_any SC x0 x2 x1 W hx0 hx2 (I64_wf hw1) hG.1 hG.2
end
