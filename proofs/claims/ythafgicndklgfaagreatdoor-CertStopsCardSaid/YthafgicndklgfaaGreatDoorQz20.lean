/- Texts that belong together, one behind the other. -/
import Derived.Test.YthafgicndklgfaaGreatDoorQz05
namespace Go.Proofs.YthafgicndklgfaaGreatDoor
set_option linter.unusedVariables false
set_option maxRecDepth 100000
set_option maxHeartbeats 32000000
set_option linter.unusedSimpArgs false
open Go.RowKit
section
section
variable {P : Program}
theorem part_i64 {t : TypeId} {id : Int} {r : List Value} (w : World) (ht : P.underlying t = some (.int .i64)) (hc : P.cellsOf t = 1) : (part t (Value.int .i64 id :: r).toArray 0).run P w = .ok (.int .i64 id) w := by
 simp [part, isAgg, run_underlying ht]
theorem part_arr {t e : TypeId} {n o : Nat} {i : TypeInfo} {pre post : List Value} {l : List UInt8} (w : World) (ht : P.underlying t = some (.array n e)) (hi : P.info? t = some i) (hsz : i.size = n) (hl : l.length = n) (hp : pre.length = o) :
  (part t (pre ++ (l.map bval ++ post)).toArray o).run P w = .ok (.agg (l.map bval).toArray) w := by
 have e1 : ((pre ++ (l.map bval ++ post)).toArray.extract o (o + n)) = (l.map bval).toArray := by
  subst hp
  subst hl
  simp [List.extract_eq_take_drop]
 have e2 : (typeInfo t).run P w = .ok i w := by simp [typeInfo, hi]
 simp [part, isAgg, run_underlying ht, sizeOf, e2, hsz]
 try (subst hp; subst hl; simp)
theorem eqIn_bytes {ty e : TypeId} {n : Nat} {i : TypeInfo} (d : Nat) (hu : P.underlying ty = some (.array n e)) (he : P.underlying e = some (.int .u8)) (hi : P.info? e = some i) (hc : P.cellsOf e = 1) (xs ys : List UInt8) (hx : xs.length = n) (hy : ys.length = n) (w : World) :
  (Op.equalIn (d + 2) ty (.agg (xs.map bval).toArray) (.agg (ys.map bval).toArray)).run P w = .ok (decide (xs = ys)) w := by
 have h1 := run_equalIn_array (P := P) w (d + 1) (xs.map bval).toArray (ys.map bval).toArray hu hi
 rw [hc, run_eqItems_bytes he hi d xs ys w (List.range n) (fun j hj => by have := List.mem_range.1 hj; omega)] at h1
 refine Eq.trans h1 ?_
 congr 1
 rw [Bool.eq_iff_iff, List.all_eq_true, decide_eq_true_iff]
 constructor
 ·intro h
  apply List.ext_getElem (by omega)
  intro k hk1 hk2
  have := h k (List.mem_range.2 (by omega))
  simpa [List.getD, hk1, hk2] using this
 ·rintro rfl j _
  simp
variable {t e : TypeId} {f0 f1 f2 : Field} {i1 i2 ie : TypeInfo} {a b : Int} {ka kb sa sb : List UInt8}
theorem equal_stop (ht : P.underlying t = some (.struct #[f0, f1])) (hp : P.stoodInHeld t = false) (n0 : f0.name ≠ "_") (n1 : f1.name ≠ "_") (h0 : P.underlying f0.type = some (.int .i64)) (o0 : f0.offset = 0) (c0 : P.cellsOf f0.type = 1)
  (h1 : P.underlying f1.type = some (.array 64 e)) (o1 : f1.offset = 1) (g1 : P.info? f1.type = some i1) (z1 : i1.size = 64) (he : P.underlying e = some (.int .u8)) (ge : P.info? e = some ie) (hc : P.cellsOf e = 1)
  (la : sa.length = 64) (lb : sb.length = 64) (w : World) : (Op.equalIn 10000 t (.agg (stopC a sa).toArray) (.agg (stopC b sb).toArray)).run P w = .ok (decide (a = b ∧ sa = sb)) w := by
 have hf : P.fieldsOf t = #[f0, f1] := by unfold Program.fieldsOf; rw [ht]
 have p0 : ∀ (id : Int) (s : List UInt8) (w : World), (part f0.type (stopC id s).toArray f0.offset).run P w = .ok (.int .i64 id) w := fun id s w => by rw [o0]; exact part_i64 w h0 c0
 have p1 : ∀ (id : Int) (s : List UInt8) (w : World), s.length = 64 → (part f1.type (stopC id s).toArray f1.offset).run P w = .ok (.agg (s.map bval).toArray) w := fun id s w hs => by
  rw [o1]
  have h := part_arr (P := P) (pre := [.int .i64 id]) (post := []) (l := s) w h1 g1 z1 hs rfl
  rw [List.append_nil] at h
  exact h
 rw [show 10000 = 9999 + 1 from rfl, run_equalIn_struct w 9999 t _ _ (by rw [hf]; exact ht) hp, hf]
 have q0 := run_equalIn_int (P := P) w 9998 f0.type .i64 .i64 a b h0
 have q1 := eqIn_bytes (P := P) 9997 h1 he ge hc sa sb la lb w
 simp only [Op.eqFields, n0, n1, ne_eq, not_false_eq_true, if_true, Sem.run_bind, p0, p1 _ _ _ la, p1 _ _ _ lb, q0, q1, Result.andThen_ok, Sem.run_ite, Sem.run_pure]
 by_cases e1 : a = b
 ·by_cases e2 : sa = sb
  ·simp [e1, e2]
  ·simp [e1, e2]
 ·simp [e1]
end
end
theorem sig_info16 : ∃ i : TypeInfo, Tryz.prog.info? 26 = some i ∧ i.size = 64 := by
 have h : (Tryz.prog.info? 26).map (·.size) = some 64 := by kernel_rfl
 cases h2 : Tryz.prog.info? 26 with
 | none => rw [h2] at h; cases h
 | some i => rw [h2] at h; exact ⟨i, rfl, Option.some.inj h⟩
theorem stop_guard : Tryz.prog.eqGuardType Tryz.prog.depth 39 = false := by kernel_rfl
theorem stop_eq {a b : Int} {sa sb : List UInt8} {r : Bool} (la : sa.length = 64) (lb : sb.length = 64) (hr : decide (a = b ∧ sa = sb) = r) (w : World) : (Op.equalIn 10000 39 (.agg (stopC a sa).toArray) (.agg (stopC b sb).toArray)).run Tryz.prog w = .ok r w := by
 obtain ⟨i, hi, hz⟩ := sig_info16
 rw [← hr]
 exact equal_stop (t := 39) Tryz.underlying39 (by kernel_rfl) (by decide) (by decide) Tryz.underlying3 rfl (by kernel_rfl) Tryz.underlying26 rfl hi hz Tryz.underlying5 zcv zck la lb w
section
section
variable {P : Program} {w : World}
theorem Row1.made_mark (w : World) (c : Array Value) (e : TypeId) (fr : Nat × Nat) (n m : Nat) (l : List Value) (hn : w.heap.size = n) (hc : c.toList = l) (hl : l.length = m) (hm : m ≤ maxLen) : Row1 (w.alloc (.cells c e fr)) (.slice (some ⟨n, 0, none⟩) m m) l := by
 subst hn; subst hl; subst hc
 refine ⟨_, _, rfl, Nat.le_refl _, hm, (fun e => by cases e), fun _ => ⟨w.heap.size, 0, rfl, by simp, fun i hi => ?_⟩⟩
 rw [Nat.zero_add, World.cell?_alloc_mark]
 simp
end
end
theorem i64_and255 (n : Int) : bits .and .i64 n 255 = n % 256 := by
 have h255 : (BitVec.ofInt 64 255).toNat = 2 ^ 8 - 1 := by decide
 have key : (BitVec.ofInt 64 n &&& BitVec.ofInt 64 255).toNat = (n % ((2 ^ 64 : Nat) : Int)).toNat % 2 ^ 8 := by
  rw [BitVec.toNat_and, BitVec.toNat_ofInt, h255, Nat.and_two_pow_sub_one_eq_mod]
 show IntKind.i64.wrap ((BitVec.ofInt 64 n &&& BitVec.ofInt 64 255).toNat : Nat) = n % 256
 rw [key, IntKind.wrap_i64]
 omega
theorem cells8 (x : Int) : [Value.int .u8 (bits .and .i64 (x / 256 / 256 / 256 / 256 / 256 / 256 / 256) 255 % 256), .int .u8 (bits .and .i64 (x / 256 / 256 / 256 / 256 / 256 / 256) 255 % 256),
  .int .u8 (bits .and .i64 (x / 256 / 256 / 256 / 256 / 256) 255 % 256), .int .u8 (bits .and .i64 (x / 256 / 256 / 256 / 256) 255 % 256), .int .u8 (bits .and .i64 (x / 256 / 256 / 256) 255 % 256),
  .int .u8 (bits .and .i64 (x / 256 / 256) 255 % 256), .int .u8 (bits .and .i64 (x / 256) 255 % 256), .int .u8 (bits .and .i64 x 255 % 256)] = (zep x).map bval := by
 unfold zep
 simp only [List.map_cons, List.map_nil, byte_cell, i64_and255, Int.emod_emod]
 have e : ∀ k : Nat, x / 256 ^ k / 256 = x / 256 ^ (k + 1) := by
  intro k
  rw [Int.ediv_ediv_of_nonneg (Int.pow_nonneg (by omega)), Int.pow_succ]
 have e0 : x / 256 ^ 0 = x := by simp
 have e1 : x / 256 = x / 256 ^ 1 := by simp
 rw [e1]
 simp only [e, e0]
theorem rint_loop (bv : Value) (bl : List UInt8) (b off cap n : Nat) (ns : List Int) (w : World) (hb : Row1 w bv (bl.map bval)) (hn : ns.length = n) (hn0 : 0 < n) (hcap : n ≤ cap) (hm : cap ≤ maxLen) (hbw : b < w.heap.size)
  (hx : ∀ i, i < ns.length → w.cell? ⟨b, off + i, none⟩ = some (.int .i64 (ns.getD i 0))) (hsz : bl.length + 8 * n ≤ 1099511627776) :
  Calls Tryz.prog 61 #[bv, .slice (some ⟨b, off, none⟩) n cap] w fun e w' => ∃ v, e = .returned v ∧ w'.ownsRow w.heap.size 5 1 v (bl.length + 8 * n) ((bl ++ be8s ns).map bval) ∧ Below w.heap.size w w' := by
 unfold maxLen at hm
 obtain ⟨i0, hi, hz0, hz1, hz2⟩ := info_parts Tryz.info5
 have HX := jh hx
 have HN := jh hn
 have HB := jh hb
 have hbl : Hid ((bl.map bval).length = bl.length) := jh (by simp)
 clear hx hn hb
 go_enter Tryz.func61, Tryz.ntmps61
 go_wp2_with (at_builtin; refine zas rfl _ _ 46 rfl w.heap.size 5 i0 (.int .u8 0) 1 Tryz.underlying46 hi hz0 hz1 hz2 rfl _ 0 [] rfl (World.ownsRow_nil _ _ _ _) rfl HB.out (zaj _) (by rw [hbl.out]; unfold maxLen; omega) (by rw [hbl.out]; omega) (Nat.le_refl _) ?_; intro v1 w1 hown1 hgrow1)
 have hown0 : w1.ownsRow w.heap.size 5 1 v1 (bl.length + 8 * 0) ((bl ++ be8s (ns.take 0)).map bval) := by
  have e : 0 + (bl.map bval).length = bl.length + 8 * 0 := by simp
  rw [e, List.nil_append] at hown1
  simpa [be8s] using hown1
 have hbel0 : Below w.heap.size w w1 := (Below.refl _ _).grown hgrow1 (Nat.le_refl _) (fun r hr => by cases hr)
 clear hown1 hgrow1
 have HO0 := jh hown0
 have HB0 := jh hbel0
 clear hown0 hbel0
 go_loopw [5, 6] (fun v i wr => ∃ k : Nat, k ≤ n ∧ i = .int .i64 k ∧ wr.ownsRow w.heap.size 5 1 v (bl.length + 8 * k) ((bl ++ be8s (ns.take k)).map bval) ∧ Below w.heap.size w wr) (fun _ i _ => n - (intOf i).toNat)
 case atStart => exact ⟨0, Nat.zero_le _, rfl, HO0.out, HB0.out⟩
 case round =>
  obtain ⟨k, hk, rfl, hown, hbel⟩ := hrel
  by_cases hlt : k < n
  ·have hn := HN.out
   have c1 := hbel.cell (p := ⟨b, off + k, none⟩) hbw
   rw [HX.out k (by omega)] at c1
   have hsz2 := hbel.size
   generalize hx : ns.getD k 0 = x at *
   have HXK := jh hx
   have HO := jh hown
   have HBE := jh hbel
   clear hn hx hown hbel
   go_wp2_with fail
   refine wp_loop_rounds 9 ?_
   iterate 8 (rw [rounds_succ]; go_wp2_with fail)
   rw [rounds_succ]
   go_wp2_with (at_builtin; refine zas rfl _ _ 46 rfl w.heap.size 5 i0 (.int .u8 0) 1 Tryz.underlying46 hi hz0 hz1 hz2 rfl _ (bl.length + 8 * k) _ rfl (HO.out.alloc _) rfl (Row1.made wr _ _ _ _ _ rfl (cells8 x) rfl (by unfold maxLen; omega)) (zaj _) ?c1 ?c2 ?c3 ?_)
   case c1 => show bl.length + 8 * k + 8 ≤ _; unfold maxLen; omega
   case c2 => show (bl.length + 8 * k + 8) * 1 ≤ _; omega
   case c3 => simp; omega
   intro v2 w2 hown2 hgrow2
   have hn := HN.out
   have hown3 : w2.ownsRow w.heap.size 5 1 v2 (bl.length + 8 * (k + 1)) ((bl ++ be8s (ns.take (k + 1))).map bval) := by
    rw [List.take_succ_eq_append_getElem (by omega), be8s_snoc]
    have e : ns[k]'(by omega) = x := by rw [← HXK.out]; simp [List.getD, show k < ns.length from by omega]
    rw [e, List.map_append, List.map_append]
    have e2 : bl.length + 8 * k + (zep x).length = bl.length + 8 * (k + 1) := by rw [be8_length]; omega
    rw [e2] at hown2
    exact hown2
   have hbel3 : Below w.heap.size w w2 := (HBE.out.alloc hsz2 _).grown hgrow2 (by simp; omega) (fun r hr => (HO.out.lt r hr).1)
   clear hown2 hgrow2 hn
   go_wp2_with fail
   go_roundw
   case rel => exact ⟨k + 1, by omega, by go_num, hown3, hbel3⟩
   case measure => simp [intOf]; omega
  ·have hk' : k = n := by omega
   subst hk'
   have hn := HN.out
   rw [List.take_of_length_le (by omega)] at hown
   have HO := jh hown
   have HBE := jh hbel
   clear hown hbel hn
   go_wp2_with fail
   go_ret
   exact ⟨_, rfl, HO.out, HBE.out⟩
theorem rint_none (bv : Value) (bl : List UInt8) (a : Option Addr) (cap : Nat) (w : World) (hb : Row1 w bv (bl.map bval)) (hsz : bl.length ≤ 1099511627776) (hm : cap ≤ maxLen) :
  Calls Tryz.prog 61 #[bv, .slice a 0 cap] w fun e w' => ∃ v, e = .returned v ∧ w'.ownsRow w.heap.size 5 1 v bl.length (bl.map bval) ∧ Below w.heap.size w w' := by
 unfold maxLen at hm
 obtain ⟨i0, hi, hz0, hz1, hz2⟩ := info_parts Tryz.info5
 have HB := jh hb
 have hbl : Hid ((bl.map bval).length = bl.length) := jh (by simp)
 clear hb
 go_enter Tryz.func61, Tryz.ntmps61
 go_wp2_with (at_builtin; refine zas rfl _ _ 46 rfl w.heap.size 5 i0 (.int .u8 0) 1 Tryz.underlying46 hi hz0 hz1 hz2 rfl _ 0 [] rfl (World.ownsRow_nil _ _ _ _) rfl HB.out (zaj _) (by rw [hbl.out]; unfold maxLen; omega) (by rw [hbl.out]; omega) (Nat.le_refl _) ?_; intro v1 w1 hown1 hgrow1)
 have hown0 : w1.ownsRow w.heap.size 5 1 v1 bl.length (bl.map bval) := by
  have e : 0 + (bl.map bval).length = bl.length := by simp
  rw [e, List.nil_append] at hown1
  exact hown1
 have hbel0 : Below w.heap.size w w1 := (Below.refl _ _).grown hgrow1 (Nat.le_refl _) (fun r hr => by cases hr)
 clear hown1 hgrow1
 have HO0 := jh hown0
 have HB0 := jh hbel0
 clear hown0 hbel0
 refine wp_loop_rounds 1 ?_
 rw [rounds_succ]
 go_wp2_with fail
 go_ret
 exact ⟨_, rfl, HO0.out, HB0.out⟩
theorem row_nums {w : World} {b off : Nat} {zs : List Int} (h : ∀ i, i < (zs.map (Value.int .i64)).length → w.cell? ⟨b, off + i, none⟩ = (zs.map (Value.int .i64))[i]?) :
  ∀ i, i < zs.length → w.cell? ⟨b, off + i, none⟩ = some (.int .i64 (zs.getD i 0)) := by
 intro i hi
 rw [h i (by simpa using hi)]
 simp [List.getD, hi]
theorem rint_any {bv lv : Value} {bl : List UInt8} {ns : List Int} (w : World) (hb : Row1 w bv (bl.map bval)) (hl : Row1 w lv (ns.map (.int .i64))) (hsz : bl.length + 8 * ns.length ≤ 1099511627776) :
  Calls Tryz.prog 61 #[bv, lv] w fun e w' => ∃ v, e = .returned v ∧ w'.ownsRow w.heap.size 5 1 v (bl.length + 8 * ns.length) ((bl ++ be8s ns).map bval) ∧ Below w.heap.size w w' := by
 obtain ⟨a, cap, rfl, h1, h2, h3, h4⟩ := hl
 rw [List.length_map] at h1 ⊢
 by_cases h0 : ns = []
 ·subst h0
  have := rint_none bv bl a cap w hb (by omega) h2
  simpa [be8s] using this
 ·obtain ⟨b, off, rfl, hbw, hc⟩ := h4 (by simpa using h0)
  exact rint_loop bv bl b off cap ns.length ns w hb rfl (List.length_pos_iff.2 h0) h1 h2 hbw (row_nums hc) hsz
theorem rsmall_any (n : Int) (w : World) : Calls Tryz.prog 30 #[.int .i64 n] w fun e w' => e = .returned (.bool (smallB n)) ∧ w = w' := by
 by_cases h1 : 0 ≤ n
 ·by_cases h2 : n ≤ 2147483647
  ·have HB := jh (smallB_of h1 h2)
   go_enter Tryz.func30, Tryz.ntmps30
   go_wp2_with fail
   go_ret
   exact ⟨by rw [HB.out]; rfl, rfl⟩
  ·have HB := jh (smallB_not (n := n) (fun h => h2 h.2))
   go_enter Tryz.func30, Tryz.ntmps30
   go_wp2_with fail
   go_ret
   exact ⟨by rw [HB.out]; rfl, rfl⟩
 ·have HB := jh (smallB_not (n := n) (fun h => h1 h.1))
  go_enter Tryz.func30, Tryz.ntmps30
  go_wp2_with fail
  go_ret
  exact ⟨by rw [HB.out]; rfl, rfl⟩
theorem rstopText_any (id : Int) (w : World) : Calls Tryz.prog 39 #[.int .i64 id] w fun e w' => ∃ x, e = .returned x ∧ w'.ownsRow w.heap.size 5 1 x 12 ((stopT id).map bval) ∧ Below w.heap.size w w' := by
 have kc := fun (w : World) (C : Array Value) (n c : Nat) => Lib.run_convert_bytes_const (P := Tryz.prog) w 46 5 C n c Tryz.underlying46 Tryz.underlying5
 have r1 : Row1 (w.alloc (.cells #[.int .u8 80, .int .u8 67, .int .u8 83, .int .u8 84] 5 (4, 5))) (.slice (some ⟨w.heap.size, 0, none⟩) 4 4) (([80, 67, 83, 84] : List UInt8).map bval) := Row1.made_mark w _ _ _ _ _ _ rfl rfl rfl (by unfold maxLen; omega)
 have e1 : Ext w (w.alloc (.cells #[.int .u8 80, .int .u8 67, .int .u8 83, .int .u8 84] 5 (4, 5))) := Ext.alloc _ _
 have hs : (w.alloc (.cells #[.int .u8 80, .int .u8 67, .int .u8 83, .int .u8 84] 5 (4, 5))).heap.size = w.heap.size + 1 := by simp
 have e2 := Ext.alloc (w.alloc (.cells #[.int .u8 80, .int .u8 67, .int .u8 83, .int .u8 84] 5 (4, 5))) (.cells #[.int .i64 id] 3)
 have r2 : Row1 ((w.alloc (.cells #[.int .u8 80, .int .u8 67, .int .u8 83, .int .u8 84] 5 (4, 5))).alloc (.cells #[.int .i64 id] 3)) (.slice (some ⟨w.heap.size + 1, 0, none⟩) 1 1) (([id] : List Int).map (.int .i64)) := Row1.made _ #[.int .i64 id] 3 _ 1 _ hs rfl rfl (by unfold maxLen; omega)
 have HC := jh (rint_any (bl := [80, 67, 83, 84]) (ns := [id]) _ (r1.below e2) r2 (by simp))
 have HE := jh (e1.trans e2)
 clear r1 e1 hs e2 r2
 go_enter Tryz.func39, Tryz.ntmps39
 go_wp2_with fail
 refine HC.out.mono ?_
 rintro e w1 ⟨x, rfl, ho, hb⟩
 have HO := jh (own_mono ho HE.out.size)
 have HE := jh (HE.out.trans hb)
 clear ho hb HC
 go_wp2_with fail
 go_ret
 exact ⟨x, rfl, own_eq HO.out (by rfl) rfl, HE.out⟩
theorem rPackStop_any (sig : List UInt8) (sid : Int) (w : World) (hs : sig.length = 64) :
  Calls Tryz.prog 22 #[.agg (stopC sid sig).toArray] w fun e w' => ∃ x, e = .returned (.tuple #[x, .int .i64 (stpE sid)]) ∧ w'.ownsRow w.heap.size 5 1 x (pckL sid sig).length ((pckL sid sig).map bval) ∧ Below w.heap.size w w' := by
 obtain ⟨i0, hi, hz0, hz1, hz2⟩ := info_parts Tryz.info5
 have HI0 := jh hi
 have HZ0 := jh hz0
 have HZ1 := jh hz1
 have HZ2 := jh hz2
 have HSL := jh hs
 have HB0 := jh (Blk.made w (stopC sid sig) 39)
 have HE0 := jh (Ext.alloc w (.cells (stopC sid sig).toArray 39))
 clear hs hi hz0 hz1 hz2
 go_enter Tryz.func22, Tryz.ntmps22
 go_upto_region 1 with (fail)
 change Code.wp _ _ _ _ (w.alloc (.cells (stopC sid sig).toArray 39))
 generalize w.alloc (.cells (stopC sid sig).toArray 39) = wa at *
 obtain ⟨A, hA⟩ : ∃ A, A = w.heap.size := ⟨_, rfl⟩
 rw [← hA] at HB0 ⊢
 clear hA
 obtain ⟨hp1, hp2⟩ := stop_parts HB0.out
 have HP1 := jh hp1
 have HRS := jh (row_rng (n := 64) hp2 HB0.out.lt (by rw [List.length_map, HSL.out]) (by unfold maxLen; omega))
 have HE := HE0
 clear hp2 HE0
 go_wp2_with fail
 refine (rsmall_any sid wa).mono ?_
 rintro e w3 ⟨rfl, rfl⟩
 clear hp1
 cases hsm : smallB sid with
 | false =>
  have HQE : Hid (stpE sid = 1) := jh (by unfold stpE; rw [hsm]; rfl)
  have HQL : Hid (pckL sid sig = []) := jh (by unfold pckL; rw [hsm]; rfl)
  clear hsm
  go_wp2_with fail
  refine bodyPost_ret (res_twoP rfl _ _) rfl ?_
  exact ⟨_, by rw [HQE.out]; rfl, by rw [HQL.out]; exact World.ownsRow_nil _ _ _ _, HE.out⟩
 | true =>
  have HQE : Hid (stpE sid = 0) := jh (by unfold stpE; rw [hsm]; rfl)
  have HQL : Hid (pckL sid sig = stopB sid sig) := jh (by unfold pckL; rw [hsm]; rfl)
  clear hsm
  go_upto_region 3 with (fail)
  have B0 : Ext wa wa.drew := Ext.drew _
  refine wp_region_held_drew (S := fun w' => Ext wa w') (by kernel_rfl) B0 (fun hHeld => ?_)
  refine tke 0 (.pointer (some ⟨A, 0, none⟩)) rfl (zbl (.pointer (some ⟨A, 0, none⟩)) (by rfl) (fun w _ => by go_simp)) hHeld ?_
  simp only [Act.put, nrm]
  refine tke 1 (.int .i64 sid) rfl (zbl (.int .i64 sid) (by rfl) (fun w h => by have hc := (Below.cell h (World.block_lt_of_cell? wa _ HP1.out)).trans HP1.out; go_simp)) hHeld ?_
  simp only [Act.put, nrm]
  refine tke 3 (.pointer (some ⟨A, 1, none⟩)) rfl (zbl (.pointer (some ⟨A, 1, none⟩)) (by rfl) (fun w _ => by go_simp)) hHeld ?_
  simp only [Act.put, nrm]
  refine tke 4 (.slice (some ⟨A, 1, none⟩) 64 64) rfl (zew _ _ _ _ (.pointer (some ⟨A, 1, none⟩)) (.slice (some ⟨A, 1, none⟩) 64 64) none none (by rfl) rfl rfl rfl rfl (fun w => cut_part Tryz.underlying26 Tryz.sizeOf5 (by omega) _ _ w)) hHeld ?_
  simp only [Act.put, nrm]
  refine rdy 2 rfl fun K hK => ?_
  go_simp
  refine (rstopText_any sid wa.drew).mono ?_
  rintro e m1 ⟨x1, rfl, o1, b1⟩
  have o1 := own_mono o1 B0.size
  have r1 : Row1 m1 x1 ((stopT sid).map bval) := Row1.of_own o1
  have N1 : Ext wa m1 := B0.trans b1
  refine hK.out _ _ N1 (fun hHeld => ?_)
  clear hK K
  try simp only [Act.put, nrm]
  refine rdy 5 rfl fun K hK => ?_
  refine zan (by rfl) ?_
  refine wp_append_row _ _ 46 rfl (wa).heap.size 5 i0 (.int .u8 0) 1 Tryz.underlying46 HI0.out HZ0.out HZ1.out HZ2.out rfl (x1) 12 _ rfl o1 rfl ((HRS.out).below N1) (zaj _) (by rw [List.length_map, HSL.out]; unfold maxLen; omega) (by rw [List.length_map, HSL.out]; omega) N1.size ?_
  intro v2 m2 ho2 hg2
  have N2 : Ext wa m2 := zfp N1 o1 (Nat.le_refl _) hg2
  have r2 : Row1 m2 v2 (((stopT sid ++ sig)).map bval) := by have h := Row1.of_own ho2; simpa using h
  have o2 := ho2
  refine hK.out _ _ N2 (fun hHeld => ?_)
  clear hK K
  try simp only [Act.put, nrm]
  refine tke 6 v2 rfl (yi_assign _ (v2) (by rfl) rfl rfl) hHeld ?_
  simp only [Act.put, nrm]
  refine rdy 7 rfl fun K hK => ?_
  go_simp
  refine hK.out _ _ N2 (fun hHeld => ?_)
  clear hK K
  try simp only [Act.put, nrm]
  refine dne ?_
  have HO9 := jh o2
  have HE9 := jh (HE.out.trans N2)
  generalize m2 = w9 at HO9 HE9 ⊢
  go_wp2_with fail
  refine bodyPost_ret (res_twoP rfl _ _) rfl ?_
  exact ⟨_, by rw [HQE.out]; rfl, own_eq (own_mono HO9.out HE.out.size) (by rw [HQL.out, zed sid HSL.out, List.length_map, HSL.out]) (by rw [HQL.out]; unfold stopB; rw [List.map_append]), HE9.out⟩
end Go.Proofs.YthafgicndklgfaaGreatDoor
