/- Texts that belong together, one behind the other. -/
import Derived.Test.YthafgicndklgfaaGreatDoorQz12
import Derived.Test.YthafgicndklgfaaGreatDoorQz14
import Derived.Test.YthafgicndklgfaaGreatDoorQz16
import Derived.Test.YthafgicndklgfaaGreatDoorQz17
import Derived.Test.YthafgicndklgfaaGreatDoorQz19
import Derived.Test.YthafgicndklgfaaGreatDoorQz20
namespace Go.Proofs.YthafgicndklgfaaGreatDoor
set_option linter.unusedVariables false
set_option maxRecDepth 100000
set_option maxHeartbeats 32000000
set_option linter.unusedSimpArgs false
open Go.RowKit
section
section
variable {P : Program} {w w' : World} {v : Value} {vs : List Value}
theorem Row1.drewN (h : Row1 w v vs) (n : Nat) : Row1 (w.drewN n) v vs := h
theorem step_append_row {ops : Array Oper} {o : Oper} {a : Act} {K : Act → World → Prop} {Q : Exit → Act → World → Prop} {E : Prop} (hgd : o.guard = none) (s y : Operand) (t : TypeId)
  (ho : o.op = .call { callee := .builtin .append, args := #[s, y], argTypes := #[t, t] })
  (base : Nat) (e : TypeId) (i : TypeInfo) (z : Value) (bytes : Nat) (ht : P.underlying t = some (.slice e)) (hi : P.info? e = some i) (hz : i.zero = some z)
  (hsize : i.size = 1) (hby : i.bytes = bytes) (hzs : z.cells.size = 1)
  (x : Value) (n : Nat) (xs : List Value) (hs : a.eval s = x) (hown : w.ownsRow base e 1 x n xs)
  (hx : a.eval y = v) (hv : Row1 w v vs) (h1 : ∀ u ∈ vs, u.oneCell' = true)
  (h63 : n + vs.length ≤ maxLen) (hbytes : (n + vs.length) * bytes ≤ 140737488355328) (hbase : base ≤ w.heap.size)
  (h : ∀ x' w', w'.ownsRow base e 1 x' (n + vs.length) (xs ++ vs) → w.grownBy w' x.ownBlock → K (a.put o.dst x') w') :
  if Region.wanted o (yielded ops a.tmps) = true then Oper.wp P o a w K Q else E := by
 have hw : Region.wanted o (yielded ops a.tmps) = true := by simp [Region.wanted, hgd]
 rw [if_pos hw]
 exact wp_append_row s y t ho base e i z bytes ht hi hz hsize hby hzs x n xs hs hown hx hv h1 h63 hbytes hbase h
end
end
theorem decI_small {l : List UInt8} (h : l.length ≤ 7) : decI l = (accN l : Int) := by
 unfold decI
 have h1 := accN_lt l
 have h2 : 256 ^ l.length ≤ 256 ^ 7 := Nat.pow_le_pow_right (by omega) h
 have h3 : (256 : Nat) ^ 7 = 72057594037927936 := by decide
 rw [IntKind.wrap_i64]
 omega
theorem rwP_le {b : List UInt8} {p : Nat} {bad : Bool} {n : Nat} (hp : p ≤ b.length) : rwP b p bad n ≤ b.length := by
 unfold rwP
 split
 ·exact hp
 ·rename_i h
  unfold rwB at h
  simp at h
  omega
section
theorem row_src {w : World} {a : Option Addr} {n cap : Nat} {l : List UInt8} (h : Row1 w (.slice a n cap) (l.map bval)) (c : List UInt8) (hc : c = l.take c.length) (hcl : c.length ≤ l.length) {w' : World} (he : Ext w w') :
  0 < (c.map bval).length → ∃ ad, a = some ad ∧ ∀ (j : Nat) (v : Value), (c.map bval)[j]? = some v → w'.cell? (ad.add j) = some v := fun hpos => by
 obtain ⟨a', cap', e, t1, t2, t3, t4⟩ := h
 cases e
 rw [List.length_map] at hpos t4
 obtain ⟨b3, off3, rfl, t5, t6⟩ := t4 (by intro e; have h := congrArg List.length e; rw [List.length_map] at h; simp only [List.length_nil] at h; omega)
 refine ⟨_, rfl, fun j v hj => ?_⟩
 have hjl : j < c.length := by
  rcases Nat.lt_or_ge j c.length with h | h
  ·exact h
  ·rw [List.getElem?_eq_none (by rw [List.length_map]; exact h)] at hj; cases hj
 have e := t6 j (by omega)
 have e2 : (l.map bval)[j]? = (c.map bval)[j]? := by
  conv => rhs; rw [hc]
  rw [List.getElem?_map, List.getElem?_map, List.getElem?_take, if_pos (by first | exact hjl | (rw [List.length_take]; omega))]
 rw [WideShapes.add_plain, ← hj, ← e2, ← e]
 exact he.cell (p := ⟨b3, off3 + j, none⟩) t5
end
def RCur (w : World) (c : Nat) (bv : Value) (p : Nat) (bad : Bool) : Prop := Blk w c [bv, .int .i64 p, .bool bad] 81
/-- Raw, of a cursor that is bad, or where there are fewer bytes, or of a negative number. -/
theorem rraw_no (c p len cap : Nat) (a : Option Addr) (bad : Bool) (n : Int) (w : World) (h : RCur w c (.slice a len cap) p bad) (hlen : len ≤ cap) (hm : cap ≤ maxLen) (hp : p ≤ len) (hn : bad = true ∨ n < 0 ∨ (len : Int) - p < n) :
  Calls Tryz.prog 45 #[.pointer (some ⟨c, 0, none⟩), .int .i64 n] w fun e w' => e = .returned (.slice none 0 0) ∧ RCur w' c (.slice a len cap) p true ∧ w.grownBy w' (some c) := by
 unfold maxLen at hm
 have c0 := h.cell 0
 have c1 := h.cell 1
 have c2 := h.cell 2
 have f2 := h.free 2
 simp only [List.getElem?_cons_zero, List.getElem?_cons_succ] at c0 c1 c2
 have HR := jh h
 have hpi : (0 : Int) ≤ (p : Int) := Int.natCast_nonneg _
 clear h
 cases bad with
 | true =>
  clear hn
  go_enter Tryz.func45, Tryz.ntmps45
  go_wp2_with fail
  go_quiet (fail)
  go_wp2_with fail
  go_ret
  exact ⟨rfl, (HR.out.drewN _).set 2 (.bool true), zbp (zem (zch w _) _) 2 _⟩
 | false =>
  by_cases h1 : n < 0
  ·clear hn
   go_enter Tryz.func45, Tryz.ntmps45
   go_wp2_with fail
   go_quiet (fail)
   go_wp2_with fail
   go_ret
   exact ⟨rfl, (HR.out.drewN _).set 2 (.bool true), zbp (zem (zch w _) _) 2 _⟩
  ·have h2 : (len : Int) - p < n := by
    rcases hn with h | h | h
    ·cases h
    ·exact absurd h h1
    ·exact h
   have hd : decide (n < 0) = false := decide_eq_false h1
   have h1' : 0 ≤ n := by omega
   clear hn h1
   go_enter Tryz.func45, Tryz.ntmps45
   go_wp2_with fail
   go_quiet (fail)
   go_wp2_with fail
   go_ret
   exact ⟨rfl, (HR.out.drewN _).set 2 (.bool true), zbp (zem (zch w _) _) 2 _⟩
/-- Raw, where there are as many bytes. -/
theorem rraw_yes {bl : List UInt8} (c p n : Nat) (bv : Value) (w : World) (h : RCur w c bv p false) (hb : Row1 w bv (bl.map bval)) (hp : p + n ≤ bl.length) (hsz : bl.length ≤ 1099511627776) :
  Calls Tryz.prog 45 #[.pointer (some ⟨c, 0, none⟩), .int .i64 n] w fun e w' => ∃ v, e = .returned v ∧ w'.ownsRow w.heap.size 5 1 v n (((bl.drop p).take n).map bval) ∧ RCur w' c bv (p + n) false ∧ w.grownBy w' (some c) := by
 obtain ⟨i0, hi, hz0, hz1, hz2⟩ := info_parts Tryz.info5
 have hb0 := hb
 obtain ⟨a, cap, rfl, h1, h2, h3, h4⟩ := hb
 rw [List.length_map] at h1
 unfold maxLen at h2
 have c0 := h.cell 0
 have c1 := h.cell 1
 have c2 := h.cell 2
 have f1 := h.free 1
 simp only [List.getElem?_cons_zero, List.getElem?_cons_succ] at c0 c1 c2
 rw [List.length_map] at c0 h hb0
 have hpi : (0 : Int) ≤ (p : Int) := Int.natCast_nonneg _
 have hni : (0 : Int) ≤ (n : Int) := Int.natCast_nonneg _
 have hd : decide ((n : Int) < 0) = false := decide_eq_false (by omega)
 have hd2 : decide ((bl.length : Int) - p < n) = false := decide_eq_false (by omega)
 have hw : IntKind.i64.wrap ((p : Int) + n) = (p : Int) + n := IntWalk.i64_in _ (by omega)
 have hw2 : (0 : Int) ≤ (p : Int) + n := by omega
 have hpc : p + n ≤ cap := by omega
 have hw3 : ((p : Int) + n).toNat = p + n := by omega
 have hpc2 : (p : Int) + n ≤ (cap : Int) := by omega
 have hw0 : IntKind.i64.wrap 0 = 0 := by decide
 have HR := jh h
 have HB := jh hb0
 have hl : Hid ((((bl.drop p).take n).map bval).length = n) := jh (by simp; omega)
 clear h hb0 h4
 cases a with
 | none =>
  have hcap := h3 rfl
  have hb0 : bl = [] := List.eq_nil_of_length_eq_zero (by omega)
  subst hb0
  subst hcap
  have hp0 : p = 0 := by simp at hp; omega
  have hn0 : n = 0 := by simp at hp; omega
  subst hp0
  subst hn0
  have HV : Hid (Row1 w (.slice none 0 0) ((([] : List UInt8).drop 0).take 0 |>.map bval)) := jh (by simpa using Row1.nil w)
  have hcw := HR.out.lt
  go_enter Tryz.func45, Tryz.ntmps45
  go_wp2_with fail
  go_quiet (fail)
  go_wp2_with fail
  go_region_held3 (fun w' => w'.cell? ⟨c, 0, none⟩ = some (.slice none 0 0) ∧ w'.cell? ⟨c, 1, none⟩ = some (.int .i64 0))
   (first | go_keep | exact ⟨(hgrow1.cell_far ⟨c, 0, none⟩ hcw (by simp [Value.ownBlock])).trans c0, (hgrow1.cell_far ⟨c, 1, none⟩ hcw (by simp [Value.ownBlock])).trans c1⟩)
   (first | (refine step_append_row (by rfl) (.const (.slice none 0 0)) (.tmp 45) _ (by rfl) w.heap.size 5 i0 (.int .u8 0) 1 Tryz.underlying46 hi hz0 hz1 hz2 rfl _ 0 [] (by rfl) (World.ownsRow_nil _ _ _ _) (by rfl) (HV.out.drewN _).drew (zaj _) (by rw [hl.out]; unfold maxLen; omega) (by rw [hl.out]; omega) (Nat.le_refl _) ?_; intro v1 w1 hown1 hgrow1))
  have hown2 : w1.ownsRow w.heap.size 5 1 v1 0 (((([] : List UInt8).drop 0).take 0).map bval) := by
   rw [hl.out, Nat.zero_add, List.nil_append] at hown1
   exact hown1
  have hgn : w.grownBy w1 none := ⟨hgrow1.os, hgrow1.tape, hgrow1.output, hgrow1.size, hgrow1.block⟩
  have HR1 := HR.out.grown hgn (by simp)
  have hgr : w.grownBy w1 (some c) := zeg hgn
  have k0 := HR1.cell 0
  have k1 := HR1.cell 1
  have e1 := HR1.free 1
  simp only [List.getElem?_cons_zero, List.getElem?_cons_succ] at k0 k1
  have HO := jh hown2
  have HR2 := jh HR1
  have HG := jh hgr
  clear hown1 hown2 hgrow1 hgn HR1 hgr c0 c1 c2 f1
  go_wp2_with fail
  go_ret
  refine ⟨_, rfl, ownsRow_setCell_other HO.out (Row1.own_ne HO.out hcw) _, ?_, zbp HG.out 1 _⟩
  have := HR2.out.set 1 (.int .i64 0)
  unfold RCur
  simpa using this
 | some ad =>
  by_cases hc : cap = p
  ·have hc2 := hc.symm
   subst hc2
   have HV : Hid (Row1 w (.slice (some ad) 0 0) (((bl.drop p).take n).map bval)) := jh (by
    have hn0 : n = 0 := by omega
    subst hn0
    simpa using Row1.empty w ad 0 (Nat.zero_le _))
   have hcw := HR.out.lt
   go_enter Tryz.func45, Tryz.ntmps45
   go_wp2_with fail
   go_quiet (fail)
   go_wp2_with fail
   go_region_held3 (fun w' => w'.cell? ⟨c, 0, none⟩ = some (.slice (some ad) bl.length p) ∧ w'.cell? ⟨c, 1, none⟩ = some (.int .i64 p))
    (first | go_keep | exact ⟨(hgrow1.cell_far ⟨c, 0, none⟩ hcw (by simp [Value.ownBlock])).trans c0, (hgrow1.cell_far ⟨c, 1, none⟩ hcw (by simp [Value.ownBlock])).trans c1⟩)
    (first | (refine step_append_row (by rfl) (.const (.slice none 0 0)) (.tmp 45) _ (by rfl) w.heap.size 5 i0 (.int .u8 0) 1 Tryz.underlying46 hi hz0 hz1 hz2 rfl _ 0 [] (by rfl) (World.ownsRow_nil _ _ _ _) (by rfl) (HV.out.drewN _).drew (zaj _) (by rw [hl.out]; unfold maxLen; omega) (by rw [hl.out]; omega) (Nat.le_refl _) ?_; intro v1 w1 hown1 hgrow1))
   have hown2 : w1.ownsRow w.heap.size 5 1 v1 n (((bl.drop p).take n).map bval) := by
    rw [hl.out, Nat.zero_add, List.nil_append] at hown1
    exact hown1
   have hgn : w.grownBy w1 none := ⟨hgrow1.os, hgrow1.tape, hgrow1.output, hgrow1.size, hgrow1.block⟩
   have HR1 := HR.out.grown hgn (by simp)
   have hgr : w.grownBy w1 (some c) := zeg hgn
   have k0 := HR1.cell 0
   have k1 := HR1.cell 1
   have e1 := HR1.free 1
   simp only [List.getElem?_cons_zero, List.getElem?_cons_succ] at k0 k1
   have HO := jh hown2
   have HR2 := jh HR1
   have HG := jh hgr
   clear hown1 hown2 hgrow1 hgn HR1 hgr c0 c1 c2 f1
   go_wp2_with fail
   go_ret
   refine ⟨_, rfl, ownsRow_setCell_other HO.out (Row1.own_ne HO.out hcw) _, ?_, zbp HG.out 1 _⟩
   have := HR2.out.set 1 (.int .i64 ((p : Int) + n))
   unfold RCur
   rw [List.length_map, Int.natCast_add]
   exact this
  ·have hc' : ¬ p = cap := fun e => hc e.symm
   have HV : Hid (Row1 w (.slice (some (ad.add p)) n (cap - p)) (((bl.drop p).take n).map bval)) := jh (by
    have := HB.out.sliced p n (by simp; omega)
    rw [List.map_take, List.map_drop]
    exact this)
   have hcw := HR.out.lt
   go_enter Tryz.func45, Tryz.ntmps45
   go_wp2_with fail
   go_quiet (fail)
   go_wp2_with fail
   go_region_held3 (fun w' => w'.cell? ⟨c, 0, none⟩ = some (.slice (some ad) bl.length cap) ∧ w'.cell? ⟨c, 1, none⟩ = some (.int .i64 p))
    (first | go_keep | exact ⟨(hgrow1.cell_far ⟨c, 0, none⟩ hcw (by simp [Value.ownBlock])).trans c0, (hgrow1.cell_far ⟨c, 1, none⟩ hcw (by simp [Value.ownBlock])).trans c1⟩)
    (first | (refine step_append_row (by rfl) (.const (.slice none 0 0)) (.tmp 45) _ (by rfl) w.heap.size 5 i0 (.int .u8 0) 1 Tryz.underlying46 hi hz0 hz1 hz2 rfl _ 0 [] (by rfl) (World.ownsRow_nil _ _ _ _) (by rfl) (HV.out.drewN _).drew (zaj _) (by rw [hl.out]; unfold maxLen; omega) (by rw [hl.out]; omega) (Nat.le_refl _) ?_; intro v1 w1 hown1 hgrow1))
   have hown2 : w1.ownsRow w.heap.size 5 1 v1 n (((bl.drop p).take n).map bval) := by
    rw [hl.out, Nat.zero_add, List.nil_append] at hown1
    exact hown1
   have hgn : w.grownBy w1 none := ⟨hgrow1.os, hgrow1.tape, hgrow1.output, hgrow1.size, hgrow1.block⟩
   have HR1 := HR.out.grown hgn (by simp)
   have hgr : w.grownBy w1 (some c) := zeg hgn
   have k0 := HR1.cell 0
   have k1 := HR1.cell 1
   have e1 := HR1.free 1
   simp only [List.getElem?_cons_zero, List.getElem?_cons_succ] at k0 k1
   have HO := jh hown2
   have HR2 := jh HR1
   have HG := jh hgr
   clear hown1 hown2 hgrow1 hgn HR1 hgr c0 c1 c2 f1
   go_wp2_with fail
   go_ret
   refine ⟨_, rfl, ownsRow_setCell_other HO.out (Row1.own_ne HO.out hcw) _, ?_, zbp HG.out 1 _⟩
   have := HR2.out.set 1 (.int .i64 ((p : Int) + n))
   unfold RCur
   rw [List.length_map, Int.natCast_add]
   exact this
theorem i64wrap (n : Int) : IntKind.i64.wrap n = wrap64 n := IntWalk.i64_left n
theorem or_byte (m : Nat) (b : UInt8) (hm : m < 72057594037927936) : bits .or .i64 (IntKind.i64.wrap ((m : Int) * 256)) (b.toNat : Int) = IntKind.i64.wrap ((m * 256 + b.toNat : Nat) : Int) := by
 have hb := b.toNat_lt
 have e1 : (BitVec.ofInt 64 (IntKind.i64.wrap ((m : Int) * 256))).toNat = m * 256 := by
  rw [BitVec.toNat_ofInt, IntKind.wrap_i64]
  omega
 have e2 : (BitVec.ofInt 64 (b.toNat : Int)).toNat = b.toNat := by
  rw [BitVec.toNat_ofInt]
  omega
 show IntKind.i64.wrap ((BitVec.ofInt 64 (IntKind.i64.wrap ((m : Int) * 256)) ||| BitVec.ofInt 64 (b.toNat : Int)).toNat : Nat) = _
 rw [BitVec.toNat_or, e1, e2]
 congr 2
 have := Nat.two_pow_add_eq_or_of_lt (i := 8) (b := b.toNat) (by simpa using hb) m
 rw [Nat.mul_comm m 256]
 exact this.symm
/-- Int, where there are fewer than eight bytes. -/
theorem rcint_no (c p len cap : Nat) (a : Option Addr) (bad : Bool) (w : World) (h : RCur w c (.slice a len cap) p bad) (hlen : len ≤ cap) (hm : cap ≤ maxLen) (hp : p ≤ len) (hn : bad = true ∨ (len : Int) - p < 8) :
  Calls Tryz.prog 46 #[.pointer (some ⟨c, 0, none⟩)] w fun e w' => e = .returned (.int .i64 0) ∧ RCur w' c (.slice a len cap) p true ∧ w.grownBy w' (some c) := by
 have hr := jh (rraw_no c p len cap a bad 8 w h hlen hm hp (hn.elim Or.inl fun h => Or.inr (Or.inr h)))
 clear h hn
 go_enter Tryz.func46, Tryz.ntmps46
 go_wp2_with fail
 refine hr.out.mono ?_
 rintro e w' ⟨rfl, h1, h2⟩
 go_wp2_with fail
 refine wp_loop_rounds 1 ?_
 rw [rounds_succ]
 go_wp2_with fail
 go_ret
 exact ⟨rfl, h1, h2⟩
/-- Int, where there are eight bytes. -/
theorem rcint_yes {bl : List UInt8} (c p : Nat) (bv : Value) (w : World) (h : RCur w c bv p false) (hb : Row1 w bv (bl.map bval)) (hp : p + 8 ≤ bl.length) (hsz : bl.length ≤ 1099511627776) (hne : bv.ownBlock ≠ some c) :
  Calls Tryz.prog 46 #[.pointer (some ⟨c, 0, none⟩)] w fun e w' => e = .returned (.int .i64 (decI ((bl.drop p).take 8))) ∧ RCur w' c bv (p + 8) false ∧ w.grownBy w' (some c) := by
 have hr := jh (rraw_yes c p 8 bv w h hb hp hsz)
 clear h hb
 have hl : ((bl.drop p).take 8).length = 8 := by simp; omega
 generalize (bl.drop p).take 8 = l at *
 go_enter Tryz.func46, Tryz.ntmps46
 go_wp2_with fail
 refine hr.out.mono ?_
 rintro e w' ⟨v, rfl, hown, h1, h2⟩
 rcases hown.2 with ⟨_, h0⟩ | ⟨g, cap, cur, rfl, _, _, hc1, hc2, _, _⟩
 ·omega
 ·have hcell : ∀ k, k < 8 → w'.cell? ⟨g, k, none⟩ = some (bval (l.getD k 0)) := by
   intro k hk
   rw [hown.cellAt k (by omega), List.getElem?_map, List.getElem?_eq_getElem (by omega)]
   simp [List.getD, show k < l.length from by omega]
  have HC := jh hcell
  have H1 := jh h1
  have H2 := jh h2
  have HL := jh hl
  unfold maxLen at hc2
  clear hown hcell h1 h2 hl
  go_wp2_with fail
  go_loop [4, 5] (fun s i => ∃ k : Nat, k ≤ 8 ∧ i = .int .i64 k ∧ s = .int .i64 (decI (l.take k))) (fun _ i => 8 - (intOf i).toNat)
  case atStart => exact ⟨0, by omega, rfl, by rfl⟩
  case round =>
   obtain ⟨k, hk, rfl, hs⟩ := hrel
   by_cases hlt : k < 8
   ·have hl := HL.out
    have c1 := HC.out k hlt
    have hsm := decI_small (l := l.take k) (by simp; omega)
    have hm := accN_lt (l.take k)
    have hm2 : 256 ^ (l.take k).length ≤ 256 ^ 7 := Nat.pow_le_pow_right (by omega) (by simp; omega)
    have hm3 : (256 : Nat) ^ 7 = 72057594037927936 := by decide
    have hnext : decI (l.take (k + 1)) = bits .or .i64 (IntKind.i64.wrap ((accN (l.take k) : Int) * 256)) ((l.getD k 0).toNat : Int) := by
     rw [or_byte _ _ (by omega), List.take_succ_eq_append_getElem (by omega)]
     unfold decI
     rw [accN_snoc]
     simp [List.getD, show k < l.length from by omega]
    have hm4 : accN (l.take k) < 72057594037927936 := by omega
    have hbt := (l.getD k 0).toNat_lt
    rw [hsm] at hs
    unfold bval at c1
    generalize accN (l.take k) = m at *
    generalize (l.getD k 0).toNat = bt at *
    subst hs
    have HN := jh hnext
    clear hl hsm hm hm2 hm3 hnext
    go_wp2_with fail
    go_round
    case rel => exact ⟨k + 1, by omega, by go_num, by rw [HN.out, i64wrap]⟩
    case measure => simp [intOf]; omega
   ·have hk' : k = 8 := by omega
    subst hk'
    have hl := HL.out
    rw [List.take_of_length_le (by omega)] at hs
    subst hs
    clear hl
    go_wp2_with fail
    go_ret
    exact ⟨rfl, H1.out, H2.out⟩
theorem rend_any (c p len cap : Nat) (a : Option Addr) (bad : Bool) (w : World) (h : RCur w c (.slice a len cap) p bad) (hlen : len ≤ cap) (hm : cap ≤ maxLen) (hp : p ≤ len) :
  Calls Tryz.prog 47 #[.pointer (some ⟨c, 0, none⟩)] w fun e w' => e = .returned (.bool (!bad && decide (p = len))) ∧ ∃ k, w' = w.drewN k := by
 unfold maxLen at hm
 have c0 := h.cell 0
 have c1 := h.cell 1
 have c2 := h.cell 2
 simp only [List.getElem?_cons_zero, List.getElem?_cons_succ] at c0 c1 c2
 clear h
 cases bad with
 | true =>
  go_enter Tryz.func47, Tryz.ntmps47
  go_wp2_with fail
  go_quiet (fail)
  go_wp2_with fail
  go_ret
  exact ⟨rfl, _, rfl⟩
 | false =>
  by_cases hpl : p = len
  ·have hq : ((p : Int) == (len : Int)) = true := by simp [hpl]
   have HD : Hid (decide (p = len) = true) := jh (decide_eq_true hpl)
   clear hpl
   go_enter Tryz.func47, Tryz.ntmps47
   go_wp2_with fail
   go_quiet (fail)
   go_wp2_with fail
   go_ret
   exact ⟨by rw [HD.out]; rfl, _, rfl⟩
  ·have hq : ((p : Int) == (len : Int)) = false := by simp; omega
   have HD : Hid (decide (p = len) = false) := jh (decide_eq_false hpl)
   clear hpl
   go_enter Tryz.func47, Tryz.ntmps47
   go_wp2_with fail
   go_quiet (fail)
   go_wp2_with fail
   go_ret
   exact ⟨by rw [HD.out]; rfl, _, rfl⟩
theorem one_u8c : (Tryz.prog.info? 5).map (·.size) = some 1 := by kernel_rfl
theorem splice_none {id : Int} {sig : List UInt8} (L : List UInt8) (h : L.length = 0) : splice (stopC id sig) 1 (L.map bval) = stopC id sig := by
 obtain rfl := List.eq_nil_of_length_eq_zero h
 unfold splice
 rw [List.map_nil, List.nil_append, List.length_nil, Nat.add_zero, List.take_append_drop]
theorem splice_sig {id : Int} {sig L : List UInt8} (hs : sig.length = 64) (h : L.length = 64) : splice (stopC id sig) 1 (L.map bval) = stopC id L := by
 unfold splice stopC
 rw [List.length_map, h, List.drop_eq_nil_of_le (by rw [List.length_cons, List.length_map, hs]; omega), List.append_nil]
 rfl
theorem row_apart {w0 : World} {v : Value} {vs : List Value} {c : Nat} (h : Row1 w0 v vs) (hne : vs ≠ []) (hc : w0.heap.size ≤ c) : v.ownBlock ≠ some c := by
 obtain ⟨a, cap, rfl, _, _, _, h4⟩ := h
 obtain ⟨b, off, rfl, hb, _⟩ := h4 hne
 intro e
 have : b = c := Option.some.inj e
 omega
theorem rraw_any {b : List UInt8} (c p n : Nat) (bv : Value) (bad : Bool) (w : World) (h : RCur w c bv p bad) (hb : Row1 w bv (b.map bval)) (hp : p ≤ b.length) (hsz : b.length ≤ 1099511627776) :
  Calls Tryz.prog 45 #[.pointer (some ⟨c, 0, none⟩), .int .i64 (n : Int)] w fun e w' => ∃ v, e = .returned v ∧ Row1 w' v ((rwL b p bad n).map bval) ∧ RCur w' c bv (rwP b p bad n) (rwB b p bad n) ∧ w.grownBy w' (some c) ∧ ∀ k, v.ownBlock = some k → k ≠ c ∧ k < w'.heap.size := by
 cases hr : rwB b p bad n with
 | true =>
  have e1 : rwL b p bad n = [] := by unfold rwL; rw [hr]; rfl
  have e2 : rwP b p bad n = p := by unfold rwP; rw [hr]; rfl
  rw [e1, e2]
  obtain ⟨a, cap, rfl, h1, h2, _⟩ := id hb
  rw [List.length_map] at h h1 hb ⊢
  have hn : bad = true ∨ (n : Int) < 0 ∨ (b.length : Int) - (p : Int) < (n : Int) := by
   unfold rwB at hr
   rw [Bool.or_eq_true, decide_eq_true_iff] at hr
   rcases hr with h | h
   ·exact Or.inl h
   ·exact Or.inr (Or.inr (by omega))
  refine (rraw_no c p b.length cap a bad n w h h1 h2 hp hn).mono ?_
  rintro e w' ⟨rfl, g1, g2⟩
  exact ⟨_, rfl, Row1.nil w', g1, g2, fun k hk => by cases hk⟩
 | false =>
  have e1 : rwL b p bad n = (b.drop p).take n := by unfold rwL; rw [hr]; rfl
  have e2 : rwP b p bad n = p + n := by unfold rwP; rw [hr]; rfl
  unfold rwB at hr
  rw [Bool.or_eq_false_iff, decide_eq_false_iff_not] at hr
  obtain ⟨rfl, hr⟩ := hr
  rw [e1, e2]
  refine (rraw_yes c p n bv w h hb (by omega) hsz).mono ?_
  rintro e w' ⟨v, rfl, ho, g1, g2⟩
  refine ⟨v, rfl, Row1.of_own ho, g1, g2, fun k hk => ?_⟩
  have hc : c < w.heap.size := Blk.lt h
  obtain ⟨_, ⟨rfl, _⟩ | ⟨g, cap, cur, rfl, hb2, hg, _⟩⟩ := ho
  ·cases hk
  ·obtain rfl : g = k := Option.some.inj hk
   refine ⟨by omega, ?_⟩
   have := Array.getElem?_eq_some_iff.1 hg
   exact this.1
theorem rcint_any {b : List UInt8} (c p : Nat) (bv : Value) (bad : Bool) (w : World) (h : RCur w c bv p bad) (hb : Row1 w bv (b.map bval)) (hp : p ≤ b.length) (hsz : b.length ≤ 1099511627776) (hne : b ≠ [] → bv.ownBlock ≠ some c) :
  Calls Tryz.prog 46 #[.pointer (some ⟨c, 0, none⟩)] w fun e w' => e = .returned (.int .i64 (rwI b p bad)) ∧ RCur w' c bv (rwP b p bad 8) (rwB b p bad 8) ∧ w.grownBy w' (some c) := by
 cases hr : rwB b p bad 8 with
 | true =>
  have e1 : rwI b p bad = 0 := by unfold rwI; rw [hr]; rfl
  have e2 : rwP b p bad 8 = p := by unfold rwP; rw [hr]; rfl
  rw [e1, e2]
  obtain ⟨a, cap, rfl, h1, h2, _⟩ := id hb
  rw [List.length_map] at h h1 hb ⊢
  have hn : bad = true ∨ (b.length : Int) - (p : Int) < 8 := by
   unfold rwB at hr
   rw [Bool.or_eq_true, decide_eq_true_iff] at hr
   rcases hr with h | h
   ·exact Or.inl h
   ·exact Or.inr (by omega)
  exact rcint_no c p b.length cap a bad w h h1 h2 hp hn
 | false =>
  have e1 : rwI b p bad = decI ((b.drop p).take 8) := by unfold rwI; rw [hr]; rfl
  have e2 : rwP b p bad 8 = p + 8 := by unfold rwP; rw [hr]; rfl
  unfold rwB at hr
  rw [Bool.or_eq_false_iff, decide_eq_false_iff_not] at hr
  obtain ⟨rfl, hr⟩ := hr
  rw [e1, e2]
  exact rcint_yes c p bv w h hb (by omega) hsz (hne (by rintro rfl; simp at hr))
theorem rReadStop_any (b : List UInt8) (bv : Value) (w : World) (hb : Row1 w bv (b.map bval)) (hsz : b.length ≤ 1000000) :
  Calls Tryz.prog 24 #[bv] w fun e w' => e = .returned (.tuple #[.agg (stopC (rdI b) (rdG b)).toArray, .int .i64 (rdE b)]) ∧ Below w.heap.size w w' := by
 obtain ⟨ab, cb, hbv, hb1, hb2, _⟩ := id hb
 rw [List.length_map] at hbv hb1
 subst hbv
 have HV := jh hb
 have HS := jh hsz
 have HB0 := jh (Blk.made w (stopC 0 z64) 39)
 have HE0 := jh (Ext.alloc w (.cells (stopC 0 z64).toArray 39))
 have HZS := jh (zcj (id := 0) zbi)
 clear hb hsz
 go_enter Tryz.func24, Tryz.ntmps24
 go_upto_region 1 with (fail)
 change Code.wp _ _ _ _ (w.alloc (.cells (stopC 0 z64).toArray 39))
 generalize w.alloc (.cells (stopC 0 z64).toArray 39) = wa at *
 obtain ⟨C, hC⟩ : ∃ C, C = w.heap.size := ⟨_, rfl⟩
 have HLC : Hid (w.heap.size ≤ C) := jh (by omega)
 rw [← hC] at HB0 ⊢
 clear hC
 go_upto_region 2 with (fail)
 have HK : Hid (RCur (wa.alloc (.cells #[.slice ab b.length cb, .int .i64 0, .bool false] 81)) wa.heap.size (.slice ab b.length cb) 0 false) := jh (Blk.made wa [.slice ab b.length cb, .int .i64 0, .bool false] _)
 have HX : Hid (Ext wa (wa.alloc (.cells #[.slice ab b.length cb, .int .i64 0, .bool false] 81))) := jh (Ext.alloc _ _)
 generalize wa.alloc (.cells #[.slice ab b.length cb, .int .i64 0, .bool false] 81) = wk at *
 have HCK : Hid (C < wa.heap.size) := jh HB0.out.lt
 have HLK : Hid (w.heap.size ≤ wa.heap.size) := jh HE0.out.size
 generalize wa.heap.size = K at *
 have HC := jh (zaa HB0.out HX.out)
 have HE := jh (HE0.out.trans HX.out)
 clear HB0 HE0 HX
 have HR := jh (rraw_any K 0 4 _ false wk HK.out (HV.out.below HE.out) (Nat.zero_le _) (by have := HS.out; omega))
 obtain ⟨tl, htl⟩ : ∃ tl, tl = rwL b 0 false 4 := ⟨_, rfl⟩
 obtain ⟨p1, hp1⟩ : ∃ p1, p1 = rwP b 0 false 4 := ⟨_, rfl⟩
 obtain ⟨d1, hd1⟩ : ∃ d1, d1 = rwB b 0 false 4 := ⟨_, rfl⟩
 rw [← htl, ← hp1, ← hd1] at HR
 have HTL := jh htl
 have HP1 := jh hp1
 have HD1 := jh hd1
 have HPL : Hid (p1 ≤ b.length) := jh (by rw [hp1]; exact rwP_le (Nat.zero_le _))
 clear htl hp1 hd1
 go_wp2_with fail
 refine HR.out.mono ?_
 rintro e w2 ⟨tv, rfl, ht, hk, hg, hto⟩
 have HTO := jh hto
 have HT := jh ht
 have HK := jh hk
 have HC := jh (HC.out.grown hg (by have := HCK.out; simp; omega))
 have HE := jh (zad HE.out hg HLK.out)
 have HW2 : Hid (K < w2.heap.size) := jh hk.lt
 clear ht hk hg HR hto
 have HI := jh (rcint_any K p1 _ d1 w2 HK.out (HV.out.below HE.out) HPL.out (by have := HS.out; omega) (fun hne => row_apart HV.out (by simpa using hne) HLK.out))
 obtain ⟨n1, hn1⟩ : ∃ n1, n1 = rwI b p1 d1 := ⟨_, rfl⟩
 obtain ⟨p2, hp2⟩ : ∃ p2, p2 = rwP b p1 d1 8 := ⟨_, rfl⟩
 obtain ⟨d2, hd2⟩ : ∃ d2, d2 = rwB b p1 d1 8 := ⟨_, rfl⟩
 rw [← hn1, ← hp2, ← hd2] at HI
 have HN1 := jh hn1
 have HP2 := jh hp2
 have HD2 := jh hd2
 have HPL2 : Hid (p2 ≤ b.length) := jh (by rw [hp2]; exact rwP_le HPL.out)
 clear hn1 hp2 hd2
 go_wp2_with fail
 refine HI.out.mono ?_
 rintro e w3 ⟨rfl, hk, hg⟩
 have HK := jh hk
 have HT := jh (HT.out.grown hg (fun k hk2 => fun h => (HTO.out k h).1 (by cases hk2; rfl)))
 have HTS : Hid (∀ k, tv.ownBlock = some k → k < w3.heap.size) := jh (fun k h => Nat.lt_of_lt_of_le (HTO.out k h).2 hg.size)
 have HC := jh (HC.out.grown hg (by have := HCK.out; simp; omega))
 have HE := jh (zad HE.out hg HLK.out)
 have HZ := jh (Blk.made w3 (stopC 0 z64) 39)
 have HEA := jh (Ext.alloc w3 (.cells (stopC 0 z64).toArray 39))
 have HZN : Hid ((Tryz.prog.info? 39).map (·.size) = some (stopC n1 z64).length) := jh (zcj zbi)
 have HK3 : Hid (K < w3.heap.size ∧ C < w3.heap.size ∧ w.heap.size ≤ w3.heap.size) := jh ⟨hk.lt, HC.out.lt, HE.out.size⟩
 clear hk hg HI
 go_upto_region 4 with (first | (refine zaw rfl _ _ rfl _ rfl _ (build_stop1 _ _) ?_) | (refine zab rfl _ _ _ rfl w3.heap.size (stopC n1 z64) rfl rfl _ _ HZ.out rfl HZN.out (zcd _ _) ?_; intro w4 hb4 hg4))
 simp only [Act.put, nrm]
 have HS4 := jh hb4
 have HX34 := jh (zad HEA.out hg4 (Nat.le_refl _))
 have HK := jh (zaa (show Blk w3 K _ _ from HK.out) HX34.out)
 have HC := jh (zaa HC.out HX34.out)
 have HT := jh (HT.out.below HX34.out)
 have HE := jh (HE.out.trans HX34.out)
 have HTS : Hid (∀ k, tv.ownBlock = some k → k < w3.heap.size ∧ k ≠ K) := jh (fun k h => ⟨HTS.out k h, (HTO.out k h).1⟩)
 generalize w3.heap.size = S at *
 clear hb4 hg4 HZ HEA HX34 HZN HTO
 have HR : Hid (∀ wx, Ext w4 wx → Calls Tryz.prog 45 #[.pointer (some ⟨K, 0, none⟩), .int .i64 ((64 : Nat) : Int)] wx fun e w' => ∃ v, e = .returned v ∧ Row1 w' v ((rwL b p2 d2 64).map bval) ∧ RCur w' K (.slice ab b.length cb) (rwP b p2 d2 64) (rwB b p2 d2 64) ∧ wx.grownBy w' (some K) ∧ ∀ k, v.ownBlock = some k → k ≠ K ∧ k < w'.heap.size) :=
  jh (fun wx hx => rraw_any K p2 64 _ d2 wx (zaa (show Blk w4 K _ _ from HK.out) hx) (HV.out.below (HE.out.trans hx)) HPL2.out (by have := HS.out; omega))
 have HRN : Hid ((rwL b p2 d2 64).length = if rwB b p2 d2 64 = true then 0 else 64) := jh (by
  unfold rwL
  cases hh : rwB b p2 d2 64 with
  | true => rfl
  | false =>
   unfold rwB at hh
   rw [Bool.or_eq_false_iff, decide_eq_false_iff_not] at hh
   simp
   omega)
 obtain ⟨rl, hrl⟩ : ∃ rl, rl = rwL b p2 d2 64 := ⟨_, rfl⟩
 obtain ⟨p3, hp3⟩ : ∃ p3, p3 = rwP b p2 d2 64 := ⟨_, rfl⟩
 obtain ⟨d3, hd3⟩ : ∃ d3, d3 = rwB b p2 d2 64 := ⟨_, rfl⟩
 rw [← hrl, ← hp3, ← hd3] at HR
 rw [← hrl, ← hd3] at HRN
 have HRL := jh hrl
 have HP3 := jh hp3
 have HD3 := jh hd3
 have HPL3 : Hid (p3 ≤ b.length) := jh (by rw [hp3]; exact rwP_le HPL2.out)
 clear hrl hp3 hd3
 refine wp_region_held_drew (S := fun _ => True) (by kernel_rfl) trivial (fun hHeld => ?_)
 refine tke 0 (.pointer (some ⟨S, 1, none⟩)) rfl (zbl (.pointer (some ⟨S, 1, none⟩)) (by rfl) (fun w _ => by go_simp)) hHeld ?_
 simp only [Act.put, nrm]
 refine tke 1 (.slice (some ⟨S, 1, none⟩) 64 64) rfl (zew _ _ _ _ (.pointer (some ⟨S, 1, none⟩)) (.slice (some ⟨S, 1, none⟩) 64 64) none none (by rfl) rfl rfl rfl rfl (fun w => cut_part Tryz.underlying26 Tryz.sizeOf5 (by omega) _ _ w)) hHeld ?_
 simp only [Act.put, nrm]
 refine tke 2 (.pointer (some ⟨K, 0, none⟩)) rfl (zcb _ (.pointer (some ⟨K, 0, none⟩)) (by rfl) rfl rfl) hHeld ?_
 simp only [Act.put, nrm]
 refine wpAnyH_ready (rs := [3]) (by kernel_rfl) (by simp) (AllReadyH.cons rfl (fun KK hKK => ?_) AllReadyH.nil)
 go_simp
 refine (HR.out w4.drew (Ext.drew _)).mono ?_
 rintro e w5 ⟨rv, rfl, hr, hk, hg, hro⟩
 obtain ⟨ar, cr, hrv, _⟩ := id hr
 rw [List.length_map] at hrv
 subst hrv
 have HRR := jh hr
 have HK := jh hk
 have HC := jh ((HC.out.below (Ext.drew _)).grown hg (by have := HCK.out; simp; omega))
 have HS5 := jh ((HS4.out.below (Ext.drew _)).grown hg (by have := HK3.out; simp; omega))
 have HE := jh (zad (HE.out.trans (Ext.drew _)) hg HLK.out)
 have HT := jh ((HT.out.below (Ext.drew w4)).grown hg (fun k hk2 => fun h => (HTS.out k h).2 (by cases hk2; rfl)))
 clear hr hk hg hro HR HS4
 have HRL64 : Hid (rl.length ≤ 64) := jh (by have := HRN.out; split at this <;> omega)
 refine hKK.out _ _ trivial (fun hHeld => ?_)
 clear hKK KK
 try simp only [Act.put, nrm]
 refine wpAnyH_ready (rs := [4]) (by kernel_rfl) (by simp) (AllReadyH.cons rfl (fun KK hKK => ?_) AllReadyH.nil)
 refine zan (by rfl) ?_
 refine wp_copy_blk _ _ 46 46 rfl 5 Tryz.underlying46 one_u8c _ _ _ _ _ _ rfl rfl S 1 _ _ HS5.out (rl.map bval) (by have := HRL64.out; rw [List.length_map]; exact (Nat.min_eq_left this).symm) (fun h => ⟨rfl, row_src HRR.out rl (by rw [List.take_length]) (Nat.le_refl _) (Ext.refl _) h⟩) (by have := HRL64.out; rw [List.length_map, zbt zbi]; omega) (zaj _) ?_
 intro w6 hb6 hg6
 have HS6 := jh hb6
 have HW6 := jh hg6
 clear hb6 hg6
 refine hKK.out _ _ trivial (fun hHeld => ?_)
 clear hKK KK
 try simp only [Act.put, nrm]
 refine dne ?_
 obtain ⟨sg, hsg⟩ : ∃ sg, sg = if d3 = true then z64 else rl := ⟨_, rfl⟩
 have HSG : Hid (sg.length = 64) := jh (by
  rw [hsg]
  split
  ·exact zbi
  ·rename_i h
   have := HRN.out
   rw [if_neg h] at this
   exact this)
 have HSQ : Hid (splice (stopC n1 z64) 1 (rl.map bval) = stopC n1 sg) := jh (by
  rw [hsg]
  split
  ·rename_i h
   have := HRN.out
   rw [if_pos h] at this
   exact splice_none rl this
  ·rename_i h
   have := HRN.out
   rw [if_neg h] at this
   exact splice_sig zbi this)
 rw [HSQ.out] at HS6
 have HSGE := jh hsg
 have HE := jh (zad HE.out HW6.out HK3.out.2.2)
 have HC := jh (HC.out.grown HW6.out (by have := HK3.out; simp; omega))
 have HK : Hid (RCur w6 K (.slice ab b.length cb) p3 d3) := jh ((show Blk w5 K _ _ from HK.out).grown HW6.out (by have := HK3.out; simp; omega))
 have HT := jh (HT.out.grown HW6.out (fun k hk2 => fun h => by
  have h1 := (HTS.out k h).1
  have h2 : S = k := Option.some.inj hk2
  omega))
 have hsr := zdz (P := Tryz.prog) (v := tv) 46 9 5 Tryz.underlying46 Tryz.underlying5 Tryz.underlying9 HT.out
 clear hsg HW6 HRR HS5 HTS HSQ
 have HCUR : Hid (readS b = if tl = [80, 67, 83, 84] ∧ (!d3 && decide (p3 = b.length)) = true ∧ smallB n1 = true then some (n1, sg) else none) := jh (by
  have h := readS_cur b
  rw [← HTL.out, ← HP1.out, ← HD1.out, ← HN1.out, ← HP2.out, ← HD2.out, ← HRL.out, ← HP3.out, ← HD3.out, ← HSGE.out] at h
  exact h)
 have HSZ : Hid ((Tryz.prog.info? 39).map (·.size) = some (stopC n1 sg).length) := jh (zcj HSG.out)
 clear HTL HP1 HD1 HN1 HP2 HD2 HRL HP3 HD3 HSGE HRN
 by_cases hm : tl = [80, 67, 83, 84]
 ·subst hm
  have HEND := jh (rend_any K p3 b.length cb ab d3 w6 HK.out hb1 hb2 HPL3.out)
  obtain ⟨en, hen⟩ : ∃ en, en = (!d3 && decide (p3 = b.length)) := ⟨_, rfl⟩
  rw [← hen] at HEND
  have HEN := jh hen
  clear hen
  go_wp2_with fail
  refine HEND.out.mono ?_
  rintro e w7 ⟨rfl, kk, rfl⟩
  have HC := jh (HC.out.drewN kk)
  have HS7 := jh (HS6.out.drewN kk)
  have HE := jh (zfc HE.out kk)
  generalize w6.drewN kk = w7 at *
  clear hsr HEND HS6 HK HT
  cases en with
  | false =>
   have HQ := jh (rd_no (b := b) (by rw [HCUR.out, if_neg (fun h => by have := h.2.1; rw [← HEN.out] at this; cases this)]))
   clear HCUR HEN
   go_wp2_with (first | (refine zaw rfl _ _ rfl _ rfl _ (zei _) ?_) | (refine zab rfl _ _ _ rfl C (stopC 0 z64) rfl rfl _ _ HC.out rfl HZS.out (zcd _ _) ?_; intro w9 hb9 hg9))
   refine bodyPost_ret (zar rfl _ C _ _ _ rfl hb9 Tryz.underlying39 rfl HZS.out) rfl ?_
   exact ⟨by rw [HQ.out.1, HQ.out.2.1, HQ.out.2.2]; rfl, zad HE.out hg9 HLC.out⟩
  | true =>
   have hcell : w7.cell? ⟨S, 0, none⟩ = some (.int .i64 n1) := by rw [HS7.out.cell]; rfl
   have HSM := jh (rsmall_any n1 w7)
   obtain ⟨sm, hsm⟩ : ∃ sm, sm = smallB n1 := ⟨_, rfl⟩
   rw [← hsm] at HSM
   have HSB := jh hsm
   clear hsm
   go_wp2_with fail
   refine HSM.out.mono ?_
   rintro e w8 ⟨rfl, rfl⟩
   clear HSM hcell
   cases sm with
   | false =>
    have HQ := jh (rd_no (b := b) (by rw [HCUR.out, if_neg (fun h => by have := h.2.2; rw [← HSB.out] at this; cases this)]))
    clear HCUR HEN
    go_wp2_with (first | (refine zaw rfl _ _ rfl _ rfl _ (zei _) ?_) | (refine zab rfl _ _ _ rfl C (stopC 0 z64) rfl rfl _ _ HC.out rfl HZS.out (zcd _ _) ?_; intro w9 hb9 hg9))
    refine bodyPost_ret (zar rfl _ C _ _ _ rfl hb9 Tryz.underlying39 rfl HZS.out) rfl ?_
    exact ⟨by rw [HQ.out.1, HQ.out.2.1, HQ.out.2.2]; rfl, zad HE.out hg9 HLC.out⟩
   | true =>
    have HQ := jh (rd_yes (b := b) (x := (n1, sg)) (by rw [HCUR.out, if_pos ⟨by first | trivial | rfl, HEN.out.symm, HSB.out.symm⟩]))
    clear HCUR HEN
    go_wp2_with (first | (refine wpList_load_mid rfl _ _ rfl S 0 rfl _ _ HS7.out.range Tryz.underlying39 rfl HSZ.out ?_) | (refine zab rfl _ _ _ rfl C (stopC n1 sg) rfl rfl _ _ HC.out (by rw [zbt HSG.out, zbt zbi]) HSZ.out (zcd _ _) ?_; intro w9 hb9 hg9))
    refine bodyPost_ret (zar rfl _ C _ _ _ rfl hb9 Tryz.underlying39 rfl HSZ.out) rfl ?_
    exact ⟨by rw [HQ.out.1, HQ.out.2.1, HQ.out.2.2]; rfl, zad HE.out hg9 HLC.out⟩
 ·have HQ := jh (rd_no (b := b) (by rw [HCUR.out, if_neg (fun h => hm h.1)]))
  have hm2 : (tl == [80, 67, 83, 84]) = false := by simpa using hm
  clear HCUR
  go_wp2_with (first | (refine zaw rfl _ _ rfl _ rfl _ (zei _) ?_) | (refine zab rfl _ _ _ rfl C (stopC 0 z64) rfl rfl _ _ HC.out rfl HZS.out (zcd _ _) ?_; intro w9 hb9 hg9))
  refine bodyPost_ret (zar rfl _ C _ _ _ rfl hb9 Tryz.underlying39 rfl HZS.out) rfl ?_
  exact ⟨by rw [HQ.out.1, HQ.out.2.1, HQ.out.2.2]; rfl, zad HE.out hg9 HLC.out⟩
section
section
variable {P : Program} {ops : Array Oper} {Q : Exit → Act → World → Prop}
theorem wpList_eqs {rest : List Oper} {o : Oper} {a : Act} {w : World} (hw : Region.wanted o (yielded ops a.tmps) = true) (ty rt : TypeId) (x y : Operand) (xs ys : Array Value) (r : Bool) (hr : ∀ w, (Op.equalIn 10000 ty (.agg xs) (.agg ys)).run P w = .ok r w) (hg : P.eqGuardType P.depth ty = false) (ho : o.op = .binOp .eql ty x y rt)
  (hx : a.eval x = .agg xs) (hy : a.eval y = .agg ys) (next : wpList P ops Q rest (a.put o.dst (.bool r)) w) : wpList P ops Q (o :: rest) a w := by
 refine wpList_step fun K hK => ?_
 rw [if_pos hw]
 have h1 : (Op.equal ty (.agg xs) (.agg ys)).run P w = .ok r w := hr w
 unfold Oper.wp execOp
 simp only [ho, hx, hy]
 simp [eqGuard, hg, binOp, h1]
 exact hK _ _ next
end
end
theorem certReads_any {MG : World → Prop} (SC : CrtSaid MG) (b ssig : List UInt8) (sid : Int) (bv : Value) (w : World) (hb : Row1 w bv (b.map bval)) (hss : ssig.length = 64) (hi : I64 sid) (hG : MG w) (hV : GP w) :
  Calls Tryz.prog 6 #[bv, .agg (stopC sid ssig).toArray] w fun e w' => e = .returned (.bool true) ∧ Below w.heap.size w w' := by
 have HG := jh hG
 have HV := jh hV
 have HSC := jh SC
 obtain ⟨ab, capb, hbv, _⟩ := id hb
 rw [List.length_map] at hbv
 subst hbv
 have HB := jh hb
 have H1 := jh (Blk.made w (stopC sid ssig) 39)
 have HE := jh (Ext.alloc w (.cells (stopC sid ssig).toArray 39))
 have HIS := jh (zcj (id := sid) hss)
 have HR1 := jh (fun (v : Value) w hr hl hG => SC.read b v w hr hl hG)
 have HR2 := jh (fun (v : Value) w hr hl => rReadStop_any b v w hr hl)
 have HP1 := jh (fun w hG => SC.pack ssig sid w hss hi hG)
 have HP2 := jh (fun w => rPackStop_any ssig sid w hss)
 have HGL := jh (rdG_length b)
 generalize rdE b = E at *
 generalize rdI b = I at *
 generalize rdG b = g at *
 generalize stpE sid = F at *
 generalize pckL sid ssig = l at *
 have b0 : (0 : Int) ≤ (b.length : Int) := Int.natCast_nonneg _
 clear hb hss hi hG hV SC
 have HLC : Hid ((stopC I g).length = (stopC 0 z64).length) := jh (by rw [zbt HGL.out, zbt zbi])
 have HIC := jh (zcj (id := I) HGL.out)
 go_enter Tryz.func6, Tryz.ntmps6
 go_upto_region 1 with (fail)
 change Code.wp _ _ _ _ (w.alloc (.cells (stopC sid ssig).toArray 39))
 have HB := jh (HB.out.below HE.out)
 generalize w.alloc (.cells (stopC sid ssig).toArray 39) = wa at *
 obtain ⟨A, hA⟩ : ∃ A, A = w.heap.size := ⟨_, rfl⟩
 rw [← hA] at H1 ⊢
 clear hA
 go_wp2_with fail
 refine (alive_any16 HSC.out wa (HSC.out.ext HG.out HE.out) (HV.out.ext HE.out)).mono ?_
 rintro e w1 ⟨rfl, hb⟩
 have H1 := jh (zaa H1.out hb)
 have HB := jh (HB.out.below hb)
 have HE := jh (HE.out.trans hb)
 clear hb
 by_cases c1 : 300 < b.length
 ·have c1' : (300 : Int) < (b.length : Int) := by omega
  go_wp2_with fail
  go_ret
  exact ⟨rfl, HE.out⟩
 ·have c1' : ¬ (300 : Int) < (b.length : Int) := by omega
  have HL : Hid (b.length ≤ 1000000) := jh (by omega)
  go_wp2_with fail
  refine (HR1.out _ w1 HB.out HL.out (HSC.out.ext HG.out HE.out)).mono ?_
  rintro e w2 ⟨rfl, hb⟩
  have H1 := jh (zaa H1.out hb)
  have HB := jh (HB.out.below hb)
  have HE := jh (HE.out.trans hb)
  clear hb HR1
  have HZ := jh (Blk.made w2 (stopC 0 z64) 39)
  have HEA := jh (Ext.alloc w2 (.cells (stopC 0 z64).toArray 39))
  go_upto_region 5 with (refine zab rfl _ _ _ rfl w2.heap.size (stopC I g) rfl rfl _ _ HZ.out HLC.out HIC.out (zcd _ _) ?_; intro w3 hb2 hg2)
  have HX := jh (zad HEA.out hg2 (Nat.le_refl _))
  have H1 := jh (zaa H1.out HX.out)
  have HB := jh (HB.out.below HX.out)
  have HE := jh (HE.out.trans HX.out)
  have H3 := jh hb2
  obtain ⟨C, hD⟩ : ∃ D, D = w2.heap.size := ⟨_, rfl⟩
  rw [← hD] at H3 ⊢
  clear hb2 hg2 HZ HEA HX hD
  go_wp2_with fail
  refine (HR2.out _ w3 HB.out HL.out).mono ?_
  rintro e w4 ⟨rfl, hb⟩
  have H1 := jh (zaa H1.out hb)
  have H3 := jh (zaa H3.out hb)
  have HE := jh (HE.out.trans hb)
  clear hb HR2 HB
  have HZ := jh (Blk.made w4 (stopC 0 z64) 39)
  have HEA := jh (Ext.alloc w4 (.cells (stopC 0 z64).toArray 39))
  go_upto_region 6 with (refine zab rfl _ _ _ rfl w4.heap.size (stopC I g) rfl rfl _ _ HZ.out HLC.out HIC.out (zcd _ _) ?_; intro w5 hb2 hg2)
  have HX := jh (zad HEA.out hg2 (Nat.le_refl _))
  have H1 := jh (zaa H1.out HX.out)
  have H3 := jh (zaa H3.out HX.out)
  have HE := jh (HE.out.trans HX.out)
  have H4 := jh hb2
  obtain ⟨D, hD⟩ : ∃ D, D = w4.heap.size := ⟨_, rfl⟩
  rw [← hD] at H4 ⊢
  clear hb2 hg2 HZ HEA HX hD
  go_wp2_with ((refine zcx (by rfl) _ _ rfl A rfl _ _ _ H1.out Tryz.underlying39 HIS.out ?_))
  refine (HP1.out w5 (HSC.out.ext HG.out HE.out)).mono ?_
  rintro e w6 ⟨x, rfl, ho, hb⟩
  have hr := Row1.of_own ho
  obtain ⟨a, c, hx, _⟩ := id hr
  rw [List.length_map] at hx
  subst hx
  have HR := jh hr
  have H1 := jh (zaa H1.out hb)
  have H3 := jh (zaa H3.out hb)
  have H4 := jh (zaa H4.out hb)
  have HE := jh (HE.out.trans hb)
  clear hb hr ho HP1
  go_wp2_with ((refine zcx (by rfl) _ _ rfl A rfl _ _ _ H1.out Tryz.underlying39 HIS.out ?_))
  refine (HP2.out w6).mono ?_
  rintro e w7 ⟨x, rfl, ho, hb⟩
  have hr := Row1.of_own ho
  obtain ⟨a2, c2, hx, _⟩ := id hr
  rw [List.length_map] at hx
  subst hx
  have HR2 := jh hr
  have H1 := jh (zaa H1.out hb)
  have H3 := jh (zaa H3.out hb)
  have H4 := jh (zaa H4.out hb)
  have HR := jh (HR.out.below hb)
  have HE := jh (HE.out.trans hb)
  clear hb hr ho HP2
  have hs1 := zdz (P := Tryz.prog) 46 9 5 Tryz.underlying46 Tryz.underlying5 Tryz.underlying9 HR.out
  have hs2 := zdz (P := Tryz.prog) 46 9 5 Tryz.underlying46 Tryz.underlying5 Tryz.underlying9 HR2.out
  have e1 : (E == E) = true := beq_self_eq_true E
  have e2 : decide (E = E) = true := decide_eq_true rfl
  have e3 : (F == F) = true := beq_self_eq_true F
  have e4 : decide (F = F) = true := decide_eq_true rfl
  go_wp2_with fail
  refine (zbq E w7).mono ?_
  rintro e w8 ⟨rfl, rfl⟩
  go_wp2_with (first | (refine zcx (by rfl) _ _ rfl C rfl _ _ _ H3.out Tryz.underlying39 HIC.out ?_) | (refine zcx (by rfl) _ _ rfl D rfl _ _ _ H4.out Tryz.underlying39 HIC.out ?_) | (refine wpList_eqs (by rfl) _ _ _ _ _ _ true (stop_eq HGL.out HGL.out (decide_eq_true ⟨rfl, rfl⟩)) stop_guard rfl rfl rfl ?_))
  refine (zbq F w7).mono ?_
  rintro e w8 ⟨rfl, rfl⟩
  go_wp2_with fail
  go_ret
  exact ⟨rfl, HE.out⟩
section
open Go.ChangeShapes Go.WideShapes Go.ChangeAt Go.WideMaps Go.WideElems Go.RowKit
theorem certReads_opened {H : Type} {MG : World → Prop} (SC : CrtSaid MG) (enc : TypeId × Value → H) : LawWalkG (fun W => MG W ∧ GP W) enc Tryz.prog 6 Tryz.f6.params.toList := by
 intro W base args ds ps hval hA hlt hfz hG
 rw [Tryz.params6] at hA hval
 obtain ⟨v0, v1, d0, d1, p0, p1, rfl, rfl, rfl, h0, h1⟩ := trodAll_two hA
 obtain ⟨x0, hx0⟩ := open_bytes Tryz.underlying46 Tryz.underlying5 (by kernel_rfl) (hval 0 46 v0 rfl rfl) h0
 obtain ⟨n1, x1, rfl, hx1, hw1⟩ := open_stop Tryz.underlying39 (by kernel_rfl) Tryz.underlying3 rfl (by kernel_rfl) Tryz.underlying26 rfl (by kernel_rfl) Tryz.underlying5 (by kernel_rfl) (hval 1 39 v1 rfl rfl) h1
 exact certReads_any SC x0 x1 n1 v0 W hx0 hx1 (I64_wf hw1) hG.1 hG.2
end
end Go.Proofs.YthafgicndklgfaaGreatDoor
