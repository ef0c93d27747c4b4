/- Texts that belong together, one behind the other; each says in its own first remark what it shows. -/
import Derived.Test.YtdjdalaghfknoaaEdwByte
import Derived.Test.YtdjdalaghfknoaaRefNum
import Derived.Test.YtdjdalaghfknoaaRowMore
import Derived.Test.YtdjdalaghfknoaaArrKit
import Derived.Test.YtdjdalaghfknoaaHeldMore
import Derived.Laws.Tables
import Derived.Test.YtdjdalaghfknoaaDetEnds
import Derived.Test.YtdjdalaghfknoaaNumKit
import Derived.Test.YtdjdalaghfknoaaProg
import Derived.Test.YtdjdalaghfknoaaByteKit
import Derived.Lib.Mul64
import Derived.Laws.Bits64b
import Derived.Laws.Externs
import Derived.Test.YtdjdalaghfknoaaFieldMath
import Derived.Test.YtdjdalaghfknoaaRefAdd
import Derived.Test.YtdjdalaghfknoaaFieldRoots
import Derived.Test.YtdjdalaghfknoaaRefIn

/- 32 bytes that tell a number modulo p. No program. Each theorem names its own conditions. -/
namespace Go.Proofs.Ytdjdalaghfknoaa
open Go.RowKit
set_option linter.unusedVariables false

/-- 32 bytes tell f (they need not be the least ones). -/
def F32 (l : List UInt8) (f : Fp) : Prop := l.length = 32 ∧ fp (leN l) = f
theorem leN_nbF (f : Fp) : leN (nbF f) = f.val := by
  have h2 := leN_bytesN 32 f.val
  have h3 : f.val < 256 ^ 32 := Nat.lt_trans f.isLt (by decide +kernel)
  rw [Nat.mod_eq_of_lt h3] at h2
  exact h2
theorem F32.nb (f : Fp) : F32 (nbF f) f := ⟨nbF_length f, by rw [leN_nbF, fp_self]⟩
theorem F32.of {l : List UInt8} (h : l.length = 32) : F32 l (fp (leN l)) := ⟨h, rfl⟩
/-- One of two. -/
def pkL (s : Bool) (a b : List UInt8) : List UInt8 := if s then b else a
theorem F32.pk {l m : List UInt8} {f g : Fp} (b : Bool) (hl : F32 l f) (hm : F32 m g) : F32 (pkL b l m) (if b then g else f) := by cases b <;> assumption
theorem F32.ite {l m : List UInt8} {f g : Fp} (b : Bool) (hl : F32 l f) (hm : F32 m g) : F32 (if b then m else l) (if b then g else f) := by cases b <;> assumption
theorem nb_nbF (x : Int) : numP x = .agg ((nbF (fp x)).map bval).toArray := rfl
theorem nbF_inj {f g : Fp} (h : nbF f = nbF g) : f = g := by
  have h1 := congrArg leN h
  rw [leN_nbF, leN_nbF] at h1
  exact Fin.ext h1

end Go.Proofs.Ytdjdalaghfknoaa

/- A struct of four arrays of sixteen integers: its fields' addresses, its parts, how it is built. Nothing here speaks of a program. Each theorem names its own conditions. -/
namespace Go.Proofs.Ytdjdalaghfknoaa
open Go.RowKit
set_option linter.unusedVariables false
set_option linter.unusedSimpArgs false

theorem fold_lay (off : Nat) (post : List Value) : ∀ (new mid pre : List Value) (k : Nat), new.length = mid.length → pre.length = off + k →
    (new.zipIdx k).foldl (fun (cs : Array Value) (x : Value × Nat) => cs.setIfInBounds (off + x.2) x.1) (pre ++ (mid ++ post)).toArray = (pre ++ (new ++ post)).toArray
  | [], mid, pre, k, h, hp => by
    obtain rfl : mid = [] := List.eq_nil_of_length_eq_zero (by simpa using h.symm)
    rfl
  | c :: new, [], pre, k, h, hp => by simp at h
  | c :: new, m :: mid, pre, k, h, hp => by
    rw [List.zipIdx_cons, List.foldl_cons]
    have e : (pre ++ (m :: mid ++ post)).toArray.setIfInBounds (off + k) c = ((pre ++ [c]) ++ (mid ++ post)).toArray := by
      rw [List.setIfInBounds_toArray, ← hp, List.set_append_right _ _ (Nat.le_refl _), Nat.sub_self]
      simp
    show (new.zipIdx (k + 1)).foldl _ ((pre ++ (m :: mid ++ post)).toArray.setIfInBounds (off + k) c) = _
    rw [e, fold_lay off post new mid (pre ++ [c]) (k + 1) (by simpa using h) (by simp [hp]; omega)]
    simp
theorem fill_lay {place : Nat → Option (Nat × Nat)} {i off n : Nat} {pre mid post new : List Value} {rest : List (Nat × Value)} (hp : place i = some (off, n)) (hl : pre.length = off) (hm : mid.length = n) (hn : new.length = n) :
    Instr.fill place (pre ++ (mid ++ post)).toArray ((i, .agg new.toArray) :: rest) = Instr.fill place (pre ++ (new ++ post)).toArray rest := by
  have e : (new.toArray.zipIdx.foldl (fun (cs : Array Value) (x : Value × Nat) => cs.setIfInBounds (off + x.2) x.1) (pre ++ (mid ++ post)).toArray) = (pre ++ (new ++ post)).toArray := by
    rw [← fold_lay off post new mid pre 0 (by rw [hn, hm]) (by rw [hl]; rfl), ← Array.foldl_toList, Array.toList_zipIdx]
  rw [Instr.fill, hp]
  have h1 : (Value.cells (.agg new.toArray)).size = n := by simpa [Value.cells] using hn
  have h2 : ¬ (off + n > (pre ++ (mid ++ post)).toArray.size) := by simp [hl, hm]
  simp only [h1]
  rw [if_neg (by simp [h2]; simp at h2; omega)]
  exact congrArg (fun z => Instr.fill place z rest) e
/-- Four parts of sixteen, over noughts. -/
theorem fill_four {place : Nat → Option (Nat × Nat)} (p0 : place 0 = some (0, 16)) (p1 : place 1 = some (16, 16)) (p2 : place 2 = some (32, 16)) (p3 : place 3 = some (48, 16)) (zero : Array Value) (hz : zero.size = 64) {a b c d : List Value} (ha : a.length = 16) (hb : b.length = 16) (hc : c.length = 16) (hd : d.length = 16) :
    Instr.fill place zero [(0, .agg a.toArray), (1, .agg b.toArray), (2, .agg c.toArray), (3, .agg d.toArray)] = some (a ++ (b ++ (c ++ d))).toArray := by
  obtain ⟨l, hl⟩ : ∃ l : List Value, zero = l.toArray ∧ l.length = 64 := ⟨zero.toList, by simp, by simpa using hz⟩
  obtain ⟨rfl, hl⟩ := hl
  have e0 : l = [] ++ (l.take 16 ++ ((l.drop 16).take 16 ++ ((l.drop 32).take 16 ++ l.drop 48))) := by
    rw [List.nil_append]
    have h3 : (l.drop 32).take 16 ++ l.drop 48 = l.drop 32 := by rw [show l.drop 48 = (l.drop 32).drop 16 by rw [List.drop_drop], List.take_append_drop]
    have h2 : (l.drop 16).take 16 ++ l.drop 32 = l.drop 16 := by rw [show l.drop 32 = (l.drop 16).drop 16 by rw [List.drop_drop], List.take_append_drop]
    rw [h3, h2, List.take_append_drop]
  have l0 : (l.take 16).length = 16 := by simp [hl]
  have l1 : ((l.drop 16).take 16).length = 16 := by simp [hl]
  have l2 : ((l.drop 32).take 16).length = 16 := by simp [hl]
  have l3 : (l.drop 48).length = 16 := by simp [hl]
  generalize l.take 16 = q0 at *
  generalize (l.drop 16).take 16 = q1 at *
  generalize (l.drop 32).take 16 = q2 at *
  generalize l.drop 48 = q3 at *
  rw [e0, fill_lay (off := 0) (n := 16) p0 rfl l0 ha]
  rw [show ([] : List Value) ++ (a ++ (q1 ++ (q2 ++ q3))) = a ++ (q1 ++ (q2 ++ q3)) from rfl, fill_lay (off := 16) (n := 16) p1 ha l1 hb]
  rw [show a ++ (b ++ (q2 ++ q3)) = (a ++ b) ++ (q2 ++ q3) by simp, fill_lay (off := 32) (n := 16) p2 (by simp [ha, hb]) l2 hc]
  rw [show (a ++ b) ++ (c ++ q3) = (a ++ b ++ c) ++ (q3 ++ []) by simp, fill_lay (off := 48) (n := 16) p3 (by simp [ha, hb, hc]) l3 hd]
  rw [Instr.fill]
  simp
theorem rng_mid {w : World} {c : Nat} {t : TypeId} {pre mid post : List Value} (h : Blk w c (pre ++ (mid ++ post)) t) {o : Nat} (ho : pre.length = o) : w.rangeAt c o mid := fun j v hj => by
  subst ho
  have hjl : j < mid.length := by
    rcases Nat.lt_or_ge j mid.length with h' | h'
    · exact h'
    · rw [List.getElem?_eq_none h'] at hj; cases hj
  rw [h.cell, List.getElem?_append_right (by omega), Nat.add_sub_cancel_left, List.getElem?_append_left hjl]
  exact hj
theorem boxes_one (w : World) (ks : List Value) (T : TypeId) : Blk (w.alloc (.cells ks.toArray T)) w.heap.size ks T ∧ Ext w (w.alloc (.cells ks.toArray T)) := ⟨Blk.made w ks T, Ext.alloc w _⟩
/-- A value is built, in a plain region. -/
theorem wpList_build {P : Program} {w : World} {ops : Array Oper} {rest : List Oper} {o : Oper} {a : Act} {Q : Exit → Act → World → Prop} (hgd : o.guard = none) (ty : TypeId) (parts : Array (Nat × Operand)) (ho : o.op = .build ty parts)
    (vs : Array (Nat × Value)) (hp : parts.map (fun (i, x) => (i, a.eval x)) = vs) (v : Value) (hr : (Instr.build ty vs).run P w = .ok v w) (h : wpList P ops Q rest (a.put o.dst v) w) : wpList P ops Q (o :: rest) a w :=
  wpList_plain hgd fun _ hK => by
    subst hp
    unfold Oper.wp execOp
    simp only [ho, Sem.run_bind, hr, Result.andThen_ok, Sem.run_pure]
    exact hK _ _ h

end Go.Proofs.Ytdjdalaghfknoaa

/- In a drawn region's one walk: the load of a part of a block, the address of a part's part, a struct that is built; blocks of two parts. Nothing here speaks of a program. Each theorem names its own conditions. -/
namespace Go.Proofs.Ytdjdalaghfknoaa
open Go.RowKit
set_option linter.unusedVariables false
set_option linter.unusedSimpArgs false

section
variable {P : Program} {ops : Array Oper} {Q : Exit → Act → World → Prop} {md : Region.Mode} {t : Nat} {C : World → Prop} {D : Act → Prop}
/-- The load of a part of a block. -/
theorem det_loadk {o : Oper} {rest : List Oper} {a : Act} (ty : TypeId) (x : Operand) (c k : Nat) (cs : List Value) (d : TypeDesc) (hw : Region.wanted o (yielded ops a.tmps) = true) (ho : o.op = .load ty x)
    (hx : a.eval x = .pointer (some ⟨c, k, none⟩)) (hC : ∀ w, C w → w.rangeAt c k cs) (hu : P.underlying ty = some d) (hd : d.isRow = true) (hi : (P.info? ty).map (·.size) = some cs.length)
    (next : wpDet P ops C D rest (a.put o.dst (.agg cs.toArray))) : wpDet P ops C D (o :: rest) a := by
  rcases yieldsIf_load_mid (S := C) hw ty x ho c k hx cs d hC hu hd hi with ⟨_, h⟩ | ⟨h, _⟩
  · exact det_val _ hw h next
  · rw [hw] at h; cases h
/-- A part's part. -/
theorem det_fieldk {o : Oper} {rest : List Oper} {a : Act} (ty : TypeId) (x : Operand) (c f i j : Nat) (hw : Region.wanted o (yielded ops a.tmps) = true) (ho : o.op = .fieldAddr ty x f) (hx : a.eval x = .pointer (some ⟨c, i, none⟩))
    (hr : ∀ w, (Instr.fieldAt ty (.pointer (some ⟨c, i, none⟩)) f).run P w = .ok (.pointer (some ⟨c, j, none⟩)) w)
    (next : wpDet P ops C D rest (a.put o.dst (.pointer (some ⟨c, j, none⟩)))) : wpDet P ops C D (o :: rest) a :=
  det_val _ hw (fun w _ => by unfold execOp; simp only [ho, hx, Sem.run_bind, hr, Result.andThen_ok, Sem.run_pure]) next
/-- A value is built. -/
theorem det_build {o : Oper} {rest : List Oper} {a : Act} (ty : TypeId) (parts : Array (Nat × Operand)) (vs : Array (Nat × Value)) (v : Value) (hw : Region.wanted o (yielded ops a.tmps) = true) (ho : o.op = .build ty parts)
    (hp : parts.map (fun (i, x) => (i, a.eval x)) = vs) (hr : ∀ w, (Instr.build ty vs).run P w = .ok v w)
    (next : wpDet P ops C D rest (a.put o.dst v)) : wpDet P ops C D (o :: rest) a :=
  det_val v hw (fun w _ => by
    subst hp
    unfold execOp
    simp only [ho, Sem.run_bind, hr, Result.andThen_ok, Sem.run_pure]) next
theorem det_quo {o : Oper} {rest : List Oper} {a : Act} (ty rt : TypeId) (x y : Operand) (m n : Nat) (hw : Region.wanted o (yielded ops a.tmps) = true) (ho : o.op = .binOp .quo ty x y rt) (hx : a.eval x = .int .i64 (m : Int)) (hy : a.eval y = .int .i64 (n : Int)) (hn : 0 < n) (hm : m < 2 ^ 31)
    (next : wpDet P ops C D rest (a.put o.dst (.int .i64 ((m / n : Nat) : Int)))) : wpDet P ops C D (o :: rest) a :=
  det_val _ hw (fun w _ => by
    have h1 : (n : Int) ≠ 0 := by omega
    have h2 : (m : Int).tdiv n = ((m / n : Nat) : Int) := by rw [Int.tdiv_eq_ediv_of_nonneg (by omega)]; rfl
    have h4 : m / n ≤ m := Nat.div_le_self _ _
    have h3 : IntKind.i64.wrap ((m / n : Nat) : Int) = ((m / n : Nat) : Int) := by
      rw [IntKind.wrap_i64]
      generalize m / n = q at *
      omega
    unfold execOp
    simp only [ho, hx, hy]
    simp [eqGuard, binOp, Op.intDiv, h1, Result.andThen]
    rw [show ((m : Int) / (n : Int)) = ((m / n : Nat) : Int) from rfl, h3, if_neg (show ¬ n = 0 by omega)]) next
theorem det_rem {o : Oper} {rest : List Oper} {a : Act} (ty rt : TypeId) (x y : Operand) (m n : Nat) (hw : Region.wanted o (yielded ops a.tmps) = true) (ho : o.op = .binOp .rem ty x y rt) (hx : a.eval x = .int .i64 (m : Int)) (hy : a.eval y = .int .i64 (n : Int)) (hn : 0 < n) (hm : m < 2 ^ 31)
    (next : wpDet P ops C D rest (a.put o.dst (.int .i64 ((m % n : Nat) : Int)))) : wpDet P ops C D (o :: rest) a :=
  det_val _ hw (fun w _ => by
    have h1 : (n : Int) ≠ 0 := by omega
    unfold execOp
    simp only [ho, hx, hy]
    simp [eqGuard, binOp, Op.intDiv, h1, Result.andThen]
    rw [if_neg (show ¬ n = 0 by omega)]
    simp [Int.tmod_eq_emod_of_nonneg (show (0 : Int) ≤ (m : Int) by omega)]) next
theorem det_shrn {o : Oper} {rest : List Oper} {a : Act} (k : IntKind) (ty rt : TypeId) (x y : Operand) (m n : Nat) (hw : Region.wanted o (yielded ops a.tmps) = true) (ho : o.op = .binOp .shr ty x y rt) (hx : a.eval x = .int k (m : Int)) (hy : a.eval y = .int .i64 (n : Int)) (hn : n ≤ k.bits)
    (next : wpDet P ops C D rest (a.put o.dst (.int k ((m / 2 ^ n : Nat) : Int)))) : wpDet P ops C D (o :: rest) a :=
  det_val _ hw (fun w _ => by
    unfold execOp
    simp only [ho, hx, hy]
    simp [eqGuard, binOp, Op.shift, Result.andThen]
    rw [if_neg (show ¬ (n : Int) < 0 by omega), Nat.min_eq_left hn, Int.fdiv_eq_ediv_of_nonneg _ (by exact_mod_cast Nat.zero_le (2 ^ n))]) next
theorem det_eqi {o : Oper} {rest : List Oper} {a : Act} (k : IntKind) (ty rt : TypeId) (x y : Operand) (b c : Int) (r : Bool) (hw : Region.wanted o (yielded ops a.tmps) = true) (ho : o.op = .binOp .eql ty x y rt) (hx : a.eval x = .int k b) (hy : a.eval y = .int k c) (hr : decide (b = c) = r)
    (next : wpDet P ops C D rest (a.put o.dst (.bool r))) : wpDet P ops C D (o :: rest) a :=
  det_val _ hw (fun w _ => by
    subst hr
    unfold execOp
    simp only [ho, hx, hy]
    simp [eqGuard, binOp, Op.intCmp, Result.andThen]
    try rw [Bool.eq_iff_iff]; simp) next
end

/-- Two parts, over noughts. -/
theorem fill_two {place : Nat → Option (Nat × Nat)} {m n : Nat} (p0 : place 0 = some (0, m)) (p1 : place 1 = some (m, n)) (zero : Array Value) (hz : zero.size = m + n) {a b : List Value} (ha : a.length = m) (hb : b.length = n) :
    Instr.fill place zero [(0, .agg a.toArray), (1, .agg b.toArray)] = some (a ++ b).toArray := by
  obtain ⟨l, hl⟩ : ∃ l : List Value, zero = l.toArray ∧ l.length = m + n := ⟨zero.toList, by simp, by simpa using hz⟩
  obtain ⟨rfl, hl⟩ := hl
  have e0 : l = [] ++ (l.take m ++ l.drop m) := by simp
  have l0 : (l.take m).length = m := by simp [hl]
  have l1 : (l.drop m).length = n := by simp [hl]
  generalize l.take m = q0 at *
  generalize l.drop m = q1 at *
  rw [e0, fill_lay (off := 0) (n := m) p0 rfl l0 ha]
  rw [show ([] : List Value) ++ (a ++ q1) = a ++ (q1 ++ []) by simp, fill_lay (off := m) (n := n) p1 ha l1 hb]
  rw [Instr.fill]
  simp
/-- The first part alone, over noughts. -/
theorem fill_first {place : Nat → Option (Nat × Nat)} {m : Nat} (p0 : place 0 = some (0, m)) (z0 z1 : List Value) (hz : z0.length = m) {a : List Value} (ha : a.length = m) :
    Instr.fill place (z0 ++ z1).toArray [(0, .agg a.toArray)] = some (a ++ z1).toArray := by
  have e := fill_lay (place := place) (i := 0) (off := 0) (n := m) (pre := []) (mid := z0) (post := z1) (rest := []) p0 rfl hz ha
  rw [List.nil_append, List.nil_append] at e
  rw [e, Instr.fill]
theorem rng_lo {w : World} {c o : Nat} {a b : List Value} (h : w.rangeAt c o (a ++ b)) : w.rangeAt c o a := fun j v hj => by
  have hjl : j < a.length := by
    rcases Nat.lt_or_ge j a.length with h' | h'
    · exact h'
    · rw [List.getElem?_eq_none h'] at hj; cases hj
  exact h j v (by rw [List.getElem?_append_left hjl]; exact hj)
theorem rng_hi {w : World} {c o m k : Nat} {a b : List Value} (h : w.rangeAt c o (a ++ b)) (hm : a.length = m) (hk : o + m = k) : w.rangeAt c k b := fun j v hj => by
  have e := h (m + j) v (by rw [List.getElem?_append_right (by omega), ← hm, Nat.add_sub_cancel_left]; exact hj)
  rw [← Nat.add_assoc, hk] at e
  exact e

end Go.Proofs.Ytdjdalaghfknoaa

/- The code's points of two numbers and rungs of two points, as cells. Each theorem names its own conditions. -/
namespace Go.Proofs.Ytdjdalaghfknoaa
open Go.RowKit
set_option linter.unusedVariables false
set_option linter.unusedSimpArgs false

def ptN (x z : List UInt8) : List Value := x.map bval ++ z.map bval
def rgN (a b c d : List UInt8) : List Value := ptN a b ++ ptN c d
theorem ptN_length {x z : List UInt8} (hx : x.length = 32) (hz : z.length = 32) : (ptN x z).length = 64 := by simp [ptN, hx, hz]
theorem rgN_length {a b c d : List UInt8} (ha : a.length = 32) (hb : b.length = 32) (hc : c.length = 32) (hd : d.length = 32) : (rgN a b c d).length = 128 := by simp [rgN, ptN_length, ha, hb, hc, hd]
theorem ptN_one (x z : List UInt8) : ∀ v ∈ ptN x z, v.oneCell' = true := by
  intro v hv
  rcases List.mem_append.1 hv with h | h <;> exact bval_one _ v h
theorem rgN_one (a b c d : List UInt8) : ∀ v ∈ rgN a b c d, v.oneCell' = true := by
  intro v hv
  rcases List.mem_append.1 hv with h | h <;> exact ptN_one _ _ v h
theorem Try.arr43 : (Try.prog.info? 43).map (·.size) = some 64 := by kernel_rfl
theorem Try.arr45 : (Try.prog.info? 45).map (·.size) = some 128 := by kernel_rfl
theorem ptN_size {x z : List UInt8} (hx : x.length = 32) (hz : z.length = 32) : (Try.prog.info? 43).map (·.size) = some (ptN x z).length := by rw [ptN_length hx hz]; exact Try.arr43
theorem rgN_size {a b c d : List UInt8} (ha : a.length = 32) (hb : b.length = 32) (hc : c.length = 32) (hd : d.length = 32) : (Try.prog.info? 45).map (·.size) = some (rgN a b c d).length := by rw [rgN_length ha hb hc hd]; exact Try.arr45
theorem build_ptN {x z : List UInt8} (hx : x.length = 32) (hz : z.length = 32) (w : World) : (Instr.build 43 #[(0, .agg (x.map bval).toArray), (1, .agg (z.map bval).toArray)]).run Try.prog w = .ok (.agg (ptN x z).toArray) w := by
  refine run_build w _ _ _ ?_
  have e := fill_two (place := fun i => (#[(0, 32), (32, 32)] : Array (Nat × Nat))[i]?) rfl rfl (ints .u8 (List.replicate 64 0)).toArray (by simp [ints_length]) (a := x.map bval) (b := z.map bval) (by simpa using hx) (by simpa using hz)
  refine Eq.trans ?_ e
  kernel_rfl
theorem build_rgN {a b c d : List UInt8} (ha : a.length = 32) (hb : b.length = 32) (hc : c.length = 32) (hd : d.length = 32) (w : World) : (Instr.build 45 #[(0, .agg (ptN a b).toArray), (1, .agg (ptN c d).toArray)]).run Try.prog w = .ok (.agg (rgN a b c d).toArray) w := by
  refine run_build w _ _ _ ?_
  have e := fill_two (place := fun i => (#[(0, 64), (64, 64)] : Array (Nat × Nat))[i]?) rfl rfl (ints .u8 (List.replicate 128 0)).toArray (by simp [ints_length]) (a := ptN a b) (b := ptN c d) (ptN_length ha hb) (ptN_length hc hd)
  refine Eq.trans ?_ e
  kernel_rfl
theorem ptN_x {w : World} {c o : Nat} {x z : List UInt8} (h : w.rangeAt c o (ptN x z)) : w.rangeAt c o (x.map bval) := rng_lo h
theorem ptN_z {w : World} {c o k : Nat} {x z : List UInt8} (h : w.rangeAt c o (ptN x z)) (hx : x.length = 32) (hk : o + 32 = k) : w.rangeAt c k (z.map bval) := rng_hi h (by simpa using hx) hk
theorem rgN_lo {w : World} {c o : Nat} {a b d e : List UInt8} (h : w.rangeAt c o (rgN a b d e)) : w.rangeAt c o (ptN a b) := rng_lo h
theorem rgN_hi {w : World} {c o k : Nat} {a b d e : List UInt8} (h : w.rangeAt c o (rgN a b d e)) (ha : a.length = 32) (hb : b.length = 32) (hk : o + 64 = k) : w.rangeAt c k (ptN d e) := rng_hi h (ptN_length ha hb) hk
def zpt : List Value := ints .u8 (List.replicate 64 0)
def zrg : List Value := ints .u8 (List.replicate 128 0)
theorem zpt_length : zpt.length = 64 := by simp [zpt, ints_length]
theorem zrg_length : zrg.length = 128 := by simp [zrg, ints_length]

@[simp] theorem zero_rung (w : World) : (zeroValue 45).run Try.prog w = .ok (.agg zrg.toArray) w := by kernel_rfl

end Go.Proofs.Ytdjdalaghfknoaa

/- The walks of the code's arithmetic on 128 bits: Mul64, Add64, product, plus, above. Each theorem names its own conditions. -/
namespace Go.Proofs.Ytdjdalaghfknoaa
open Go.RowKit
set_option linter.unusedVariables false
set_option linter.unusedSimpArgs false

theorem mask32 (a : Nat) (ha : a < 18446744073709551616) : bits .and .u64 (a : Int) 4294967295 = ((a % 4294967296 : Nat) : Int) := by
  have h := bits_and_u64_nat a 4294967295 ha (by omega)
  have e : a &&& 4294967295 = a % 4294967296 := Nat.and_two_pow_sub_one_eq_mod a 32
  rw [e] at h
  exact h
theorem mask51 (a : Nat) (ha : a < 18446744073709551616) : bits .and .u64 (a : Int) 2251799813685247 = ((a % 2251799813685248 : Nat) : Int) := by
  have h := bits_and_u64_nat a 2251799813685247 ha (by omega)
  have e : a &&& 2251799813685247 = a % 2251799813685248 := Nat.and_two_pow_sub_one_eq_mod a 51
  rw [e] at h
  exact h
theorem nat32 (a : Nat) : (a : Int) / 4294967296 = ((a / 4294967296 : Nat) : Int) := by omega
set_option maxHeartbeats 1000000 in
theorem mul64_any (x y : Nat) (hx : x < 18446744073709551616) (hy : y < 18446744073709551616) (w : World) :
    Calls Try.prog 56 #[.int .u64 x, .int .u64 y] w fun e w' => e = .returned (.tuple #[.int .u64 ((x * y / 18446744073709551616 : Nat) : Int), .int .u64 ((x * y % 18446744073709551616 : Nat) : Int)]) ∧ w' = w := by
  obtain ⟨bd, bt, bw, hhi⟩ := Lib.mul64_hi x y hx hy
  have ba := Lib.half_mul_le (a := x / 4294967296) (b := y / 4294967296) (by omega) (by omega)
  have bb := Lib.half_mul_le (a := x / 4294967296) (b := y % 4294967296) (by omega) (by omega)
  have bc := Lib.half_mul_le (a := x % 4294967296) (b := y / 4294967296) (by omega) (by omega)
  have ba' : x / 4294967296 * (y / 4294967296) < 18446744073709551616 := by omega
  have bb' : x / 4294967296 * (y % 4294967296) < 18446744073709551616 := by omega
  have bc' : x % 4294967296 * (y / 4294967296) < 18446744073709551616 := by omega
  have bh1 : x / 4294967296 * (y / 4294967296) + (x / 4294967296 * (y % 4294967296) + x % 4294967296 * (y % 4294967296) / 4294967296) / 4294967296 < 18446744073709551616 := by omega
  have bh : x / 4294967296 * (y / 4294967296) + (x / 4294967296 * (y % 4294967296) + x % 4294967296 * (y % 4294967296) / 4294967296) / 4294967296 + ((x / 4294967296 * (y % 4294967296) + x % 4294967296 * (y % 4294967296) / 4294967296) % 4294967296 + x % 4294967296 * (y / 4294967296)) / 4294967296 < 18446744073709551616 := by omega
  go_enter Try.func56, Try.ntmps56
  go_wp2_with fail
  simp only [mask32 x hx, mask32 y hy, nat32, natMul, natAdd, w64 bd, w64 bb', w64 bt, mask32 _ bt, w64 bc', w64 bw, w64 ba', w64 bh1, w64 bh, w64m (x * y)]
  rw [hhi]
  go_ret2
  exact ⟨rfl, rfl⟩

theorem add64_run (x y : Nat) (w : World) : (callFunc 57 #[.int .u64 x, .int .u64 y, .int .u64 0]).run Try.prog w =
    .ok (.value (.tuple #[.int .u64 (((x + y) % 18446744073709551616 : Nat) : Int), .int .u64 (((x + y) / 18446744073709551616 : Nat) : Int)])) w := by
  rw [run_callFunc_extern Try.func57 (by kernel_rfl) (by kernel_rfl) (by kernel_rfl) (e := add64Entry) (by kernel_rfl), run_add64 x y 0 (by omega) (by omega) (by omega) (by omega)]
  simp only [Result.andThen]
  congr 5 <;> omega

/-- A number of 128 bits, as the code has it. -/
def wideV (n : Nat) : Value := .agg #[.int .u64 ((n / 18446744073709551616 : Nat) : Int), .int .u64 ((n % 18446744073709551616 : Nat) : Int)]

theorem Try.arr73 : (Try.prog.info? 73).map (·.size) = some 2 := by kernel_rfl
theorem one2 (a b : Int) : ∀ v ∈ [Value.int .u64 a, .int .u64 b], v.oneCell' = true := by
  intro v hv
  rcases List.mem_cons.1 hv with rfl | hv
  · rfl
  · rcases List.mem_cons.1 hv with rfl | hv
    · rfl
    · cases hv

set_option maxHeartbeats 1000000 in
theorem product_hl (x y h l : Nat) (hx : x < 18446744073709551616) (hy : y < 18446744073709551616) (e1 : x * y / 18446744073709551616 = h) (e2 : x * y % 18446744073709551616 = l) (w : World) :
    Calls Try.prog 51 #[.int .u64 x, .int .u64 y] w fun e w' => e = .returned (.agg #[.int .u64 h, .int .u64 l]) ∧ Below w.heap.size w w' := by
  have HM : ∀ w, Calls Try.prog 56 #[.int .u64 x, .int .u64 y] w fun e w' => e = .returned (.tuple #[.int .u64 h, .int .u64 l]) ∧ w' = w := fun w => by
    have := mul64_any x y hx hy w
    rwa [e1, e2] at this
  have HB := Lib.hid (Blk.made w [.int .u64 0, .int .u64 0] 73)
  have HE := Lib.hid (Ext.alloc w (.cells [.int .u64 0, .int .u64 0].toArray 73))
  clear hx hy e1 e2
  go_enter Try.func51, Try.ntmps51
  go_wp2_with fail
  refine (HM _).mono ?_
  rintro e w' ⟨rfl, rfl⟩
  go_wp2_with (refine wpList_store_blk rfl _ _ _ rfl w.heap.size [.int .u64 h, .int .u64 l] rfl rfl _ _ HB.out rfl Try.arr73 (one2 _ _) ?_; intro w5 hb5 hg5)
  exact bodyPost_ret (v := .agg #[.int .u64 h, .int .u64 l]) (result_row (by rfl) _ w.heap.size _ _ _ (by rfl) hb5 Try.underlying73 rfl Try.arr73) rfl ⟨rfl, ext_grown HE.out hg5 (Nat.le_refl _)⟩
theorem product_any (x y : Nat) (hx : x < 18446744073709551616) (hy : y < 18446744073709551616) (w : World) :
    Calls Try.prog 51 #[.int .u64 x, .int .u64 y] w fun e w' => e = .returned (wideV (x * y)) ∧ Below w.heap.size w w' := product_hl x y _ _ hx hy rfl rfl w

theorem above_math (h l : Nat) (hl : l < 18446744073709551616) : bits .or .u64 (IntKind.u64.wrap ((h : Int) * 8192)) ((l : Int) / 2251799813685248) = (((h * 18446744073709551616 + l) / 2251799813685248 % 18446744073709551616 : Nat) : Int) := by
  have e1 : IntKind.u64.wrap ((h : Int) * 8192) = ((8192 * (h % 2251799813685248) : Nat) : Int) := by rw [IntKind.wrap_u64]; omega
  have e2 : (l : Int) / 2251799813685248 = ((l / 2251799813685248 : Nat) : Int) := by omega
  rw [e1, e2, or64 _ _ (by omega) (by omega), or_sum 13 _ _ (by omega)]
  omega

set_option maxHeartbeats 1000000 in
theorem above_hl (h l : Nat) (hl : l < 18446744073709551616) (w : World) :
    Calls Try.prog 53 #[.agg #[.int .u64 h, .int .u64 l]] w fun e w' => e = .returned (.int .u64 (((h * 18446744073709551616 + l) / 2251799813685248 % 18446744073709551616 : Nat) : Int)) ∧ Below w.heap.size w w' := by
  rw [← above_math h l hl]
  clear hl
  go_enter Try.func53, Try.ntmps53
  go_wp2_with fail
  go_ret
  exact ⟨rfl, Ext.alloc _ _⟩
theorem above_any (n : Nat) (w : World) :
    Calls Try.prog 53 #[wideV n] w fun e w' => e = .returned (.int .u64 ((n / 2251799813685248 % 18446744073709551616 : Nat) : Int)) ∧ Below w.heap.size w w' := by
  have := above_hl (n / 18446744073709551616) (n % 18446744073709551616) (Nat.mod_lt _ (by omega)) w
  rwa [Nat.div_add_mod'] at this

set_option maxHeartbeats 1000000 in
theorem plus_hl (h l x y ph pl c s r : Nat) (hx : x < 18446744073709551616) (hy : y < 18446744073709551616) (e1 : x * y / 18446744073709551616 = ph) (e2 : x * y % 18446744073709551616 = pl) (e3 : (l + pl) / 18446744073709551616 = c) (e4 : (l + pl) % 18446744073709551616 = s)
    (e5 : h + ph + c = r) (hr : r < 18446744073709551616) (w : World) :
    Calls Try.prog 52 #[.agg #[.int .u64 h, .int .u64 l], .int .u64 x, .int .u64 y] w fun e w' => e = .returned (.agg #[.int .u64 r, .int .u64 s]) ∧ Below w.heap.size w w' := by
  have HM : ∀ w, Calls Try.prog 56 #[.int .u64 x, .int .u64 y] w fun e w' => e = .returned (.tuple #[.int .u64 ph, .int .u64 pl]) ∧ w' = w := fun w => by
    have := mul64_any x y hx hy w
    rwa [e1, e2] at this
  have HA : ∀ w, (callFunc 57 #[.int .u64 l, .int .u64 pl, .int .u64 0]).run Try.prog w = .ok (.value (.tuple #[.int .u64 s, .int .u64 c])) w := fun w => by
    have := add64_run l pl w
    rwa [e3, e4] at this
  have HB := Lib.hid (boxes2 w [.int .u64 h, .int .u64 l] [.int .u64 0, .int .u64 0] 73 73)
  have HR : IntKind.u64.wrap (IntKind.u64.wrap ((h : Int) + ph) + c) = (r : Int) := by
    rw [natAdd, w64 (by omega), natAdd, e5, w64 hr]
  have HR2 := Lib.hid HR
  clear hx hy e1 e2 e3 e4 e5 hr HR
  go_enter Try.func52, Try.ntmps52
  go_wp2_with fail
  refine (HM _).mono ?_
  rintro e w' ⟨rfl, rfl⟩
  go_wp2_with (refine wpList_store_blk rfl _ _ _ rfl (w.heap.size + 1) [.int .u64 (IntKind.u64.wrap (IntKind.u64.wrap ((h : Int) + ph) + c)), .int .u64 s] rfl rfl _ _ HB.out.2.1 rfl Try.arr73 (one2 _ _) ?_; intro w5 hb5 hg5)
  rw [HR2.out] at hb5
  exact bodyPost_ret (v := .agg #[.int .u64 r, .int .u64 s]) (result_row (by rfl) _ (w.heap.size + 1) _ _ _ (by rfl) hb5 Try.underlying73 rfl Try.arr73) rfl ⟨rfl, ext_grown HB.out.2.2 hg5 (by omega)⟩
theorem plus_any (n x y : Nat) (hx : x < 18446744073709551616) (hy : y < 18446744073709551616) (hn : n + x * y < 340282366920938463463374607431768211456) (w : World) :
    Calls Try.prog 52 #[wideV n, .int .u64 x, .int .u64 y] w fun e w' => e = .returned (wideV (n + x * y)) ∧ Below w.heap.size w w' := by
  have h1 := plus_hl (n / 18446744073709551616) (n % 18446744073709551616) x y _ _ _ _ _ hx hy rfl rfl rfl rfl rfl (by generalize x * y = z at *; omega) w
  refine h1.mono ?_
  rintro e w' ⟨rfl, hb⟩
  refine ⟨?_, hb⟩
  unfold wideV
  generalize x * y = z at *
  have q1 : n / 18446744073709551616 + z / 18446744073709551616 + (n % 18446744073709551616 + z % 18446744073709551616) / 18446744073709551616 = (n + z) / 18446744073709551616 := by omega
  have q2 : (n % 18446744073709551616 + z % 18446744073709551616) % 18446744073709551616 = (n + z) % 18446744073709551616 := by omega
  rw [q1, q2]

end Go.Proofs.Ytdjdalaghfknoaa

/- Numbers of five limbs of 51 bits: carried, times, squared, joined, ones; what they are modulo 2^255 - 19. No program. Each theorem names its own conditions. -/
namespace Go.Proofs.Ytdjdalaghfknoaa
set_option linter.unusedVariables false

/-- Five limbs, the lowest first. -/
structure L5 where
  a : Nat
  b : Nat
  c : Nat
  d : Nat
  e : Nat
/-- The limbs as the code has them. -/
def L5.vs (x : L5) : List Value := [.int .u64 x.a, .int .u64 x.b, .int .u64 x.c, .int .u64 x.d, .int .u64 x.e]
def L5.v (x : L5) : Value := .agg x.vs.toArray
/-- Each limb is below B. -/
def L5.lt (B : Nat) (x : L5) : Prop := x.a < B ∧ x.b < B ∧ x.c < B ∧ x.d < B ∧ x.e < B
/-- The number. -/
def L5.val (x : L5) : Nat := x.a + 2251799813685248 * x.b + 5070602400912917605986812821504 * x.c + 11417981541647679048466287755595961091061972992 * x.d + 25711008708143844408671393477458601640355247900524685364822016 * x.e
theorem L5.vs_one (x : L5) : ∀ v ∈ x.vs, v.oneCell' = true := by
  intro v hv
  simp only [L5.vs, List.mem_cons, List.not_mem_nil, or_false] at hv
  rcases hv with rfl | rfl | rfl | rfl | rfl <;> rfl
theorem L5.lt.mono {B B' : Nat} {x : L5} (h : x.lt B) (hb : B ≤ B') : x.lt B' := ⟨Nat.lt_of_lt_of_le h.1 hb, Nat.lt_of_lt_of_le h.2.1 hb, Nat.lt_of_lt_of_le h.2.2.1 hb, Nat.lt_of_lt_of_le h.2.2.2.1 hb, Nat.lt_of_lt_of_le h.2.2.2.2 hb⟩

/-- What does not fit into a limb handed on once. -/
def carriedL (x : L5) : L5 := ⟨x.a % 2251799813685248 + 19 * (x.e / 2251799813685248), x.b % 2251799813685248 + x.a / 2251799813685248, x.c % 2251799813685248 + x.b / 2251799813685248, x.d % 2251799813685248 + x.c / 2251799813685248, x.e % 2251799813685248 + x.d / 2251799813685248⟩
theorem carriedL_lt (x : L5) (h : x.lt 18446744073709551616) : (carriedL x).lt 2251799813947392 := by
  obtain ⟨h1, h2, h3, h4, h5⟩ := h
  refine ⟨?_, ?_, ?_, ?_, ?_⟩ <;> simp only [carriedL] <;> omega
theorem carriedL_val (x : L5) : Cong ((carriedL x).val : Nat) (x.val : Nat) := by
  refine ⟨-((x.e / 2251799813685248 : Nat) : Int), ?_⟩
  simp only [carriedL, L5.val]
  have hp : pP = 57896044618658097711785492504343953926634992332820282019728792003956564819949 := rfl
  rw [hp]
  omega

/-- The columns of a product. -/
def col0 (x y : L5) : Nat := x.a * y.a + 19 * x.b * y.e + 19 * x.c * y.d + 19 * x.d * y.c + 19 * x.e * y.b
def col1 (x y : L5) : Nat := x.a * y.b + x.b * y.a + 19 * x.c * y.e + 19 * x.d * y.d + 19 * x.e * y.c
def col2 (x y : L5) : Nat := x.a * y.c + x.b * y.b + x.c * y.a + 19 * x.d * y.e + 19 * x.e * y.d
def col3 (x y : L5) : Nat := x.a * y.d + x.b * y.c + x.c * y.b + x.d * y.a + 19 * x.e * y.e
def col4 (x y : L5) : Nat := x.a * y.e + x.b * y.d + x.c * y.c + x.d * y.b + x.e * y.a
/-- The columns handed on once. -/
def rowsL (v w x y z : Nat) : L5 := ⟨v % 2251799813685248 + 19 * (z / 2251799813685248), w % 2251799813685248 + v / 2251799813685248, x % 2251799813685248 + w / 2251799813685248, y % 2251799813685248 + x / 2251799813685248, z % 2251799813685248 + y / 2251799813685248⟩
def timesL (x y : L5) : L5 := carriedL (rowsL (col0 x y) (col1 x y) (col2 x y) (col3 x y) (col4 x y))

theorem mul_lt54 {x y : Nat} (hx : x < 18014398509481984) (hy : y < 18014398509481984) : x * y ≤ 324518553658426690754359001612289 := by
  have := Nat.mul_le_mul (show x ≤ 18014398509481983 by omega) (show y ≤ 18014398509481983 by omega)
  omega
theorem mul_lt54' {x y : Nat} (hx : x < 18014398509481984) (hy : y < 18014398509481984) : 19 * x * y ≤ 6165852519510107124332821030633491 := by
  have := mul_lt54 hx hy
  rw [Nat.mul_assoc]
  omega
theorem cols_lt {x y : L5} (hx : x.lt 18014398509481984) (hy : y.lt 18014398509481984) :
    col0 x y ≤ 77 * 324518553658426690754359001612289 ∧ col1 x y ≤ 77 * 324518553658426690754359001612289 ∧ col2 x y ≤ 77 * 324518553658426690754359001612289 ∧ col3 x y ≤ 77 * 324518553658426690754359001612289 ∧ col4 x y ≤ 5 * 324518553658426690754359001612289 := by
  obtain ⟨x1, x2, x3, x4, x5⟩ := hx
  obtain ⟨y1, y2, y3, y4, y5⟩ := hy
  refine ⟨?_, ?_, ?_, ?_, ?_⟩
  · have := mul_lt54 x1 y1; have := mul_lt54' x2 y5; have := mul_lt54' x3 y4; have := mul_lt54' x4 y3; have := mul_lt54' x5 y2
    unfold col0; omega
  · have := mul_lt54 x1 y2; have := mul_lt54 x2 y1; have := mul_lt54' x3 y5; have := mul_lt54' x4 y4; have := mul_lt54' x5 y3
    unfold col1; omega
  · have := mul_lt54 x1 y3; have := mul_lt54 x2 y2; have := mul_lt54 x3 y1; have := mul_lt54' x4 y5; have := mul_lt54' x5 y4
    unfold col2; omega
  · have := mul_lt54 x1 y4; have := mul_lt54 x2 y3; have := mul_lt54 x3 y2; have := mul_lt54 x4 y1; have := mul_lt54' x5 y5
    unfold col3; omega
  · have := mul_lt54 x1 y5; have := mul_lt54 x2 y4; have := mul_lt54 x3 y3; have := mul_lt54 x4 y2; have := mul_lt54 x5 y1
    unfold col4; omega
theorem rowsL_lt {v w x y z : Nat} (hv : v ≤ 77 * 324518553658426690754359001612289) (hw : w ≤ 77 * 324518553658426690754359001612289) (hx : x ≤ 77 * 324518553658426690754359001612289) (hy : y ≤ 77 * 324518553658426690754359001612289) (hz : z ≤ 5 * 324518553658426690754359001612289) : (rowsL v w x y z).lt 18446744073709551616 := by
  refine ⟨?_, ?_, ?_, ?_, ?_⟩ <;> simp only [rowsL] <;> omega
theorem timesL_lt {x y : L5} (hx : x.lt 18014398509481984) (hy : y.lt 18014398509481984) : (timesL x y).lt 18014398509481984 := by
  obtain ⟨h1, h2, h3, h4, h5⟩ := cols_lt hx hy
  exact (carriedL_lt _ (rowsL_lt h1 h2 h3 h4 h5)).mono (by omega)
theorem rowsL_val (v w x y z : Nat) : Cong ((rowsL v w x y z).val : Nat) ((L5.mk v w x y z).val : Nat) := by
  refine ⟨-((z / 2251799813685248 : Nat) : Int), ?_⟩
  simp only [rowsL, L5.val]
  have hp : pP = 57896044618658097711785492504343953926634992332820282019728792003956564819949 := rfl
  rw [hp]
  omega
theorem cols_ring (R a b c d e f g h i j : Int) : (a * f + 19 * b * j + 19 * c * i + 19 * d * h + 19 * e * g) + R * (a * g + b * f + 19 * c * j + 19 * d * i + 19 * e * h) + R ^ 2 * (a * h + b * g + c * f + 19 * d * j + 19 * e * i) + R ^ 3 * (a * i + b * h + c * g + d * f + 19 * e * j) + R ^ 4 * (a * j + b * i + c * h + d * g + e * f)
    - (a + R * b + R ^ 2 * c + R ^ 3 * d + R ^ 4 * e) * (f + R * g + R ^ 2 * h + R ^ 3 * i + R ^ 4 * j) = (R ^ 5 - 19) * -(b * j + c * i + d * h + e * g + R * (c * j + d * i + e * h) + R ^ 2 * (d * j + e * i) + R ^ 3 * (e * j)) := by grind
theorem val_int (a b c d e : Nat) : (((L5.mk a b c d e).val : Nat) : Int) = (a : Int) + 2251799813685248 * (b : Int) + 5070602400912917605986812821504 * (c : Int) + 11417981541647679048466287755595961091061972992 * (d : Int) + 25711008708143844408671393477458601640355247900524685364822016 * (e : Int) := by
  simp only [L5.val]
  omega
theorem cols_val (x y : L5) : Cong ((L5.mk (col0 x y) (col1 x y) (col2 x y) (col3 x y) (col4 x y)).val : Nat) ((x.val : Int) * (y.val : Nat)) := by
  obtain ⟨a, b, c, d, e⟩ := x
  obtain ⟨f, g, h, i, j⟩ := y
  have key := cols_ring 2251799813685248 a b c d e f g h i j
  have k2 : (2251799813685248 : Int) ^ 2 = 5070602400912917605986812821504 := by decide +kernel
  have k3 : (2251799813685248 : Int) ^ 3 = 11417981541647679048466287755595961091061972992 := by decide +kernel
  have k4 : (2251799813685248 : Int) ^ 4 = 25711008708143844408671393477458601640355247900524685364822016 := by decide +kernel
  have k5 : (2251799813685248 : Int) ^ 5 - 19 = pP := by decide +kernel
  rw [k2, k3, k4, k5] at key
  have c0 : ((col0 ⟨a, b, c, d, e⟩ ⟨f, g, h, i, j⟩ : Nat) : Int) = a * f + 19 * b * j + 19 * c * i + 19 * d * h + 19 * e * g := by simp only [col0, Int.natCast_add, Int.natCast_mul]; rfl
  have c1 : ((col1 ⟨a, b, c, d, e⟩ ⟨f, g, h, i, j⟩ : Nat) : Int) = a * g + b * f + 19 * c * j + 19 * d * i + 19 * e * h := by simp only [col1, Int.natCast_add, Int.natCast_mul]; rfl
  have c2 : ((col2 ⟨a, b, c, d, e⟩ ⟨f, g, h, i, j⟩ : Nat) : Int) = a * h + b * g + c * f + 19 * d * j + 19 * e * i := by simp only [col2, Int.natCast_add, Int.natCast_mul]; rfl
  have c3 : ((col3 ⟨a, b, c, d, e⟩ ⟨f, g, h, i, j⟩ : Nat) : Int) = a * i + b * h + c * g + d * f + 19 * e * j := by simp only [col3, Int.natCast_add, Int.natCast_mul]; rfl
  have c4 : ((col4 ⟨a, b, c, d, e⟩ ⟨f, g, h, i, j⟩ : Nat) : Int) = a * j + b * i + c * h + d * g + e * f := by simp only [col4, Int.natCast_add, Int.natCast_mul]
  rw [val_int, val_int, val_int, c0, c1, c2, c3, c4]
  exact ⟨_, key⟩
theorem timesL_val (x y : L5) : Cong ((timesL x y).val : Nat) ((x.val : Int) * (y.val : Nat)) := (carriedL_val _).trans ((rowsL_val _ _ _ _ _).trans (cols_val x y))

/-- Squared n times. -/
def sqL (x : L5) : Nat → L5
  | 0 => x
  | n + 1 => timesL (sqL x n) (sqL x n)
theorem sqL_lt {x : L5} (hx : x.lt 18014398509481984) : ∀ n, (sqL x n).lt 18014398509481984
  | 0 => hx
  | n + 1 => timesL_lt (sqL_lt hx n) (sqL_lt hx n)
theorem sqL_val (x : L5) {y : Int} {k : Nat} (h : Cong (x.val : Nat) (y ^ k)) : ∀ n, Cong ((sqL x n).val : Nat) (y ^ (k * 2 ^ n))
  | 0 => by simpa [sqL] using h
  | n + 1 => by
    have ih := sqL_val x h n
    have := (timesL_val (sqL x n) (sqL x n)).trans (ih.mul ih)
    rw [← Int.pow_add] at this
    have e : k * 2 ^ n + k * 2 ^ n = k * 2 ^ (n + 1) := by rw [Nat.pow_succ, ← Nat.mul_assoc]; omega
    rwa [e] at this
def joinL (x : L5) (n : Nat) (y : L5) : L5 := timesL (sqL x n) y
theorem joinL_lt {x y : L5} (n : Nat) (hx : x.lt 18014398509481984) (hy : y.lt 18014398509481984) : (joinL x n y).lt 18014398509481984 := timesL_lt (sqL_lt hx n) hy
theorem joinL_val {x y : L5} {z : Int} {k l : Nat} (n : Nat) (hx : Cong (x.val : Nat) (z ^ k)) (hy : Cong (y.val : Nat) (z ^ l)) : Cong ((joinL x n y).val : Nat) (z ^ (k * 2 ^ n + l)) := by
  have := (timesL_val (sqL x n) y).trans ((sqL_val x hx n).mul hy)
  rwa [← Int.pow_add] at this
/-- The chain of joins: 2, 4, 5, 10, 20, 40, 50, 100, 200, 250 ones. -/
def o2 (x : L5) : L5 := joinL x 1 x
def o4 (x : L5) : L5 := joinL (o2 x) 2 (o2 x)
def o5 (x : L5) : L5 := joinL (o4 x) 1 x
def o10 (x : L5) : L5 := joinL (o5 x) 5 (o5 x)
def o20 (x : L5) : L5 := joinL (o10 x) 10 (o10 x)
def o40 (x : L5) : L5 := joinL (o20 x) 20 (o20 x)
def o50 (x : L5) : L5 := joinL (o40 x) 10 (o10 x)
def o100 (x : L5) : L5 := joinL (o50 x) 50 (o50 x)
def o200 (x : L5) : L5 := joinL (o100 x) 100 (o100 x)
def onesL (x : L5) : L5 := joinL (o200 x) 50 (o50 x)
theorem o2_lt {x : L5} (h : x.lt 18014398509481984) : (o2 x).lt 18014398509481984 := joinL_lt _ h h
theorem o4_lt {x : L5} (h : x.lt 18014398509481984) : (o4 x).lt 18014398509481984 := joinL_lt _ (o2_lt h) (o2_lt h)
theorem o5_lt {x : L5} (h : x.lt 18014398509481984) : (o5 x).lt 18014398509481984 := joinL_lt _ (o4_lt h) h
theorem o10_lt {x : L5} (h : x.lt 18014398509481984) : (o10 x).lt 18014398509481984 := joinL_lt _ (o5_lt h) (o5_lt h)
theorem o20_lt {x : L5} (h : x.lt 18014398509481984) : (o20 x).lt 18014398509481984 := joinL_lt _ (o10_lt h) (o10_lt h)
theorem o40_lt {x : L5} (h : x.lt 18014398509481984) : (o40 x).lt 18014398509481984 := joinL_lt _ (o20_lt h) (o20_lt h)
theorem o50_lt {x : L5} (h : x.lt 18014398509481984) : (o50 x).lt 18014398509481984 := joinL_lt _ (o40_lt h) (o10_lt h)
theorem o100_lt {x : L5} (h : x.lt 18014398509481984) : (o100 x).lt 18014398509481984 := joinL_lt _ (o50_lt h) (o50_lt h)
theorem o200_lt {x : L5} (h : x.lt 18014398509481984) : (o200 x).lt 18014398509481984 := joinL_lt _ (o100_lt h) (o100_lt h)
theorem onesL_lt {x : L5} (h : x.lt 18014398509481984) : (onesL x).lt 18014398509481984 := joinL_lt _ (o200_lt h) (o50_lt h)
theorem pow1 (z : Int) : z = z ^ 1 := by rw [Int.pow_succ, Int.pow_zero, Int.one_mul]
theorem onesL_val {x : L5} {z : Int} (h : Cong (x.val : Nat) z) : Cong ((onesL x).val : Nat) (z ^ (2 ^ 250 - 1)) := by
  have h1 : Cong (x.val : Nat) (z ^ 1) := by rw [← pow1]; exact h
  have h2 : Cong ((o2 x).val : Nat) (z ^ 3) := joinL_val 1 h1 h1
  have h4 : Cong ((o4 x).val : Nat) (z ^ 15) := joinL_val 2 h2 h2
  have h5 : Cong ((o5 x).val : Nat) (z ^ 31) := joinL_val 1 h4 h1
  have h10 : Cong ((o10 x).val : Nat) (z ^ 1023) := joinL_val 5 h5 h5
  have h20 : Cong ((o20 x).val : Nat) (z ^ 1048575) := joinL_val 10 h10 h10
  have h40 : Cong ((o40 x).val : Nat) (z ^ 1099511627775) := joinL_val 20 h20 h20
  have h50 : Cong ((o50 x).val : Nat) (z ^ 1125899906842623) := joinL_val 10 h40 h10
  have h100 : Cong ((o100 x).val : Nat) (z ^ 1267650600228229401496703205375) := joinL_val 50 h50 h50
  have h200 : Cong ((o200 x).val : Nat) (z ^ 1606938044258990275541962092341162602522202993782792835301375) := joinL_val 100 h100 h100
  exact joinL_val 50 h200 h50

end Go.Proofs.Ytdjdalaghfknoaa

/- The walks of the code's limbs: carried. Each theorem names its own conditions. -/
namespace Go.Proofs.Ytdjdalaghfknoaa
open Go.RowKit
set_option linter.unusedVariables false
set_option linter.unusedSimpArgs false

theorem Try.arr61 : (Try.prog.info? 61).map (·.size) = some 5 := by kernel_rfl
def zero5 : List Value := [.int .u64 0, .int .u64 0, .int .u64 0, .int .u64 0, .int .u64 0]
theorem one5 (a b c d e : Int) : ∀ v ∈ [Value.int .u64 a, .int .u64 b, .int .u64 c, .int .u64 d, .int .u64 e], v.oneCell' = true := by
  intro v hv
  simp only [List.mem_cons, List.not_mem_nil, or_false] at hv
  rcases hv with rfl | rfl | rfl | rfl | rfl <;> rfl
theorem nat51 (a : Nat) : (a : Int) / 2251799813685248 = ((a / 2251799813685248 : Nat) : Int) := by omega
theorem carry0 (a e : Nat) (ha : a < 18446744073709551616) (he : e < 18446744073709551616) : IntKind.u64.wrap (bits .and .u64 (a : Int) 2251799813685247 + IntKind.u64.wrap (19 * ((e : Int) / 2251799813685248))) = ((a % 2251799813685248 + 19 * (e / 2251799813685248) : Nat) : Int) := by
  rw [mask51 a ha, nat51, IntKind.wrap_u64, IntKind.wrap_u64]
  omega
theorem carry1 (a e : Nat) (ha : a < 18446744073709551616) (he : e < 18446744073709551616) : IntKind.u64.wrap (bits .and .u64 (a : Int) 2251799813685247 + (e : Int) / 2251799813685248) = ((a % 2251799813685248 + e / 2251799813685248 : Nat) : Int) := by
  rw [mask51 a ha, nat51, IntKind.wrap_u64]
  omega

set_option maxHeartbeats 2000000 in
theorem carried_any (x : L5) (hx : x.lt 18446744073709551616) (w : World) :
    Calls Try.prog 49 #[x.v] w fun e w' => e = .returned (carriedL x).v ∧ Below w.heap.size w w' := by
  obtain ⟨a, b, c, d, e⟩ := x
  obtain ⟨h1, h2, h3, h4, h5⟩ := hx
  have r0 := Lib.hid (carry0 a e h1 h5)
  have r1 := Lib.hid (carry1 b a h2 h1)
  have r2 := Lib.hid (carry1 c b h3 h2)
  have r3 := Lib.hid (carry1 d c h4 h3)
  have r4 := Lib.hid (carry1 e d h5 h4)
  have HB := Lib.hid (boxes2 w [.int .u64 a, .int .u64 b, .int .u64 c, .int .u64 d, .int .u64 e] zero5 61 61)
  clear h1 h2 h3 h4 h5
  unfold L5.v L5.vs
  go_enter Try.func49, Try.ntmps49
  go_wp2_with (refine wpList_store_blk rfl _ _ _ rfl (w.heap.size + 1) [.int .u64 (IntKind.u64.wrap (bits .and .u64 (a : Int) 2251799813685247 + IntKind.u64.wrap (19 * ((e : Int) / 2251799813685248)))), .int .u64 (IntKind.u64.wrap (bits .and .u64 (b : Int) 2251799813685247 + (a : Int) / 2251799813685248)), .int .u64 (IntKind.u64.wrap (bits .and .u64 (c : Int) 2251799813685247 + (b : Int) / 2251799813685248)), .int .u64 (IntKind.u64.wrap (bits .and .u64 (d : Int) 2251799813685247 + (c : Int) / 2251799813685248)), .int .u64 (IntKind.u64.wrap (bits .and .u64 (e : Int) 2251799813685247 + (d : Int) / 2251799813685248))] rfl rfl _ _ HB.out.2.1 rfl Try.arr61 (one5 _ _ _ _ _) ?_; intro w5 hb5 hg5)
  rw [r0.out, r1.out, r2.out, r3.out, r4.out] at hb5
  exact bodyPost_ret (v := (carriedL ⟨a, b, c, d, e⟩).v) (result_row (by rfl) _ (w.heap.size + 1) _ _ _ (by rfl) hb5 Try.underlying61 rfl Try.arr61) rfl ⟨rfl, ext_grown HB.out.2.2 hg5 (by omega)⟩

end Go.Proofs.Ytdjdalaghfknoaa

/- The walks of the code's words of 8 bytes: word, putWord. Each theorem names its own conditions. -/
namespace Go.Proofs.Ytdjdalaghfknoaa
open Go.RowKit
set_option linter.unusedVariables false
set_option linter.unusedSimpArgs false

/-- Eight bytes as a number. -/
def w8 (a b c d e f g h : Nat) : Nat := a + 256 * b + 65536 * c + 16777216 * d + 4294967296 * e + 1099511627776 * f + 281474976710656 * g + 72057594037927936 * h
theorem word_math (a b c d e f g h : Nat) (ha : a < 256) (hb : b < 256) (hc : c < 256) (hd : d < 256) (he : e < 256) (hf : f < 256) (hg : g < 256) (hh : h < 256) :
    bits .or .u64 (bits .or .u64 (bits .or .u64 (bits .or .u64 (bits .or .u64 (bits .or .u64 (bits .or .u64 (a : Int) (IntKind.u64.wrap ((b : Int) * 256))) (IntKind.u64.wrap ((c : Int) * 65536))) (IntKind.u64.wrap ((d : Int) * 16777216))) (IntKind.u64.wrap ((e : Int) * 4294967296))) (IntKind.u64.wrap ((f : Int) * 1099511627776))) (IntKind.u64.wrap ((g : Int) * 281474976710656))) (IntKind.u64.wrap ((h : Int) * 72057594037927936)) = ((w8 a b c d e f g h : Nat) : Int) := by
  have sh : ∀ (k x y : Nat), x < 2 ^ k → 2 ^ k * y + x < 18446744073709551616 → bits .or .u64 (x : Int) (((2 ^ k * y : Nat)) : Int) = ((2 ^ k * y + x : Nat) : Int) := fun k x y hx hs => by
    rw [or64 _ _ (by omega) (by omega), Nat.or_comm, or_sum k x y hx]
  have cv : ∀ (y m : Nat), y * m < 18446744073709551616 → IntKind.u64.wrap ((y : Int) * (m : Int)) = ((m * y : Nat) : Int) := fun y m h => by
    rw [natMul, w64 h, Nat.mul_comm]
  have q1 := cv b 256 (by omega)
  have q2 := cv c 65536 (by omega)
  have q3 := cv d 16777216 (by omega)
  have q4 := cv e 4294967296 (by omega)
  have q5 := cv f 1099511627776 (by omega)
  have q6 := cv g 281474976710656 (by omega)
  have q7 := cv h 72057594037927936 (by omega)
  simp only [Int.cast_ofNat_Int] at q1 q2 q3 q4 q5 q6 q7
  rw [q1, q2, q3, q4, q5, q6, q7]
  rw [sh 8 a b (by omega) (by omega), sh 16 (2 ^ 8 * b + a) c (by omega) (by omega), sh 24 (2 ^ 16 * c + (2 ^ 8 * b + a)) d (by omega) (by omega), sh 32 (2 ^ 24 * d + (2 ^ 16 * c + (2 ^ 8 * b + a))) e (by omega) (by omega),
    sh 40 (2 ^ 32 * e + (2 ^ 24 * d + (2 ^ 16 * c + (2 ^ 8 * b + a)))) f (by omega) (by omega), sh 48 (2 ^ 40 * f + (2 ^ 32 * e + (2 ^ 24 * d + (2 ^ 16 * c + (2 ^ 8 * b + a))))) g (by omega) (by omega), sh 56 (2 ^ 48 * g + (2 ^ 40 * f + (2 ^ 32 * e + (2 ^ 24 * d + (2 ^ 16 * c + (2 ^ 8 * b + a)))))) h (by omega) (by omega)]
  unfold w8
  omega

set_option maxHeartbeats 2000000 in
theorem word_any (p off cap : Nat) (a b c d e f g h : Nat) (ha : a < 256) (hb : b < 256) (hc : c < 256) (hd : d < 256) (he : e < 256) (hf : f < 256) (hg : g < 256) (hh : h < 256) (w : World)
    (c0 : w.cell? ⟨p, off, none⟩ = some (.int .u8 a)) (c1 : w.cell? ⟨p, off + 1, none⟩ = some (.int .u8 b)) (c2 : w.cell? ⟨p, off + 2, none⟩ = some (.int .u8 c)) (c3 : w.cell? ⟨p, off + 3, none⟩ = some (.int .u8 d))
    (c4 : w.cell? ⟨p, off + 4, none⟩ = some (.int .u8 e)) (c5 : w.cell? ⟨p, off + 5, none⟩ = some (.int .u8 f)) (c6 : w.cell? ⟨p, off + 6, none⟩ = some (.int .u8 g)) (c7 : w.cell? ⟨p, off + 7, none⟩ = some (.int .u8 h)) :
    Calls Try.prog 54 #[.slice (some ⟨p, off, none⟩) 8 cap] w fun e' w' => e' = .returned (.int .u64 ((w8 a b c d e f g h : Nat) : Int)) ∧ Below w.heap.size w w' := by
  have HM := Lib.hid (word_math a b c d e f g h ha hb hc hd he hf hg hh)
  have m1 : IntKind.u64.wrap (a : Int) = a := w64 (by omega)
  have m2 : IntKind.u64.wrap (b : Int) = b := w64 (by omega)
  have m3 : IntKind.u64.wrap (c : Int) = c := w64 (by omega)
  have m4 : IntKind.u64.wrap (d : Int) = d := w64 (by omega)
  have m5 : IntKind.u64.wrap (e : Int) = e := w64 (by omega)
  have m6 : IntKind.u64.wrap (f : Int) = f := w64 (by omega)
  have m7 : IntKind.u64.wrap (g : Int) = g := w64 (by omega)
  have m8 : IntKind.u64.wrap (h : Int) = h := w64 (by omega)
  clear ha hb hc hd he hf hg hh
  go_enter Try.func54, Try.ntmps54
  go_wp2_with fail
  go_quiet (fail)
  go_wp2_with fail
  go_ret
  refine ⟨?_, below_drewN (Below.refl _ _) _⟩
  rw [← HM.out]
  rfl

/-- The bytes of a word. -/
def b8 (n : Nat) : List Value := [.int .u8 ((n : Int) % 256), .int .u8 ((n : Int) / 256 % 256), .int .u8 ((n : Int) / 65536 % 256), .int .u8 ((n : Int) / 16777216 % 256), .int .u8 ((n : Int) / 4294967296 % 256), .int .u8 ((n : Int) / 1099511627776 % 256), .int .u8 ((n : Int) / 281474976710656 % 256), .int .u8 ((n : Int) / 72057594037927936 % 256)]
theorem b8_one (n : Nat) : ∀ v ∈ b8 n, v.oneCell' = true := by
  intro v hv
  simp only [b8, List.mem_cons, List.not_mem_nil, or_false] at hv
  rcases hv with rfl | rfl | rfl | rfl | rfl | rfl | rfl | rfl <;> rfl
theorem wrap8 (n : Nat) : IntKind.u8.wrap (n : Int) = ((n % 256 : Nat) : Int) := by rw [IntKind.wrap_u8]; omega

set_option maxHeartbeats 2000000 in
theorem putWord_any (p off cap n : Nat) (cs : List Value) (tb : TypeId) (w : World) (hb : Blk w p cs tb) (hl : off + 8 ≤ cs.length) :
    Calls Try.prog 50 #[.slice (some ⟨p, off, none⟩) 8 cap, .int .u64 (n : Int)] w fun e' w' => e' = .returned (.tuple #[]) ∧ Blk w' p (laid cs off (b8 n)) tb ∧ w.grownBy w' (some p) := by
  have HB := Lib.hid hb
  have cell : ∀ i, off + i < cs.length → ∃ v, w.cell? ⟨p, off + i, none⟩ = some v := fun i hi => ⟨_, (hb.cell _).trans (List.getElem?_eq_getElem hi)⟩
  obtain ⟨v0, c0⟩ := cell 0 (by omega)
  obtain ⟨v1, c1⟩ := cell 1 (by omega)
  obtain ⟨v2, c2⟩ := cell 2 (by omega)
  obtain ⟨v3, c3⟩ := cell 3 (by omega)
  obtain ⟨v4, c4⟩ := cell 4 (by omega)
  obtain ⟨v5, c5⟩ := cell 5 (by omega)
  obtain ⟨v6, c6⟩ := cell 6 (by omega)
  obtain ⟨v7, c7⟩ := cell 7 (by omega)
  have f0 := hb.free off
  have f1 := hb.free (off + 1)
  have f2 := hb.free (off + 2)
  have f3 := hb.free (off + 3)
  have f4 := hb.free (off + 4)
  have f5 := hb.free (off + 5)
  have f6 := hb.free (off + 6)
  have f7 := hb.free (off + 7)
  rw [Nat.add_zero] at c0
  clear hb hl cell
  go_enter Try.func50, Try.ntmps50
  go_wp2_with fail
  have h1 := Blk.setCells (b8 n) cs off w HB.out
  have h2 := grownBy_setCells (b8 n) off w w (c := p) (grownBy_refl w _)
  exact bodyPost_end (v := .tuple #[]) (results_none (by rfl) _ _ _) rfl ⟨rfl, h1, h2⟩

end Go.Proofs.Ytdjdalaghfknoaa

/- The walk of the code's limbs of a number. Each theorem names its own conditions. -/
namespace Go.Proofs.Ytdjdalaghfknoaa
open Go.RowKit
set_option linter.unusedVariables false
set_option linter.unusedSimpArgs false

def wAt (l : List UInt8) (o : Nat) : Nat := w8 (l.getD o 0).toNat (l.getD (o + 1) 0).toNat (l.getD (o + 2) 0).toNat (l.getD (o + 3) 0).toNat (l.getD (o + 4) 0).toNat (l.getD (o + 5) 0).toNat (l.getD (o + 6) 0).toNat (l.getD (o + 7) 0).toNat
theorem wAt_lt (l : List UInt8) (o : Nat) : wAt l o < 18446744073709551616 := by
  unfold wAt w8
  have h0 := (l.getD o 0).toNat_lt
  have h1 := (l.getD (o + 1) 0).toNat_lt
  have h2 := (l.getD (o + 2) 0).toNat_lt
  have h3 := (l.getD (o + 3) 0).toNat_lt
  have h4 := (l.getD (o + 4) 0).toNat_lt
  have h5 := (l.getD (o + 5) 0).toNat_lt
  have h6 := (l.getD (o + 6) 0).toNat_lt
  have h7 := (l.getD (o + 7) 0).toNat_lt
  omega
theorem word_blk (p off cap : Nat) (l : List UInt8) (tb : TypeId) (w : World) (hb : Blk w p (l.map bval) tb) (hl : l.length = 32) (ho : off + 8 ≤ 32) :
    Calls Try.prog 54 #[.slice (some ⟨p, off, none⟩) 8 cap] w fun e' w' => e' = .returned (.int .u64 ((wAt l off : Nat) : Int)) ∧ Below w.heap.size w w' := by
  have c : ∀ i, i < 8 → w.cell? ⟨p, off + i, none⟩ = some (.int .u8 ((l.getD (off + i) 0).toNat : Int)) := fun i hi => (hb.cell _).trans (bval_get (by omega))
  exact word_any p off cap _ _ _ _ _ _ _ _ (UInt8.toNat_lt _) (UInt8.toNat_lt _) (UInt8.toNat_lt _) (UInt8.toNat_lt _) (UInt8.toNat_lt _) (UInt8.toNat_lt _) (UInt8.toNat_lt _) (UInt8.toNat_lt _) w (c 0 (by omega)) (c 1 (by omega)) (c 2 (by omega)) (c 3 (by omega)) (c 4 (by omega)) (c 5 (by omega)) (c 6 (by omega)) (c 7 (by omega))

/-- The limbs of four words. -/
def limbsW (a b c d : Nat) : L5 := ⟨a % 2251799813685248 + 19 * (d / 9223372036854775808), (8192 * (b % 2251799813685248) + a / 2251799813685248) % 2251799813685248, (67108864 * (c % 274877906944) + b / 274877906944) % 2251799813685248, (549755813888 * (d % 33554432) + c / 33554432) % 2251799813685248, d / 4096 % 2251799813685248⟩
theorem limbsW_lt {a b c d : Nat} (hd : d < 18446744073709551616) : (limbsW a b c d).lt 18014398509481984 := by
  refine ⟨?_, ?_, ?_, ?_, ?_⟩ <;> simp only [limbsW] <;> omega
theorem limbsW_val {a b c d : Nat} (ha : a < 18446744073709551616) (hb : b < 18446744073709551616) (hc : c < 18446744073709551616) (hd : d < 18446744073709551616) :
    (limbsW a b c d).val + 57896044618658097711785492504343953926634992332820282019728792003956564819949 * (d / 9223372036854775808) = a + 18446744073709551616 * b + 340282366920938463463374607431768211456 * c + 6277101735386680763835789423207666416102355444464034512896 * d := by
  have e1 : (8192 * (b % 2251799813685248) + a / 2251799813685248) % 2251799813685248 = 8192 * (b % 274877906944) + a / 2251799813685248 := by omega
  have e2 : (67108864 * (c % 274877906944) + b / 274877906944) % 2251799813685248 = 67108864 * (c % 33554432) + b / 274877906944 := by omega
  have e3 : (549755813888 * (d % 33554432) + c / 33554432) % 2251799813685248 = 549755813888 * (d % 4096) + c / 33554432 := by omega
  have e4 : d / 4096 % 2251799813685248 + 2251799813685248 * (d / 9223372036854775808) = d / 4096 := by omega
  simp only [limbsW, L5.val]
  rw [e1, e2, e3]
  omega
/-- The limbs of a number of 32 bytes. -/
def limbsL (l : List UInt8) : L5 := limbsW (wAt l 0) (wAt l 8) (wAt l 16) (wAt l 24)
theorem limbsL_lt (l : List UInt8) : (limbsL l).lt 18014398509481984 := limbsW_lt (wAt_lt l 24)
theorem leN8 (a b c d e f g h : UInt8) (r : List UInt8) : leN (a :: b :: c :: d :: e :: f :: g :: h :: r) = w8 a.toNat b.toNat c.toNat d.toNat e.toNat f.toNat g.toNat h.toNat + 18446744073709551616 * leN r := by
  simp only [leN, w8]
  omega
theorem leN_words (l : List UInt8) (hl : l.length = 32) : leN l = wAt l 0 + 18446744073709551616 * wAt l 8 + 340282366920938463463374607431768211456 * wAt l 16 + 6277101735386680763835789423207666416102355444464034512896 * wAt l 24 := by
  have e : leN l = leN [l.getD 0 0, l.getD 1 0, l.getD 2 0, l.getD 3 0, l.getD 4 0, l.getD 5 0, l.getD 6 0, l.getD 7 0, l.getD 8 0, l.getD 9 0, l.getD 10 0, l.getD 11 0, l.getD 12 0, l.getD 13 0, l.getD 14 0, l.getD 15 0, l.getD 16 0, l.getD 17 0, l.getD 18 0, l.getD 19 0, l.getD 20 0, l.getD 21 0, l.getD 22 0, l.getD 23 0, l.getD 24 0, l.getD 25 0, l.getD 26 0, l.getD 27 0, l.getD 28 0, l.getD 29 0, l.getD 30 0, l.getD 31 0] := by rw [← bytes32 l hl]
  rw [e, leN8, leN8, leN8, leN8]
  have e0 : leN [] = 0 := rfl
  rw [e0]
  show wAt l 0 + 18446744073709551616 * (wAt l 8 + 18446744073709551616 * (wAt l 16 + 18446744073709551616 * (wAt l 24 + 18446744073709551616 * 0))) = _
  generalize wAt l 0 = x0
  generalize wAt l 8 = x1
  generalize wAt l 16 = x2
  generalize wAt l 24 = x3
  omega
theorem limbsL_val (l : List UInt8) (hl : l.length = 32) : Cong ((limbsL l).val : Nat) (leN l : Nat) := by
  have h := limbsW_val (wAt_lt l 0) (wAt_lt l 8) (wAt_lt l 16) (wAt_lt l 24)
  rw [leN_words l hl, ← h]
  refine ⟨-((wAt l 24 / 9223372036854775808 : Nat) : Int), ?_⟩
  have hp : pP = 57896044618658097711785492504343953926634992332820282019728792003956564819949 := rfl
  rw [hp]
  unfold limbsL
  generalize (limbsW (wAt l 0) (wAt l 8) (wAt l 16) (wAt l 24)).val = v
  generalize wAt l 24 / 9223372036854775808 = q
  omega
theorem lw0 (a d : Nat) (ha : a < 18446744073709551616) (hd : d < 18446744073709551616) : IntKind.u64.wrap (bits .and .u64 (a : Int) 2251799813685247 + IntKind.u64.wrap (19 * ((d : Int) / 9223372036854775808))) = ((a % 2251799813685248 + 19 * (d / 9223372036854775808) : Nat) : Int) := by
  rw [mask51 a ha, IntKind.wrap_u64, IntKind.wrap_u64]
  omega
theorem lwm (a b k m r s : Nat) (i : Nat) (ha : a < 18446744073709551616) (hb : b < 18446744073709551616) (hr : r = 2 ^ i) (hx : a / k < r) (hs : r * s = 18446744073709551616) :
    bits .and .u64 (bits .or .u64 ((a / k : Nat) : Int) (IntKind.u64.wrap ((b : Int) * (r : Int)))) 2251799813685247 = (((r * (b % s) + a / k) % 2251799813685248 : Nat) : Int) := by
  have e1 : IntKind.u64.wrap ((b : Int) * (r : Int)) = ((r * (b % s) : Nat) : Int) := by
    rw [natMul, w64m, ← hs, Nat.mul_comm b r, Nat.mul_mod_mul_left]
  have hb2 : b % s < s := Nat.mod_lt _ (by rcases Nat.eq_zero_or_pos s with h | h; (subst h; simp at hs); exact h)
  have hb3 : r * (b % s) + r ≤ 18446744073709551616 := by
    rw [← hs, ← Nat.mul_succ]
    exact Nat.mul_le_mul_left _ hb2
  have h0 : a / k ≤ a := Nat.div_le_self _ _
  have h00 : 0 < r := Nat.lt_of_le_of_lt (Nat.zero_le _) hx
  rw [e1, or64 _ _ (by omega) (by omega), Nat.or_comm]
  rw [hr] at hx hb3 ⊢
  rw [or_sum i _ _ hx, mask51 _ (by omega)]
theorem lw4 (d : Nat) (hd : d < 18446744073709551616) : bits .and .u64 ((d : Int) / 4096) 2251799813685247 = ((d / 4096 % 2251799813685248 : Nat) : Int) := by
  have : (d : Int) / 4096 = ((d / 4096 : Nat) : Int) := by omega
  rw [this, mask51 _ (by omega)]

set_option maxRecDepth 100000 in
set_option maxHeartbeats 4000000 in
theorem limbsOf_any (l : List UInt8) (hl : l.length = 32) (w : World) :
    Calls Try.prog 38 #[.agg (l.map bval).toArray] w fun e w' => e = .returned (limbsL l).v ∧ Below w.heap.size w w' := by
  have HL := Lib.hid hl
  have HB := Lib.hid (boxes2 w (l.map bval) zero5 23 61)
  clear hl
  go_enter Try.func38, Try.ntmps38
  go_wp2_with fail
  change Code.wp _ _ _ _ ((w.alloc (.cells (l.map bval).toArray 23)).alloc (.cells zero5.toArray 61))
  generalize (w.alloc (.cells (l.map bval).toArray 23)).alloc (.cells zero5.toArray 61) = w0 at *
  obtain ⟨h1, h2, h4⟩ := HB.out
  obtain ⟨A, hA⟩ : ∃ A, A = w.heap.size := ⟨_, rfl⟩
  rw [← hA] at h1 h2 ⊢
  have hA2 : w.heap.size ≤ A := by omega
  have H1 := Lib.hid h1
  have H2 := Lib.hid h2
  have HE : Hid (Ext w w0) := Lib.hid h4
  clear h1 h2 h4 HB hA
  refine wp_region_from 12 0 12 rfl (by kernel_rfl) (by kernel_rfl) (fun d v c a w h => by cases d <;> exact h) (by kernel_rfl) ?_
  refine det_val (.slice (some ⟨A, 0, none⟩) 8 32) (by rfl) (fun w hw => by go_simp) ?_
  simp only [Act.put, List.setIfInBounds_toArray, List.set_cons_zero, List.set_cons_succ]
  refine det_call _ _ _ [.slice (some ⟨A, 0, none⟩) 8 32] (.int .u64 ((wAt l 0 : Nat) : Int)) (by rfl) rfl Try.call54 rfl (fun w hw => word_blk A 0 32 l 23 w (ext_blk H1.out hw) HL.out (by omega)) ?_
  simp only [Act.put, List.setIfInBounds_toArray, List.set_cons_zero, List.set_cons_succ]
  refine det_val (.slice (some ⟨A, 8, none⟩) 8 24) (by rfl) (fun w hw => by go_simp) ?_
  simp only [Act.put, List.setIfInBounds_toArray, List.set_cons_zero, List.set_cons_succ]
  refine det_call _ _ _ [.slice (some ⟨A, 8, none⟩) 8 24] (.int .u64 ((wAt l 8 : Nat) : Int)) (by rfl) rfl Try.call54 rfl (fun w hw => word_blk A 8 24 l 23 w (ext_blk H1.out hw) HL.out (by omega)) ?_
  simp only [Act.put, List.setIfInBounds_toArray, List.set_cons_zero, List.set_cons_succ]
  refine det_val (.slice (some ⟨A, 16, none⟩) 8 16) (by rfl) (fun w hw => by go_simp) ?_
  simp only [Act.put, List.setIfInBounds_toArray, List.set_cons_zero, List.set_cons_succ]
  refine det_call _ _ _ [.slice (some ⟨A, 16, none⟩) 8 16] (.int .u64 ((wAt l 16 : Nat) : Int)) (by rfl) rfl Try.call54 rfl (fun w hw => word_blk A 16 16 l 23 w (ext_blk H1.out hw) HL.out (by omega)) ?_
  simp only [Act.put, List.setIfInBounds_toArray, List.set_cons_zero, List.set_cons_succ]
  refine det_val (.slice (some ⟨A, 24, none⟩) 8 8) (by rfl) (fun w hw => by go_simp) ?_
  simp only [Act.put, List.setIfInBounds_toArray, List.set_cons_zero, List.set_cons_succ]
  refine det_call _ _ _ [.slice (some ⟨A, 24, none⟩) 8 8] (.int .u64 ((wAt l 24 : Nat) : Int)) (by rfl) rfl Try.call54 rfl (fun w hw => word_blk A 24 8 l 23 w (ext_blk H1.out hw) HL.out (by omega)) ?_
  simp only [Act.put, List.setIfInBounds_toArray, List.set_cons_zero, List.set_cons_succ]
  refine det_assign _ (.int .u64 ((wAt l 0 : Nat) : Int)) (by rfl) rfl rfl ?_
  simp only [Act.put, List.setIfInBounds_toArray, List.set_cons_zero, List.set_cons_succ]
  refine det_assign _ (.int .u64 ((wAt l 8 : Nat) : Int)) (by rfl) rfl rfl ?_
  simp only [Act.put, List.setIfInBounds_toArray, List.set_cons_zero, List.set_cons_succ]
  refine det_assign _ (.int .u64 ((wAt l 16 : Nat) : Int)) (by rfl) rfl rfl ?_
  simp only [Act.put, List.setIfInBounds_toArray, List.set_cons_zero, List.set_cons_succ]
  refine det_assign _ (.int .u64 ((wAt l 24 : Nat) : Int)) (by rfl) rfl rfl ?_
  simp only [Act.put, List.setIfInBounds_toArray, List.set_cons_zero, List.set_cons_succ]
  refine det_nil (end_none (by kernel_rfl) (fun w1 hw1 => ?_))
  have H2 := Lib.hid (ext_blk H2.out hw1)
  have HE := Lib.hid (HE.out.trans hw1)
  have g0 := wAt_lt l 0
  have g1 := wAt_lt l 8
  have g2 := wAt_lt l 16
  have g3 := wAt_lt l 24
  have HL5 : Hid (limbsL l = limbsW (wAt l 0) (wAt l 8) (wAt l 16) (wAt l 24)) := Lib.hid rfl
  clear hw1 H1
  generalize wAt l 0 = x0 at *
  generalize wAt l 8 = x1 at *
  generalize wAt l 16 = x2 at *
  generalize wAt l 24 = x3 at *
  have R0 := Lib.hid (lw0 x0 x3 g0 g3)
  have R1 : Hid (bits .and .u64 (bits .or .u64 ((x0 : Int) / 2251799813685248) (IntKind.u64.wrap ((x1 : Int) * 8192))) 2251799813685247 = (((8192 * (x1 % 2251799813685248) + x0 / 2251799813685248) % 2251799813685248 : Nat) : Int)) := Lib.hid (lwm x0 x1 2251799813685248 0 8192 2251799813685248 13 g0 g1 rfl (by omega) rfl)
  have R2 : Hid (bits .and .u64 (bits .or .u64 ((x1 : Int) / 274877906944) (IntKind.u64.wrap ((x2 : Int) * 67108864))) 2251799813685247 = (((67108864 * (x2 % 274877906944) + x1 / 274877906944) % 2251799813685248 : Nat) : Int)) := Lib.hid (lwm x1 x2 274877906944 0 67108864 274877906944 26 g1 g2 rfl (by omega) rfl)
  have R3 : Hid (bits .and .u64 (bits .or .u64 ((x2 : Int) / 33554432) (IntKind.u64.wrap ((x3 : Int) * 549755813888))) 2251799813685247 = (((549755813888 * (x3 % 33554432) + x2 / 33554432) % 2251799813685248 : Nat) : Int)) := Lib.hid (lwm x2 x3 33554432 0 549755813888 33554432 39 g2 g3 rfl (by omega) rfl)
  have R4 := Lib.hid (lw4 x3 g3)
  clear g0 g1 g2 g3
  go_wp2_with (refine wpList_store_blk rfl _ _ _ rfl (A + 1) [.int .u64 _, .int .u64 _, .int .u64 _, .int .u64 _, .int .u64 _] rfl rfl _ _ H2.out rfl Try.arr61 (one5 _ _ _ _ _) ?_; intro w5 hb5 hg5)
  rw [R0.out, R1.out, R2.out, R3.out, R4.out] at hb5
  exact bodyPost_ret (v := (limbsW x0 x1 x2 x3).v) (result_row (by rfl) _ (A + 1) _ _ _ (by rfl) hb5 Try.underlying61 rfl Try.arr61) rfl ⟨by rw [HL5.out], ext_grown HE.out hg5 (by omega)⟩

end Go.Proofs.Ytdjdalaghfknoaa

/- How limbs become the 32 bytes of a number below 2^255 - 19: the arithmetic. No program. Each theorem names its own conditions. -/
namespace Go.Proofs.Ytdjdalaghfknoaa
open Go.RowKit
set_option linter.unusedVariables false

theorem out_steps {x0 x1 x2 x3 x4 r1 r2 r3 r4 r5 c1 c2 c3 c4 c5 y0 y1 y2 y3 y4 : Nat} (b0 : x0 < 2251799813947392) (b1 : x1 < 2251799813947392) (b2 : x2 < 2251799813947392) (b3 : x3 < 2251799813947392) (b4 : x4 < 2251799813947392)
    (h1 : r1 = (19 + x0) / 2251799813685248) (h2 : r2 = (r1 + x1) / 2251799813685248) (h3 : r3 = (r2 + x2) / 2251799813685248) (h4 : r4 = (r3 + x3) / 2251799813685248) (h5 : r5 = (r4 + x4) / 2251799813685248)
    (g1 : c1 = (19 * r5 + x0) / 2251799813685248) (g2 : c2 = (c1 + x1) / 2251799813685248) (g3 : c3 = (c2 + x2) / 2251799813685248) (g4 : c4 = (c3 + x3) / 2251799813685248) (g5 : c5 = (c4 + x4) / 2251799813685248)
    (f0 : y0 = (19 * r5 + x0) % 2251799813685248) (f1 : y1 = (c1 + x1) % 2251799813685248) (f2 : y2 = (c2 + x2) % 2251799813685248) (f3 : y3 = (c3 + x3) % 2251799813685248) (f4 : y4 = (c4 + x4) % 2251799813685248) :
    (L5.mk y0 y1 y2 y3 y4).val = (L5.mk x0 x1 x2 x3 x4).val % 57896044618658097711785492504343953926634992332820282019728792003956564819949 := by
  have e1 : (L5.mk y0 y1 y2 y3 y4).val + 57896044618658097711785492504343953926634992332820282019728792003956564819968 * c5 = 19 * r5 + (L5.mk x0 x1 x2 x3 x4).val := by
    simp only [L5.val]
    omega
  have e2 : (L5.mk y0 y1 y2 y3 y4).val < 57896044618658097711785492504343953926634992332820282019728792003956564819968 := by
    simp only [L5.val]
    omega
  have e3 : 57896044618658097711785492504343953926634992332820282019728792003956564819968 * r5 ≤ 19 + (L5.mk x0 x1 x2 x3 x4).val ∧ 19 + (L5.mk x0 x1 x2 x3 x4).val < 57896044618658097711785492504343953926634992332820282019728792003956564819968 * r5 + 57896044618658097711785492504343953926634992332820282019728792003956564819968 := by
    simp only [L5.val]
    omega
  have e4 : (L5.mk x0 x1 x2 x3 x4).val < 115792089237316195423570985008687907853269984665640564039457584007913129639898 := by
    simp only [L5.val]
    omega
  clear h1 h2 h3 h4 h5 g1 g2 g3 g4 g5 f0 f1 f2 f3 f4 b0 b1 b2 b3 b4
  generalize (L5.mk y0 y1 y2 y3 y4).val = Y at *
  generalize (L5.mk x0 x1 x2 x3 x4).val = X at *
  have e5 : r5 = 0 ∨ r5 = 1 := by omega
  rcases e5 with rfl | rfl <;> omega

theorem b8_bytes (n : Nat) : b8 n = (bytesN 8 n).map bval := by
  have h : ∀ m : Nat, bval (UInt8.ofNat (m % 256)) = .int .u8 ((m % 256 : Nat) : Int) := fun m => by
    unfold bval
    rw [UInt8.toNat_ofNat']
    congr 2
    omega
  have q : ∀ (m : Nat) (z : Int), ((m % 256 : Nat) : Int) = z → bval (UInt8.ofNat (m % 256)) = .int .u8 z := fun m z e => by rw [h, e]
  simp only [b8, bytesN, List.map_cons, List.map_nil]
  rw [q n _ rfl, q (n / 256) ((n : Int) / 256 % 256) (by omega), q (n / 256 / 256) ((n : Int) / 65536 % 256) (by omega), q (n / 256 / 256 / 256) ((n : Int) / 16777216 % 256) (by omega), q (n / 256 / 256 / 256 / 256) ((n : Int) / 4294967296 % 256) (by omega),
    q (n / 256 / 256 / 256 / 256 / 256) ((n : Int) / 1099511627776 % 256) (by omega), q (n / 256 / 256 / 256 / 256 / 256 / 256) ((n : Int) / 281474976710656 % 256) (by omega), q (n / 256 / 256 / 256 / 256 / 256 / 256 / 256) ((n : Int) / 72057594037927936 % 256) (by omega)]
  rfl
theorem bytes_words (y v0 v1 v2 v3 : Nat) (h0 : v0 = y % 18446744073709551616) (h1 : v1 = y / 18446744073709551616 % 18446744073709551616) (h2 : v2 = y / 340282366920938463463374607431768211456 % 18446744073709551616) (h3 : v3 = y / 6277101735386680763835789423207666416102355444464034512896 % 18446744073709551616) :
    b8 v0 ++ b8 v1 ++ b8 v2 ++ b8 v3 = (bytesN 32 y).map bval := by
  have k : (256 : Nat) ^ 8 = 18446744073709551616 := by decide
  have s0 := bytesN_append 8 24 y
  have s1 := bytesN_append 8 16 (y / 256 ^ 8)
  have s2 := bytesN_append 8 8 (y / 256 ^ 8 / 256 ^ 8)
  rw [k] at s0 s1 s2
  have m : ∀ z, bytesN 8 (z % 18446744073709551616) = bytesN 8 z := fun z => by rw [← k]; exact bytesN_mod 8 z
  rw [b8_bytes, b8_bytes, b8_bytes, b8_bytes, h0, h1, h2, h3, m, m, m, m]
  have d1 : y / 18446744073709551616 / 18446744073709551616 = y / 340282366920938463463374607431768211456 := by omega
  have d2 : y / 340282366920938463463374607431768211456 / 18446744073709551616 = y / 6277101735386680763835789423207666416102355444464034512896 := by omega
  rw [d1] at s1 s2
  rw [d2] at s2
  have e : bytesN 32 y = bytesN 8 y ++ (bytesN 8 (y / 18446744073709551616) ++ (bytesN 8 (y / 340282366920938463463374607431768211456) ++ bytesN 8 (y / 6277101735386680763835789423207666416102355444464034512896))) := by
    rw [← s2, ← s1, ← s0]
  rw [e]
  simp
/-- The four words of five limbs. -/
theorem words_of {y0 y1 y2 y3 y4 : Nat} (h0 : y0 < 2251799813685248) (h1 : y1 < 2251799813685248) (h2 : y2 < 2251799813685248) (h3 : y3 < 2251799813685248) (h4 : y4 < 2251799813685248) :
    b8 (2251799813685248 * (y1 % 8192) + y0) ++ b8 (274877906944 * (y2 % 67108864) + y1 / 8192) ++ b8 (33554432 * (y3 % 549755813888) + y2 / 67108864) ++ b8 (4096 * (y4 % 4503599627370496) + y3 / 549755813888) = (bytesN 32 (L5.mk y0 y1 y2 y3 y4).val).map bval := by
  apply bytes_words
  · simp only [L5.val]; omega
  · simp only [L5.val]; omega
  · simp only [L5.val]; omega
  · simp only [L5.val]; omega
/-- Two parts laid together. -/
theorem lay_or (a b r s : Nat) (i : Nat) (hr : r = 2 ^ i) (ha : a < r) (hb : b < 18446744073709551616) (hs : r * s = 18446744073709551616) :
    ∃ q : Nat, IntKind.u64.wrap ((b : Int) * (r : Int)) = (q : Int) ∧ bits .or .u64 (a : Int) (q : Int) = ((r * (b % s) + a : Nat) : Int) := by
  have e1 : IntKind.u64.wrap ((b : Int) * (r : Int)) = ((r * (b % s) : Nat) : Int) := by
    rw [natMul, w64m, ← hs, Nat.mul_comm b r, Nat.mul_mod_mul_left]
  have hb2 : b % s < s := Nat.mod_lt _ (by rcases Nat.eq_zero_or_pos s with h | h; (subst h; simp at hs); exact h)
  have hb3 : r * (b % s) + r ≤ 18446744073709551616 := by
    rw [← hs, ← Nat.mul_succ]
    exact Nat.mul_le_mul_left _ hb2
  refine ⟨_, e1, ?_⟩
  rw [or64 _ _ (by omega) (by omega), Nat.or_comm]
  rw [hr] at ha ⊢
  rw [or_sum i _ _ ha]

/-- The chain of the first loop, and of the second one. -/
def rF (xs : List Nat) : Nat → Nat
  | 0 => 19
  | k + 1 => (rF xs k + xs.getD k 0) / 2251799813685248
def cF (xs : List Nat) (c : Nat) : Nat → Nat
  | 0 => c
  | k + 1 => (cF xs c k + xs.getD k 0) / 2251799813685248
def nats (xs : List Nat) : List Value := xs.map fun n : Nat => .int .u64 (n : Int)
theorem nats_get {xs : List Nat} {i : Nat} (h : i < xs.length) : (nats xs)[i]? = some (.int .u64 ((xs.getD i 0 : Nat) : Int)) := by simp [nats, List.getD, h]
theorem nats_set (xs : List Nat) (i n : Nat) : (nats xs).set i (.int .u64 (n : Int)) = nats (xs.set i n) := by
  unfold nats
  rw [List.map_set]
theorem nats_length (xs : List Nat) : (nats xs).length = xs.length := by simp [nats]
theorem rF_lt (xs : List Nat) (h : ∀ i, xs.getD i 0 < 2251799813947392) : ∀ k, rF xs k ≤ 19
  | 0 => Nat.le_refl _
  | k + 1 => by
    have := rF_lt xs h k
    have := h k
    simp only [rF]
    omega
theorem cF_lt (xs : List Nat) (c : Nat) (hc : c ≤ 361) (h : ∀ i, xs.getD i 0 < 2251799813947392) : ∀ k, cF xs c k ≤ 361
  | 0 => hc
  | k + 1 => by
    have := cF_lt xs c hc h k
    have := h k
    simp only [cF]
    omega
/-- What holds of the limbs when k of them are handed on. -/
structure OutL (xs : List Nat) (c : Nat) (ys : List Nat) (k : Nat) : Prop where
  len : ys.length = 5
  low : ∀ i, i < k → ys.getD i 0 = (cF xs c i + xs.getD i 0) % 2251799813685248
  high : ∀ i, k ≤ i → ys.getD i 0 = xs.getD i 0
theorem getD_setN {zs : List Nat} {i : Nat} {z : Nat} (h : i < zs.length) : (zs.set i z).getD i 0 = z := by simp [List.getD, h]
theorem getD_setN_far {zs : List Nat} {i j : Nat} {z : Nat} (h : i ≠ j) : (zs.set i z).getD j 0 = zs.getD j 0 := by simp [List.getD, List.getElem?_set_ne h]
theorem OutL.step {xs ys : List Nat} {c k : Nat} (h : OutL xs c ys k) (hk : k < 5) : OutL xs c (ys.set k ((cF xs c k + xs.getD k 0) % 2251799813685248)) (k + 1) := by
  obtain ⟨h1, h2, h3⟩ := h
  refine ⟨by simp [h1], fun i hi => ?_, fun i hi => ?_⟩
  · by_cases e : i = k
    · subst e
      rw [getD_setN (by omega)]
    · rw [getD_setN_far (by omega)]
      exact h2 i (by omega)
  · rw [getD_setN_far (by omega)]
    exact h3 i (by omega)
theorem list5 (ys : List Nat) (h : ys.length = 5) : ys = [ys.getD 0 0, ys.getD 1 0, ys.getD 2 0, ys.getD 3 0, ys.getD 4 0] := by
  match ys, h with
  | [_, _, _, _, _], _ => rfl
theorem getD_all5 {x : L5} {B : Nat} (h : x.lt B) (hB : 0 < B) : ∀ i, [x.a, x.b, x.c, x.d, x.e].getD i 0 < B := by
  intro i
  obtain ⟨h0, h1, h2, h3, h4⟩ := h
  match i with
  | 0 => exact h0
  | 1 => exact h1
  | 2 => exact h2
  | 3 => exact h3
  | 4 => exact h4
  | n + 5 => simpa [List.getD] using hB
/-- All that the loops come to. -/
theorem out_done {x : L5} (hx : x.lt 2251799813947392) {ys : List Nat} (h : OutL [x.a, x.b, x.c, x.d, x.e] (19 * rF [x.a, x.b, x.c, x.d, x.e] 5) ys 5) :
    ∃ y : L5, ys = [y.a, y.b, y.c, y.d, y.e] ∧ y.lt 2251799813685248 ∧ y.val = x.val % 57896044618658097711785492504343953926634992332820282019728792003956564819949 := by
  obtain ⟨x0, x1, x2, x3, x4⟩ := x
  obtain ⟨b0, b1, b2, b3, b4⟩ := hx
  have e := list5 ys h.len
  have f0 := h.low 0 (by omega)
  have f1 := h.low 1 (by omega)
  have f2 := h.low 2 (by omega)
  have f3 := h.low 3 (by omega)
  have f4 := h.low 4 (by omega)
  refine ⟨⟨ys.getD 0 0, ys.getD 1 0, ys.getD 2 0, ys.getD 3 0, ys.getD 4 0⟩, e, ?_, ?_⟩
  · simp only [L5.lt]
    omega
  · exact out_steps b0 b1 b2 b3 b4 rfl rfl rfl rfl rfl rfl rfl rfl rfl rfl f0 f1 f2 f3 f4

end Go.Proofs.Ytdjdalaghfknoaa

/- The walk of the code's way back from limbs to a number. Each theorem names its own conditions. -/
namespace Go.Proofs.Ytdjdalaghfknoaa
open Go.RowKit
set_option linter.unusedVariables false
set_option linter.unusedSimpArgs false

set_option maxRecDepth 100000 in
set_option maxHeartbeats 8000000 in
theorem numOf_any (x : L5) (hx : x.lt 18446744073709551616) (w : World) :
    Calls Try.prog 36 #[x.v] w fun e w' => e = .returned (numP (x.val : Nat)) ∧ Below w.heap.size w w' := by
  have HC := Lib.hid (carried_any x hx)
  have HCL := Lib.hid (carriedL_lt x hx)
  have HCV := Lib.hid (carriedL_val x)
  have HX := Lib.hid hx
  have HB := Lib.hid (boxes2 w x.vs (ints .u8 (List.replicate 32 0)) 61 23)
  clear hx
  unfold L5.v
  go_enter Try.func36, Try.ntmps36
  go_wp2_with (refine wpList_load_blk rfl _ _ rfl w.heap.size rfl _ _ _ _ HB.out.1 Try.underlying61 Try.arr61 ?_)
  change Calls _ _ _ ((w.alloc (.cells x.vs.toArray 61)).alloc (.cells (ints .u8 (List.replicate 32 0)).toArray 23)) _
  generalize (w.alloc (.cells x.vs.toArray 61)).alloc (.cells (ints .u8 (List.replicate 32 0)).toArray 23) = w0 at *
  obtain ⟨h1, h2, h4⟩ := HB.out
  obtain ⟨A, hA⟩ : ∃ A, A = w.heap.size := ⟨_, rfl⟩
  rw [← hA] at h1 h2 ⊢
  have hA2 : w.heap.size ≤ A := by omega
  have H1 := Lib.hid h1
  have H2 := Lib.hid h2
  have HE : Hid (Ext w w0) := Lib.hid h4
  clear h1 h2 h4 HB hA
  refine (HC.out w0).mono ?_
  rintro e w1 ⟨rfl, hb1⟩
  have H1 := Lib.hid (ext_blk H1.out hb1)
  have H2 := Lib.hid (ext_blk H2.out hb1)
  have HE := Lib.hid (HE.out.trans hb1)
  clear hb1 HC
  have HCV2 : Hid (Cong ((carriedL x).val : Nat) (x.val : Nat)) := HCV
  generalize carriedL x = z at *
  go_wp2_with (refine wpList_store_blk rfl _ _ _ rfl A z.vs rfl rfl _ _ H1.out rfl Try.arr61 (L5.vs_one _) ?_; intro w2 hb2 hg2)
  have hvs : z.vs = nats [z.a, z.b, z.c, z.d, z.e] := rfl
  rw [hvs] at hb2
  have HXB := Lib.hid (getD_all5 HCL.out (by omega))
  have H1 := Lib.hid hb2
  have H2 := Lib.hid (H2.out.grown hg2 (by simp))
  have HE := Lib.hid (ext_grown HE.out hg2 hA2)
  clear hb2 hg2 hvs
  go_loop [3, 10] (fun r i => ∃ k : Nat, k ≤ 5 ∧ i = .int .i64 k ∧ r = .int .u64 ((rF [z.a, z.b, z.c, z.d, z.e] k : Nat) : Int)) (fun _ i => 5 - (intOf i).toNat)
  case atStart => exact ⟨0, by omega, rfl, rfl⟩
  case round =>
    obtain ⟨k, hk, rfl, rfl⟩ := hrel
    have i0' : (0 : Int) ≤ (k : Int) := Int.natCast_nonneg _
    by_cases hlt : k < 5
    · have i1 : (k : Int) < 5 := by omega
      have e1 := H1.out.cell k
      rw [nats_get (by simpa using hlt)] at e1
      have q1 := rF_lt _ HXB.out k
      have q2 := HXB.out k
      have q3 : (((rF [z.a, z.b, z.c, z.d, z.e] k : Nat) : Int) + (([z.a, z.b, z.c, z.d, z.e].getD k 0 : Nat) : Int)) / 2251799813685248 = ((rF [z.a, z.b, z.c, z.d, z.e] (k + 1) : Nat) : Int) := by
        simp only [rF]
        omega
      obtain ⟨r2, hr2⟩ : ∃ r, r = rF [z.a, z.b, z.c, z.d, z.e] (k + 1) := ⟨_, rfl⟩
      rw [← hr2] at q3
      have HR2 := Lib.hid hr2
      clear hr2
      generalize rF [z.a, z.b, z.c, z.d, z.e] k = r1 at *
      generalize [z.a, z.b, z.c, z.d, z.e].getD k 0 = xk at *
      go_wp2_with fail
      go_round
      case rel => exact ⟨k + 1, by omega, by go_num, by rw [HR2.out]⟩
      case measure => simp [intOf]; omega
    · have hk' : k = 5 := by omega
      subst hk'
      have HR5 := Lib.hid (rF_lt _ HXB.out 5)
      have hmul : IntKind.u64.wrap (19 * ((rF [z.a, z.b, z.c, z.d, z.e] 5 : Nat) : Int)) = ((19 * rF [z.a, z.b, z.c, z.d, z.e] 5 : Nat) : Int) := by
        have := HR5.out
        rw [IntKind.wrap_u64]
        omega
      have hc0 : 19 * rF [z.a, z.b, z.c, z.d, z.e] 5 ≤ 361 := by
        have := HR5.out
        omega
      have HDN := Lib.hid (fun ys => @out_done z HCL.out ys)
      clear HR5
      generalize rF [z.a, z.b, z.c, z.d, z.e] 5 = r5 at *
      have HC0 := Lib.hid hc0
      clear hc0
      generalize 19 * r5 = c0 at *
      go_wp2_with fail
      obtain ⟨xs, hxs⟩ : ∃ xs, xs = [z.a, z.b, z.c, z.d, z.e] := ⟨_, rfl⟩
      have hxl : xs.length = 5 := by rw [hxs]; rfl
      rw [← hxs] at H1 HXB HDN
      have HXS := Lib.hid hxs
      have HXL := Lib.hid hxl
      clear hxs hxl
      obtain ⟨wo, rfl⟩ : ∃ wo : World, wo = w2 := ⟨_, rfl⟩
      go_loopw [5, 22] (fun c i wr => ∃ (k : Nat) (ys : List Nat), k ≤ 5 ∧ i = .int .i64 k ∧ c = .int .u64 ((cF xs c0 k : Nat) : Int) ∧ OutL xs c0 ys k ∧ Blk wr A (nats ys) 61 ∧ Blk wr (A + 1) (ints .u8 (List.replicate 32 0)) 23 ∧ Ext w wr) (fun _ i _ => 5 - (intOf i).toNat)
      case atStart => exact ⟨0, xs, by omega, rfl, rfl, ⟨HXL.out, fun i hi => by omega, fun i _ => rfl⟩, H1.out, H2.out, HE.out⟩
      case round =>
        clear H1 H2 HE
        obtain ⟨k, ys, hk, rfl, rfl, hout, hb1, hb2, hbe⟩ := hrel
        have i0' : (0 : Int) ≤ (k : Int) := Int.natCast_nonneg _
        have hl5 := hout.len
        by_cases hlt : k < 5
        · have i1 : (k : Int) < 5 := by omega
          have e1 := hb1.cell k
          rw [nats_get (by omega), hout.high k (Nat.le_refl _)] at e1
          have f1 := hb1.free k
          have q1 := cF_lt xs c0 HC0.out HXB.out k
          have q2 := HXB.out k
          have hst := hout.step hlt
          obtain ⟨c2, hc2⟩ : ∃ r, r = cF xs c0 (k + 1) := ⟨_, rfl⟩
          have hc3 : c2 = (cF xs c0 k + xs.getD k 0) / 2251799813685248 := hc2
          generalize cF xs c0 k = c1 at *
          generalize xs.getD k 0 = xk at *
          have w1 : IntKind.u64.wrap ((c1 : Int) + (xk : Int)) = (c1 : Int) + (xk : Int) := by rw [IntKind.wrap_u64]; omega
          have w2' : ((c1 : Int) + (xk : Int)) = ((c1 + xk : Nat) : Int) := by omega
          generalize hs : c1 + xk = s at *
          have hm : bits .and .u64 (s : Int) 2251799813685247 = ((s % 2251799813685248 : Nat) : Int) := mask51 s (by omega)
          have hd : (s : Int) / 2251799813685248 = (c2 : Int) := by omega
          have w3 : IntKind.u64.wrap (s : Int) = (s : Int) := w64 (by omega)
          generalize s % 2251799813685248 = m at *
          have HST := Lib.hid hst
          have HB1 := Lib.hid hb1
          have HB2 := Lib.hid hb2
          have HBE := Lib.hid hbe
          have HC2 := Lib.hid hc2
          clear hst hb1 hb2 hbe hc2 hc3 hs hout hl5 q1 q2
          go_wp2_with fail
          go_roundw
          case rel =>
            refine ⟨k + 1, _, by omega, by go_num, by rw [HC2.out], HST.out, ?_, HB2.out.far (by simp) _, HBE.out.setCell hA2 _⟩
            rw [← nats_set]
            exact HB1.out.set k _
          case measure => simp [intOf]; omega
        · have hk' : k = 5 := by omega
          subst hk'
          obtain ⟨y, rfl, hylt, hyval⟩ := HDN.out ys hout
          obtain ⟨y0, y1, y2, y3, y4⟩ := y
          obtain ⟨g0, g1, g2, g3, g4⟩ := hylt
          simp only at g0 g1 g2 g3 g4
          have HF : Hid (b8 (2251799813685248 * (y1 % 8192) + y0) ++ b8 (274877906944 * (y2 % 67108864) + y1 / 8192) ++ b8 (33554432 * (y3 % 549755813888) + y2 / 67108864) ++ b8 (4096 * (y4 % 4503599627370496) + y3 / 549755813888) = (nb (x.val : Nat)).map bval) := Lib.hid (by
            rw [words_of g0 g1 g2 g3 g4, hyval]
            have hq : ((x.val : Nat) : Int) % pP = ((z.val % 57896044618658097711785492504343953926634992332820282019728792003956564819949 : Nat) : Int) := (cong_iff.1 HCV.out).symm
            unfold nb
            rw [hq, Int.toNat_natCast])
          obtain ⟨s0, z0, l0⟩ := lay_or y0 y1 2251799813685248 8192 51 (by decide) g0 (by omega) (by omega)
          obtain ⟨s1, z1, l1⟩ := lay_or (y1 / 8192) y2 274877906944 67108864 38 (by decide) (by omega) (by omega) (by omega)
          obtain ⟨s2, z2, l2⟩ := lay_or (y2 / 67108864) y3 33554432 549755813888 25 (by decide) (by omega) (by omega) (by omega)
          obtain ⟨s3, z3, l3⟩ := lay_or (y3 / 549755813888) y4 4096 4503599627370496 12 (by decide) (by omega) (by omega) (by omega)
          simp only [Int.cast_ofNat_Int] at z0 z1 z2 z3
          generalize hv0 : 2251799813685248 * (y1 % 8192) + y0 = v0 at *
          generalize hv1 : 274877906944 * (y2 % 67108864) + y1 / 8192 = v1 at *
          generalize hv2 : 33554432 * (y3 % 549755813888) + y2 / 67108864 = v2 at *
          generalize hv3 : 4096 * (y4 % 4503599627370496) + y3 / 549755813888 = v3 at *
          have k1 : (y1 : Int) / 8192 = ((y1 / 8192 : Nat) : Int) := by omega
          have k2 : (y2 : Int) / 67108864 = ((y2 / 67108864 : Nat) : Int) := by omega
          have k3 : (y3 : Int) / 549755813888 = ((y3 / 549755813888 : Nat) : Int) := by omega
          generalize y1 / 8192 = q1 at *
          generalize y2 / 67108864 = q2 at *
          generalize y3 / 549755813888 = q3 at *
          have HS0 := Lib.hid z0
          have HS1 := Lib.hid z1
          have HS2 := Lib.hid z2
          have HS3 := Lib.hid z3
          have HQ1 := Lib.hid k1
          have HQ2 := Lib.hid k2
          have HQ3 := Lib.hid k3
          have HV0 := Lib.hid l0
          have HV1 := Lib.hid l1
          have HV2 := Lib.hid l2
          have HV3 := Lib.hid l3
          have H1 := Lib.hid (hb1.alloc (.cells (ints .u8 (List.replicate 32 0)).toArray 23))
          have H2 := Lib.hid (hb2.alloc (.cells (ints .u8 (List.replicate 32 0)).toArray 23))
          have HD := Lib.hid (Blk.made wr (ints .u8 (List.replicate 32 0)) 23)
          have HE : Hid (Ext w (wr.alloc (.cells (ints .u8 (List.replicate 32 0)).toArray 23))) := Lib.hid (Ext.trans hbe (Ext.alloc wr _))
          obtain ⟨D, hD⟩ : ∃ D, D = wr.heap.size := ⟨_, rfl⟩
          have hDA : A + 1 < D := by have := hb2.lt; omega
          rw [← hD] at HD
          clear g0 g1 g2 g3 g4 l0 l1 l2 l3 z0 z1 z2 z3 hv0 hv1 hv2 hv3 k1 k2 k3 hb1 hb2 hbe hout hl5 hyval
          go_wp2_with fail
          rw [← hD]
          change Code.wp _ _ _ _ (wr.alloc (.cells (ints .u8 (List.replicate 32 0)).toArray 23))
          generalize wr.alloc (.cells (ints .u8 (List.replicate 32 0)).toArray 23) = w3 at *
          have HD0 := HD
          clear hD HD
          refine wp_region_from 7 1 7 rfl (by kernel_rfl) (by kernel_rfl) (fun d v c a w h => by cases d <;> exact h) (by kernel_rfl) ?_
          refine det_val (.slice (some ⟨D, 0, none⟩) 8 32) (by rfl) (fun w hw => by go_simp) ?_
          simp only [Act.put, List.setIfInBounds_toArray, List.set_cons_zero, List.set_cons_succ]
          refine det_index _ _ _ _ A 5 0 (by rfl) rfl rfl rfl Try.underlying61 (by omega) (Try.sizeOf59) ?_
          simp only [Act.put, List.setIfInBounds_toArray, List.set_cons_zero, List.set_cons_succ]
          refine det_cell _ _ A 0 (.int .u64 ((y0 : Nat) : Int)) (by rfl) rfl rfl (fun w hw => (ext_blk H1.out hw).cell 0) (Try.isAgg59) ?_
          simp only [Act.put, List.setIfInBounds_toArray, List.set_cons_zero, List.set_cons_succ]
          refine det_index _ _ _ _ A 5 1 (by rfl) rfl rfl rfl Try.underlying61 (by omega) (Try.sizeOf59) ?_
          simp only [Act.put, List.setIfInBounds_toArray, List.set_cons_zero, List.set_cons_succ]
          refine det_cell _ _ A 1 (.int .u64 ((y1 : Nat) : Int)) (by rfl) rfl rfl (fun w hw => (ext_blk H1.out hw).cell 1) (Try.isAgg59) ?_
          simp only [Act.put, List.setIfInBounds_toArray, List.set_cons_zero, List.set_cons_succ]
          refine det_val (.int .u64 ((s0 : Nat) : Int)) (by rfl) (fun w hw => by have h := HS0.out; go_simp) ?_
          simp only [Act.put, List.setIfInBounds_toArray, List.set_cons_zero, List.set_cons_succ]
          refine det_or _ _ _ _ _ _ _ (v0 : Nat) (by rfl) rfl rfl rfl HV0.out ?_
          simp only [Act.put, List.setIfInBounds_toArray, List.set_cons_zero, List.set_cons_succ]
          refine det_nil (end_store (k := 7) rfl (by kernel_rfl) (by kernel_rfl) (by kernel_rfl) rfl (fun w0 hw0 => ?_))
          have HP0 := putWord_any D 0 32 v0 _ _ w0 (ext_blk HD0.out hw0) (by simp [b8, ints_length])
          have H1 := Lib.hid (ext_blk H1.out hw0)
          have H2 := Lib.hid (ext_blk H2.out hw0)
          have HE := Lib.hid (HE.out.trans hw0)
          clear hw0
          go_simp
          refine HP0.mono ?_
          clear HP0
          rintro e x0 ⟨rfl, hb0, hg0⟩
          have HD1 : Hid (Blk x0 D (b8 v0 ++ ints .u8 (List.replicate 24 0)) 23) := Lib.hid hb0
          have H1 := Lib.hid (H1.out.grown hg0 (by simp; omega))
          have H2 := Lib.hid (H2.out.grown hg0 (by simp; omega))
          have HE := Lib.hid (ext_grown HE.out hg0 (by omega))
          clear hb0 hg0
          go_wp2_with fail
          refine wp_region_from 8 1 8 rfl (by kernel_rfl) (by kernel_rfl) (fun d v c a w h => by cases d <;> exact h) (by kernel_rfl) ?_
          refine det_val (.slice (some ⟨D, 8, none⟩) 8 24) (by rfl) (fun w hw => by go_simp) ?_
          simp only [Act.put, List.setIfInBounds_toArray, List.set_cons_zero, List.set_cons_succ]
          refine det_index _ _ _ _ A 5 1 (by rfl) rfl rfl rfl Try.underlying61 (by omega) (Try.sizeOf59) ?_
          simp only [Act.put, List.setIfInBounds_toArray, List.set_cons_zero, List.set_cons_succ]
          refine det_cell _ _ A 1 (.int .u64 ((y1 : Nat) : Int)) (by rfl) rfl rfl (fun w hw => (ext_blk H1.out hw).cell 1) (Try.isAgg59) ?_
          simp only [Act.put, List.setIfInBounds_toArray, List.set_cons_zero, List.set_cons_succ]
          refine det_val (.int .u64 ((q1 : Nat) : Int)) (by rfl) (fun w hw => by have h := HQ1.out; go_simp) ?_
          simp only [Act.put, List.setIfInBounds_toArray, List.set_cons_zero, List.set_cons_succ]
          refine det_index _ _ _ _ A 5 2 (by rfl) rfl rfl rfl Try.underlying61 (by omega) (Try.sizeOf59) ?_
          simp only [Act.put, List.setIfInBounds_toArray, List.set_cons_zero, List.set_cons_succ]
          refine det_cell _ _ A 2 (.int .u64 ((y2 : Nat) : Int)) (by rfl) rfl rfl (fun w hw => (ext_blk H1.out hw).cell 2) (Try.isAgg59) ?_
          simp only [Act.put, List.setIfInBounds_toArray, List.set_cons_zero, List.set_cons_succ]
          refine det_val (.int .u64 ((s1 : Nat) : Int)) (by rfl) (fun w hw => by have h := HS1.out; go_simp) ?_
          simp only [Act.put, List.setIfInBounds_toArray, List.set_cons_zero, List.set_cons_succ]
          refine det_or _ _ _ _ _ _ _ (v1 : Nat) (by rfl) rfl rfl rfl HV1.out ?_
          simp only [Act.put, List.setIfInBounds_toArray, List.set_cons_zero, List.set_cons_succ]
          refine det_nil (end_store (k := 8) rfl (by kernel_rfl) (by kernel_rfl) (by kernel_rfl) rfl (fun w1 hw1 => ?_))
          have HP1 := putWord_any D 8 24 v1 _ _ w1 (ext_blk HD1.out hw1) (by simp [b8, ints_length])
          have H1 := Lib.hid (ext_blk H1.out hw1)
          have H2 := Lib.hid (ext_blk H2.out hw1)
          have HE := Lib.hid (HE.out.trans hw1)
          clear hw1
          go_simp
          refine HP1.mono ?_
          clear HP1
          rintro e x1 ⟨rfl, hb1, hg1⟩
          have HD2 : Hid (Blk x1 D (b8 v0 ++ b8 v1 ++ ints .u8 (List.replicate 16 0)) 23) := Lib.hid hb1
          have H1 := Lib.hid (H1.out.grown hg1 (by simp; omega))
          have H2 := Lib.hid (H2.out.grown hg1 (by simp; omega))
          have HE := Lib.hid (ext_grown HE.out hg1 (by omega))
          clear hb1 hg1
          go_wp2_with fail
          refine wp_region_from 8 1 8 rfl (by kernel_rfl) (by kernel_rfl) (fun d v c a w h => by cases d <;> exact h) (by kernel_rfl) ?_
          refine det_val (.slice (some ⟨D, 16, none⟩) 8 16) (by rfl) (fun w hw => by go_simp) ?_
          simp only [Act.put, List.setIfInBounds_toArray, List.set_cons_zero, List.set_cons_succ]
          refine det_index _ _ _ _ A 5 2 (by rfl) rfl rfl rfl Try.underlying61 (by omega) (Try.sizeOf59) ?_
          simp only [Act.put, List.setIfInBounds_toArray, List.set_cons_zero, List.set_cons_succ]
          refine det_cell _ _ A 2 (.int .u64 ((y2 : Nat) : Int)) (by rfl) rfl rfl (fun w hw => (ext_blk H1.out hw).cell 2) (Try.isAgg59) ?_
          simp only [Act.put, List.setIfInBounds_toArray, List.set_cons_zero, List.set_cons_succ]
          refine det_val (.int .u64 ((q2 : Nat) : Int)) (by rfl) (fun w hw => by have h := HQ2.out; go_simp) ?_
          simp only [Act.put, List.setIfInBounds_toArray, List.set_cons_zero, List.set_cons_succ]
          refine det_index _ _ _ _ A 5 3 (by rfl) rfl rfl rfl Try.underlying61 (by omega) (Try.sizeOf59) ?_
          simp only [Act.put, List.setIfInBounds_toArray, List.set_cons_zero, List.set_cons_succ]
          refine det_cell _ _ A 3 (.int .u64 ((y3 : Nat) : Int)) (by rfl) rfl rfl (fun w hw => (ext_blk H1.out hw).cell 3) (Try.isAgg59) ?_
          simp only [Act.put, List.setIfInBounds_toArray, List.set_cons_zero, List.set_cons_succ]
          refine det_val (.int .u64 ((s2 : Nat) : Int)) (by rfl) (fun w hw => by have h := HS2.out; go_simp) ?_
          simp only [Act.put, List.setIfInBounds_toArray, List.set_cons_zero, List.set_cons_succ]
          refine det_or _ _ _ _ _ _ _ (v2 : Nat) (by rfl) rfl rfl rfl HV2.out ?_
          simp only [Act.put, List.setIfInBounds_toArray, List.set_cons_zero, List.set_cons_succ]
          refine det_nil (end_store (k := 8) rfl (by kernel_rfl) (by kernel_rfl) (by kernel_rfl) rfl (fun w2 hw2 => ?_))
          have HP2 := putWord_any D 16 16 v2 _ _ w2 (ext_blk HD2.out hw2) (by simp [b8, ints_length])
          have H1 := Lib.hid (ext_blk H1.out hw2)
          have H2 := Lib.hid (ext_blk H2.out hw2)
          have HE := Lib.hid (HE.out.trans hw2)
          clear hw2
          go_simp
          refine HP2.mono ?_
          clear HP2
          rintro e x2 ⟨rfl, hb2, hg2⟩
          have HD3 : Hid (Blk x2 D (b8 v0 ++ b8 v1 ++ b8 v2 ++ ints .u8 (List.replicate 8 0)) 23) := Lib.hid hb2
          have H1 := Lib.hid (H1.out.grown hg2 (by simp; omega))
          have H2 := Lib.hid (H2.out.grown hg2 (by simp; omega))
          have HE := Lib.hid (ext_grown HE.out hg2 (by omega))
          clear hb2 hg2
          go_wp2_with fail
          refine wp_region_from 8 1 8 rfl (by kernel_rfl) (by kernel_rfl) (fun d v c a w h => by cases d <;> exact h) (by kernel_rfl) ?_
          refine det_val (.slice (some ⟨D, 24, none⟩) 8 8) (by rfl) (fun w hw => by go_simp) ?_
          simp only [Act.put, List.setIfInBounds_toArray, List.set_cons_zero, List.set_cons_succ]
          refine det_index _ _ _ _ A 5 3 (by rfl) rfl rfl rfl Try.underlying61 (by omega) (Try.sizeOf59) ?_
          simp only [Act.put, List.setIfInBounds_toArray, List.set_cons_zero, List.set_cons_succ]
          refine det_cell _ _ A 3 (.int .u64 ((y3 : Nat) : Int)) (by rfl) rfl rfl (fun w hw => (ext_blk H1.out hw).cell 3) (Try.isAgg59) ?_
          simp only [Act.put, List.setIfInBounds_toArray, List.set_cons_zero, List.set_cons_succ]
          refine det_val (.int .u64 ((q3 : Nat) : Int)) (by rfl) (fun w hw => by have h := HQ3.out; go_simp) ?_
          simp only [Act.put, List.setIfInBounds_toArray, List.set_cons_zero, List.set_cons_succ]
          refine det_index _ _ _ _ A 5 4 (by rfl) rfl rfl rfl Try.underlying61 (by omega) (Try.sizeOf59) ?_
          simp only [Act.put, List.setIfInBounds_toArray, List.set_cons_zero, List.set_cons_succ]
          refine det_cell _ _ A 4 (.int .u64 ((y4 : Nat) : Int)) (by rfl) rfl rfl (fun w hw => (ext_blk H1.out hw).cell 4) (Try.isAgg59) ?_
          simp only [Act.put, List.setIfInBounds_toArray, List.set_cons_zero, List.set_cons_succ]
          refine det_val (.int .u64 ((s3 : Nat) : Int)) (by rfl) (fun w hw => by have h := HS3.out; go_simp) ?_
          simp only [Act.put, List.setIfInBounds_toArray, List.set_cons_zero, List.set_cons_succ]
          refine det_or _ _ _ _ _ _ _ (v3 : Nat) (by rfl) rfl rfl rfl HV3.out ?_
          simp only [Act.put, List.setIfInBounds_toArray, List.set_cons_zero, List.set_cons_succ]
          refine det_nil (end_store (k := 8) rfl (by kernel_rfl) (by kernel_rfl) (by kernel_rfl) rfl (fun w3 hw3 => ?_))
          have HP3 := putWord_any D 24 8 v3 _ _ w3 (ext_blk HD3.out hw3) (by simp [b8, ints_length])
          have H1 := Lib.hid (ext_blk H1.out hw3)
          have H2 := Lib.hid (ext_blk H2.out hw3)
          have HE := Lib.hid (HE.out.trans hw3)
          clear hw3
          go_simp
          refine HP3.mono ?_
          clear HP3
          rintro e x3 ⟨rfl, hb3, hg3⟩
          have HD4 : Hid (Blk x3 D (b8 v0 ++ b8 v1 ++ b8 v2 ++ b8 v3) 23) := Lib.hid hb3
          have H1 := Lib.hid (H1.out.grown hg3 (by simp; omega))
          have H2 := Lib.hid (H2.out.grown hg3 (by simp; omega))
          have HE := Lib.hid (ext_grown HE.out hg3 (by omega))
          clear hb3 hg3
          have hi1 : Hid ((Try.prog.info? 23).map (·.size) = some (b8 v0 ++ b8 v1 ++ b8 v2 ++ b8 v3).length) := Lib.hid Try.arr23
          have ho1 : Hid (∀ v ∈ b8 v0 ++ b8 v1 ++ b8 v2 ++ b8 v3, v.oneCell' = true) := Lib.hid (by rw [HF.out]; exact bval_one _)
          go_wp2_with (first | (refine wpList_load_blk rfl _ _ rfl D rfl _ _ _ _ HD4.out Try.underlying23 hi1.out ?_) | (refine wpList_store_blk rfl _ _ _ rfl (A + 1) _ rfl rfl _ _ H2.out rfl hi1.out ho1.out ?_; intro w7 hb7 hg7))
          exact bodyPost_ret (v := .agg (b8 v0 ++ b8 v1 ++ b8 v2 ++ b8 v3).toArray) (result_row (by rfl) _ (A + 1) _ _ _ (by rfl) hb7 Try.underlying23 rfl hi1.out) rfl ⟨by rw [HF.out]; rfl, ext_grown HE.out hg7 (by omega)⟩

end Go.Proofs.Ytdjdalaghfknoaa

/- The walk of the code's product of limbs. Each theorem names its own conditions. -/
namespace Go.Proofs.Ytdjdalaghfknoaa
open Go.RowKit
set_option linter.unusedVariables false
set_option linter.unusedSimpArgs false

def zero2 : List Value := [.int .u64 0, .int .u64 0]
def wideL (n : Nat) : List Value := [.int .u64 ((n / 18446744073709551616 : Nat) : Int), .int .u64 ((n % 18446744073709551616 : Nat) : Int)]
theorem wideL_one (n : Nat) : ∀ v ∈ wideL n, v.oneCell' = true := one2 _ _
theorem above_u (n u : Nat) (h : n / 2251799813685248 = u ∧ u < 18446744073709551616) (w : World) :
    Calls Try.prog 53 #[wideV n] w fun e w' => e = .returned (.int .u64 ((u : Nat) : Int)) ∧ Below w.heap.size w w' := by
  have := above_any n w
  rwa [h.1, Nat.mod_eq_of_lt h.2] at this
theorem part_bounds {p q r s t : Nat} (hp : p ≤ 6165852519510107124332821030633491) (hq : q ≤ 6165852519510107124332821030633491) (hr : r ≤ 6165852519510107124332821030633491) (hs : s ≤ 6165852519510107124332821030633491) (ht : t ≤ 6165852519510107124332821030633491) :
    p + q < 340282366920938463463374607431768211456 ∧ p + q + r < 340282366920938463463374607431768211456 ∧ p + q + r + s < 340282366920938463463374607431768211456 ∧ p + q + r + s + t < 340282366920938463463374607431768211456 := by omega
theorem mul_19 {x y : Nat} (hx : x < 18014398509481984) (hy : y < 18014398509481984) : x * y ≤ 6165852519510107124332821030633491 := by
  have := mul_lt54 hx hy
  omega
theorem low51 {n m : Nat} (h : n % 2251799813685248 = m) : bits .and .u64 ((n % 18446744073709551616 : Nat) : Int) 2251799813685247 = (m : Int) := by
  rw [mask51 _ (by omega)]
  omega
theorem wrap_eq {x : Int} {n : Nat} (h : x = (n : Int)) (hn : n < 18446744073709551616) : IntKind.u64.wrap x = (n : Int) := by rw [h, w64 hn]

set_option maxRecDepth 100000 in
set_option maxHeartbeats 8000000 in
theorem times_any (x y : L5) (hx : x.lt 18014398509481984) (hy : y.lt 18014398509481984) (w : World) :
    Calls Try.prog 37 #[x.v, y.v] w fun e w' => e = .returned (timesL x y).v ∧ Below w.heap.size w w' := by
  obtain ⟨t1, t2, t3, t4, t5⟩ := cols_lt hx hy
  have hrl := rowsL_lt t1 t2 t3 t4 t5
  obtain ⟨a, b, c, d, e⟩ := x
  obtain ⟨f, g, h, i, j⟩ := y
  obtain ⟨la, lb, lc, ld, le⟩ := hx
  obtain ⟨lf, lg, lh, li, lj⟩ := hy
  simp only at la lb lc ld le lf lg lh li lj
  have Ba : Hid (a < 18446744073709551616) := Lib.hid (by omega)
  have Bb : Hid (b < 18446744073709551616) := Lib.hid (by omega)
  have Bc : Hid (c < 18446744073709551616) := Lib.hid (by omega)
  have Bd : Hid (d < 18446744073709551616) := Lib.hid (by omega)
  have Be : Hid (e < 18446744073709551616) := Lib.hid (by omega)
  have Bf : Hid (f < 18446744073709551616) := Lib.hid (by omega)
  have Bg : Hid (g < 18446744073709551616) := Lib.hid (by omega)
  have Bh : Hid (h < 18446744073709551616) := Lib.hid (by omega)
  have Bi : Hid (i < 18446744073709551616) := Lib.hid (by omega)
  have Bj : Hid (j < 18446744073709551616) := Lib.hid (by omega)
  obtain ⟨z1, ez1⟩ : ∃ z, z = 19 * b := ⟨_, rfl⟩
  have HZ1 : Hid (IntKind.u64.wrap (((19 : Nat) : Int) * ((b : Nat) : Int)) = ((z1 : Nat) : Int)) := Lib.hid (wrap_eq (by omega) (by omega))
  have Bz1 : Hid (z1 < 18446744073709551616) := Lib.hid (by omega)
  obtain ⟨z2, ez2⟩ : ∃ z, z = 19 * c := ⟨_, rfl⟩
  have HZ2 : Hid (IntKind.u64.wrap (((19 : Nat) : Int) * ((c : Nat) : Int)) = ((z2 : Nat) : Int)) := Lib.hid (wrap_eq (by omega) (by omega))
  have Bz2 : Hid (z2 < 18446744073709551616) := Lib.hid (by omega)
  obtain ⟨z3, ez3⟩ : ∃ z, z = 19 * d := ⟨_, rfl⟩
  have HZ3 : Hid (IntKind.u64.wrap (((19 : Nat) : Int) * ((d : Nat) : Int)) = ((z3 : Nat) : Int)) := Lib.hid (wrap_eq (by omega) (by omega))
  have Bz3 : Hid (z3 < 18446744073709551616) := Lib.hid (by omega)
  obtain ⟨z4, ez4⟩ : ∃ z, z = 19 * e := ⟨_, rfl⟩
  have HZ4 : Hid (IntKind.u64.wrap (((19 : Nat) : Int) * ((e : Nat) : Int)) = ((z4 : Nat) : Int)) := Lib.hid (wrap_eq (by omega) (by omega))
  have Bz4 : Hid (z4 < 18446744073709551616) := Lib.hid (by omega)
  obtain ⟨c1, c2, c3, c4⟩ := part_bounds (mul_19 la lf) (show z1 * j ≤ _ by rw [ez1]; exact mul_lt54' lb lj) (show z2 * i ≤ _ by rw [ez2]; exact mul_lt54' lc li) (show z3 * h ≤ _ by rw [ez3]; exact mul_lt54' ld lh) (show z4 * g ≤ _ by rw [ez4]; exact mul_lt54' le lg)
  have C0_1 := Lib.hid c1
  have C0_2 := Lib.hid c2
  have C0_3 := Lib.hid c3
  have C0_4 := Lib.hid c4
  clear c1 c2 c3 c4
  obtain ⟨W0, ew0⟩ : ∃ W, W = a * f + z1 * j + z2 * i + z3 * h + z4 * g := ⟨_, rfl⟩
  have EW0 : Hid (wideL (a * f + z1 * j + z2 * i + z3 * h + z4 * g) = wideL W0) := Lib.hid (by rw [ew0])
  have ec0 : col0 ⟨a, b, c, d, e⟩ ⟨f, g, h, i, j⟩ = W0 := by rw [ew0, ez1, ez2, ez3, ez4]; rfl
  rw [ec0] at t1 hrl
  obtain ⟨c1, c2, c3, c4⟩ := part_bounds (mul_19 la lg) (mul_19 lb lf) (show z2 * j ≤ _ by rw [ez2]; exact mul_lt54' lc lj) (show z3 * i ≤ _ by rw [ez3]; exact mul_lt54' ld li) (show z4 * h ≤ _ by rw [ez4]; exact mul_lt54' le lh)
  have C1_1 := Lib.hid c1
  have C1_2 := Lib.hid c2
  have C1_3 := Lib.hid c3
  have C1_4 := Lib.hid c4
  clear c1 c2 c3 c4
  obtain ⟨W1, ew1⟩ : ∃ W, W = a * g + b * f + z2 * j + z3 * i + z4 * h := ⟨_, rfl⟩
  have EW1 : Hid (wideL (a * g + b * f + z2 * j + z3 * i + z4 * h) = wideL W1) := Lib.hid (by rw [ew1])
  have ec1 : col1 ⟨a, b, c, d, e⟩ ⟨f, g, h, i, j⟩ = W1 := by rw [ew1, ez2, ez3, ez4]; rfl
  rw [ec1] at t2 hrl
  obtain ⟨c1, c2, c3, c4⟩ := part_bounds (mul_19 la lh) (mul_19 lb lg) (mul_19 lc lf) (show z3 * j ≤ _ by rw [ez3]; exact mul_lt54' ld lj) (show z4 * i ≤ _ by rw [ez4]; exact mul_lt54' le li)
  have C2_1 := Lib.hid c1
  have C2_2 := Lib.hid c2
  have C2_3 := Lib.hid c3
  have C2_4 := Lib.hid c4
  clear c1 c2 c3 c4
  obtain ⟨W2, ew2⟩ : ∃ W, W = a * h + b * g + c * f + z3 * j + z4 * i := ⟨_, rfl⟩
  have EW2 : Hid (wideL (a * h + b * g + c * f + z3 * j + z4 * i) = wideL W2) := Lib.hid (by rw [ew2])
  have ec2 : col2 ⟨a, b, c, d, e⟩ ⟨f, g, h, i, j⟩ = W2 := by rw [ew2, ez3, ez4]; rfl
  rw [ec2] at t3 hrl
  obtain ⟨c1, c2, c3, c4⟩ := part_bounds (mul_19 la li) (mul_19 lb lh) (mul_19 lc lg) (mul_19 ld lf) (show z4 * j ≤ _ by rw [ez4]; exact mul_lt54' le lj)
  have C3_1 := Lib.hid c1
  have C3_2 := Lib.hid c2
  have C3_3 := Lib.hid c3
  have C3_4 := Lib.hid c4
  clear c1 c2 c3 c4
  obtain ⟨W3, ew3⟩ : ∃ W, W = a * i + b * h + c * g + d * f + z4 * j := ⟨_, rfl⟩
  have EW3 : Hid (wideL (a * i + b * h + c * g + d * f + z4 * j) = wideL W3) := Lib.hid (by rw [ew3])
  have ec3 : col3 ⟨a, b, c, d, e⟩ ⟨f, g, h, i, j⟩ = W3 := by rw [ew3, ez4]; rfl
  rw [ec3] at t4 hrl
  obtain ⟨c1, c2, c3, c4⟩ := part_bounds (mul_19 la lj) (mul_19 lb li) (mul_19 lc lh) (mul_19 ld lg) (mul_19 le lf)
  have C4_1 := Lib.hid c1
  have C4_2 := Lib.hid c2
  have C4_3 := Lib.hid c3
  have C4_4 := Lib.hid c4
  clear c1 c2 c3 c4
  obtain ⟨W4, ew4⟩ : ∃ W, W = a * j + b * i + c * h + d * g + e * f := ⟨_, rfl⟩
  have EW4 : Hid (wideL (a * j + b * i + c * h + d * g + e * f) = wideL W4) := Lib.hid (by rw [ew4])
  have ec4 : col4 ⟨a, b, c, d, e⟩ ⟨f, g, h, i, j⟩ = W4 := by rw [ew4]; rfl
  rw [ec4] at t5 hrl
  have et : timesL ⟨a, b, c, d, e⟩ ⟨f, g, h, i, j⟩ = carriedL (rowsL W0 W1 W2 W3 W4) := by unfold timesL; rw [ec0, ec1, ec2, ec3, ec4]
  obtain ⟨u0, eu0⟩ : ∃ u, W0 / 2251799813685248 = u := ⟨_, rfl⟩
  obtain ⟨m0, em0⟩ : ∃ u, W0 % 2251799813685248 = u := ⟨_, rfl⟩
  have bu0 : u0 < 18446744073709551616 := by omega
  have EU0 := Lib.hid (And.intro eu0 bu0)
  have HM0 : Hid (bits .and .u64 ((W0 % 18446744073709551616 : Nat) : Int) ((2251799813685247 : Nat) : Int) = ((m0 : Nat) : Int)) := Lib.hid (low51 em0)
  obtain ⟨u1, eu1⟩ : ∃ u, W1 / 2251799813685248 = u := ⟨_, rfl⟩
  obtain ⟨m1, em1⟩ : ∃ u, W1 % 2251799813685248 = u := ⟨_, rfl⟩
  have bu1 : u1 < 18446744073709551616 := by omega
  have EU1 := Lib.hid (And.intro eu1 bu1)
  have HM1 : Hid (bits .and .u64 ((W1 % 18446744073709551616 : Nat) : Int) ((2251799813685247 : Nat) : Int) = ((m1 : Nat) : Int)) := Lib.hid (low51 em1)
  obtain ⟨u2, eu2⟩ : ∃ u, W2 / 2251799813685248 = u := ⟨_, rfl⟩
  obtain ⟨m2, em2⟩ : ∃ u, W2 % 2251799813685248 = u := ⟨_, rfl⟩
  have bu2 : u2 < 18446744073709551616 := by omega
  have EU2 := Lib.hid (And.intro eu2 bu2)
  have HM2 : Hid (bits .and .u64 ((W2 % 18446744073709551616 : Nat) : Int) ((2251799813685247 : Nat) : Int) = ((m2 : Nat) : Int)) := Lib.hid (low51 em2)
  obtain ⟨u3, eu3⟩ : ∃ u, W3 / 2251799813685248 = u := ⟨_, rfl⟩
  obtain ⟨m3, em3⟩ : ∃ u, W3 % 2251799813685248 = u := ⟨_, rfl⟩
  have bu3 : u3 < 18446744073709551616 := by omega
  have EU3 := Lib.hid (And.intro eu3 bu3)
  have HM3 : Hid (bits .and .u64 ((W3 % 18446744073709551616 : Nat) : Int) ((2251799813685247 : Nat) : Int) = ((m3 : Nat) : Int)) := Lib.hid (low51 em3)
  obtain ⟨u4, eu4⟩ : ∃ u, W4 / 2251799813685248 = u := ⟨_, rfl⟩
  obtain ⟨m4, em4⟩ : ∃ u, W4 % 2251799813685248 = u := ⟨_, rfl⟩
  have bu4 : u4 < 18446744073709551616 := by omega
  have EU4 := Lib.hid (And.intro eu4 bu4)
  have HM4 : Hid (bits .and .u64 ((W4 % 18446744073709551616 : Nat) : Int) ((2251799813685247 : Nat) : Int) = ((m4 : Nat) : Int)) := Lib.hid (low51 em4)
  obtain ⟨u5, eu5⟩ : ∃ u, u = 19 * u4 := ⟨_, rfl⟩
  obtain ⟨r0, er0⟩ : ∃ r, r = m0 + u5 := ⟨_, rfl⟩
  obtain ⟨r1, er1⟩ : ∃ r, r = m1 + u0 := ⟨_, rfl⟩
  obtain ⟨r2, er2⟩ : ∃ r, r = m2 + u1 := ⟨_, rfl⟩
  obtain ⟨r3, er3⟩ : ∃ r, r = m3 + u2 := ⟨_, rfl⟩
  obtain ⟨r4, er4⟩ : ∃ r, r = m4 + u3 := ⟨_, rfl⟩
  have hrl2 : rowsL W0 W1 W2 W3 W4 = ⟨r0, r1, r2, r3, r4⟩ := by unfold rowsL; rw [em0, em1, em2, em3, em4, eu0, eu1, eu2, eu3, eu4, er0, er1, er2, er3, er4, eu5]
  rw [hrl2] at hrl et
  have BR := Lib.hid hrl
  obtain ⟨g0, g1, g2, g3, g4⟩ := hrl
  simp only at g0 g1 g2 g3 g4
  have HU5 : Hid (IntKind.u64.wrap (((19 : Nat) : Int) * ((u4 : Nat) : Int)) = ((u5 : Nat) : Int)) := Lib.hid (wrap_eq (by omega) (by omega))
  have HR0 : Hid (IntKind.u64.wrap (((m0 : Nat) : Int) + ((u5 : Nat) : Int)) = ((r0 : Nat) : Int)) := Lib.hid (wrap_eq (by omega) g0)
  have HR1 : Hid (IntKind.u64.wrap (((m1 : Nat) : Int) + ((u0 : Nat) : Int)) = ((r1 : Nat) : Int)) := Lib.hid (wrap_eq (by omega) g1)
  have HR2 : Hid (IntKind.u64.wrap (((m2 : Nat) : Int) + ((u1 : Nat) : Int)) = ((r2 : Nat) : Int)) := Lib.hid (wrap_eq (by omega) g2)
  have HR3 : Hid (IntKind.u64.wrap (((m3 : Nat) : Int) + ((u2 : Nat) : Int)) = ((r3 : Nat) : Int)) := Lib.hid (wrap_eq (by omega) g3)
  have HR4 : Hid (IntKind.u64.wrap (((m4 : Nat) : Int) + ((u3 : Nat) : Int)) = ((r4 : Nat) : Int)) := Lib.hid (wrap_eq (by omega) g4)
  have ER := Lib.hid et.symm
  have HB := Lib.hid (boxes3 w (L5.vs ⟨a, b, c, d, e⟩) (L5.vs ⟨f, g, h, i, j⟩) zero5 61 61 61)
  clear t1 t2 t3 t4 t5 la lb lc ld le lf lg lh li lj ez1 ez2 ez3 ez4 ew0 ec0 eu0 em0 bu0 ew1 ec1 eu1 em1 bu1 ew2 ec2 eu2 em2 bu2 ew3 ec3 eu3 em3 bu3 ew4 ec4 eu4 em4 bu4 eu5 er0 er1 er2 er3 er4 hrl2 et g0 g1 g2 g3 g4
  unfold L5.v
  go_enter Try.func37, Try.ntmps37
  go_wp2_with fail
  change Code.wp _ _ _ _ (((w.alloc (.cells (L5.vs ⟨a, b, c, d, e⟩).toArray 61)).alloc (.cells (L5.vs ⟨f, g, h, i, j⟩).toArray 61)).alloc (.cells zero5.toArray 61))
  generalize ((w.alloc (.cells (L5.vs ⟨a, b, c, d, e⟩).toArray 61)).alloc (.cells (L5.vs ⟨f, g, h, i, j⟩).toArray 61)).alloc (.cells zero5.toArray 61) = w0 at *
  obtain ⟨h1, h2, h3, h4⟩ := HB.out
  obtain ⟨A, hA⟩ : ∃ A, A = w.heap.size := ⟨_, rfl⟩
  rw [← hA] at h1 h2 h3 ⊢
  have hA2 : w.heap.size ≤ A := by omega
  have H1 := Lib.hid h1
  have H2 := Lib.hid h2
  have H3 := Lib.hid h3
  have HE : Hid (Ext w w0) := Lib.hid h4
  clear h1 h2 h3 h4 HB hA
  refine wp_region_from 16 0 16 rfl (by kernel_rfl) (by kernel_rfl) (fun d v c a w h => by cases d <;> exact h) (by kernel_rfl) ?_
  refine det_index _ _ _ _ A 5 1 (by rfl) rfl rfl rfl Try.underlying61 (by omega) (Try.sizeOf59) ?_
  simp only [Act.put, List.setIfInBounds_toArray, List.set_cons_zero, List.set_cons_succ]
  refine det_cell _ _ A 1 (.int .u64 ((b : Nat) : Int)) (by rfl) rfl rfl (fun w hw => (ext_blk H1.out hw).cell 1) (Try.isAgg59) ?_
  simp only [Act.put, List.setIfInBounds_toArray, List.set_cons_zero, List.set_cons_succ]
  refine det_mul _ _ _ _ _ _ _ (z1 : Nat) (by rfl) rfl rfl rfl HZ1.out ?_
  simp only [Act.put, List.setIfInBounds_toArray, List.set_cons_zero, List.set_cons_succ]
  refine det_index _ _ _ _ A 5 2 (by rfl) rfl rfl rfl Try.underlying61 (by omega) (Try.sizeOf59) ?_
  simp only [Act.put, List.setIfInBounds_toArray, List.set_cons_zero, List.set_cons_succ]
  refine det_cell _ _ A 2 (.int .u64 ((c : Nat) : Int)) (by rfl) rfl rfl (fun w hw => (ext_blk H1.out hw).cell 2) (Try.isAgg59) ?_
  simp only [Act.put, List.setIfInBounds_toArray, List.set_cons_zero, List.set_cons_succ]
  refine det_mul _ _ _ _ _ _ _ (z2 : Nat) (by rfl) rfl rfl rfl HZ2.out ?_
  simp only [Act.put, List.setIfInBounds_toArray, List.set_cons_zero, List.set_cons_succ]
  refine det_index _ _ _ _ A 5 3 (by rfl) rfl rfl rfl Try.underlying61 (by omega) (Try.sizeOf59) ?_
  simp only [Act.put, List.setIfInBounds_toArray, List.set_cons_zero, List.set_cons_succ]
  refine det_cell _ _ A 3 (.int .u64 ((d : Nat) : Int)) (by rfl) rfl rfl (fun w hw => (ext_blk H1.out hw).cell 3) (Try.isAgg59) ?_
  simp only [Act.put, List.setIfInBounds_toArray, List.set_cons_zero, List.set_cons_succ]
  refine det_mul _ _ _ _ _ _ _ (z3 : Nat) (by rfl) rfl rfl rfl HZ3.out ?_
  simp only [Act.put, List.setIfInBounds_toArray, List.set_cons_zero, List.set_cons_succ]
  refine det_index _ _ _ _ A 5 4 (by rfl) rfl rfl rfl Try.underlying61 (by omega) (Try.sizeOf59) ?_
  simp only [Act.put, List.setIfInBounds_toArray, List.set_cons_zero, List.set_cons_succ]
  refine det_cell _ _ A 4 (.int .u64 ((e : Nat) : Int)) (by rfl) rfl rfl (fun w hw => (ext_blk H1.out hw).cell 4) (Try.isAgg59) ?_
  simp only [Act.put, List.setIfInBounds_toArray, List.set_cons_zero, List.set_cons_succ]
  refine det_mul _ _ _ _ _ _ _ (z4 : Nat) (by rfl) rfl rfl rfl HZ4.out ?_
  simp only [Act.put, List.setIfInBounds_toArray, List.set_cons_zero, List.set_cons_succ]
  refine det_assign _ (.int .u64 ((z1 : Nat) : Int)) (by rfl) rfl rfl ?_
  simp only [Act.put, List.setIfInBounds_toArray, List.set_cons_zero, List.set_cons_succ]
  refine det_assign _ (.int .u64 ((z2 : Nat) : Int)) (by rfl) rfl rfl ?_
  simp only [Act.put, List.setIfInBounds_toArray, List.set_cons_zero, List.set_cons_succ]
  refine det_assign _ (.int .u64 ((z3 : Nat) : Int)) (by rfl) rfl rfl ?_
  simp only [Act.put, List.setIfInBounds_toArray, List.set_cons_zero, List.set_cons_succ]
  refine det_assign _ (.int .u64 ((z4 : Nat) : Int)) (by rfl) rfl rfl ?_
  simp only [Act.put, List.setIfInBounds_toArray, List.set_cons_zero, List.set_cons_succ]
  refine det_nil (end_none (by kernel_rfl) (fun w1 hw1 => ?_))
  have H1 := Lib.hid (ext_blk H1.out hw1)
  have H2 := Lib.hid (ext_blk H2.out hw1)
  have H3 := Lib.hid (ext_blk H3.out hw1)
  have HE := Lib.hid (HE.out.trans hw1)
  clear hw1
  go_wp2_with fail
  refine wp_region_from 21 2 22 rfl (by kernel_rfl) (by kernel_rfl) (fun d v c a w h => by cases d <;> exact h) (by kernel_rfl) ?_
  refine det_index _ _ _ _ A 5 0 (by rfl) rfl rfl rfl Try.underlying61 (by omega) (Try.sizeOf59) ?_
  simp only [Act.put, List.setIfInBounds_toArray, List.set_cons_zero, List.set_cons_succ]
  refine det_cell _ _ A 0 (.int .u64 ((a : Nat) : Int)) (by rfl) rfl rfl (fun w hw => (ext_blk H1.out hw).cell 0) (Try.isAgg59) ?_
  simp only [Act.put, List.setIfInBounds_toArray, List.set_cons_zero, List.set_cons_succ]
  refine det_index _ _ _ _ (A + 1) 5 0 (by rfl) rfl rfl rfl Try.underlying61 (by omega) (Try.sizeOf59) ?_
  simp only [Act.put, List.setIfInBounds_toArray, List.set_cons_zero, List.set_cons_succ]
  refine det_cell _ _ (A + 1) 0 (.int .u64 ((f : Nat) : Int)) (by rfl) rfl rfl (fun w hw => (ext_blk H2.out hw).cell 0) (Try.isAgg59) ?_
  simp only [Act.put, List.setIfInBounds_toArray, List.set_cons_zero, List.set_cons_succ]
  refine det_call _ _ _ [.int .u64 ((a : Nat) : Int), .int .u64 ((f : Nat) : Int)] (wideV (a * f)) (by rfl) rfl Try.call51 rfl (fun w hw => product_any a f Ba.out Bf.out w) ?_
  simp only [Act.put, List.setIfInBounds_toArray, List.set_cons_zero, List.set_cons_succ]
  refine det_move _ (.int .u64 ((z1 : Nat) : Int)) (by rfl) rfl rfl ?_
  simp only [Act.put, List.setIfInBounds_toArray, List.set_cons_zero, List.set_cons_succ]
  refine det_index _ _ _ _ (A + 1) 5 4 (by rfl) rfl rfl rfl Try.underlying61 (by omega) (Try.sizeOf59) ?_
  simp only [Act.put, List.setIfInBounds_toArray, List.set_cons_zero, List.set_cons_succ]
  refine det_cell _ _ (A + 1) 4 (.int .u64 ((j : Nat) : Int)) (by rfl) rfl rfl (fun w hw => (ext_blk H2.out hw).cell 4) (Try.isAgg59) ?_
  simp only [Act.put, List.setIfInBounds_toArray, List.set_cons_zero, List.set_cons_succ]
  refine det_call _ _ _ [wideV (a * f), .int .u64 ((z1 : Nat) : Int), .int .u64 ((j : Nat) : Int)] (wideV (a * f + z1 * j)) (by rfl) rfl Try.call52 rfl (fun w hw => plus_any (a * f) z1 j Bz1.out Bj.out C0_1.out w) ?_
  simp only [Act.put, List.setIfInBounds_toArray, List.set_cons_zero, List.set_cons_succ]
  refine det_move _ (.int .u64 ((z2 : Nat) : Int)) (by rfl) rfl rfl ?_
  simp only [Act.put, List.setIfInBounds_toArray, List.set_cons_zero, List.set_cons_succ]
  refine det_index _ _ _ _ (A + 1) 5 3 (by rfl) rfl rfl rfl Try.underlying61 (by omega) (Try.sizeOf59) ?_
  simp only [Act.put, List.setIfInBounds_toArray, List.set_cons_zero, List.set_cons_succ]
  refine det_cell _ _ (A + 1) 3 (.int .u64 ((i : Nat) : Int)) (by rfl) rfl rfl (fun w hw => (ext_blk H2.out hw).cell 3) (Try.isAgg59) ?_
  simp only [Act.put, List.setIfInBounds_toArray, List.set_cons_zero, List.set_cons_succ]
  refine det_call _ _ _ [wideV (a * f + z1 * j), .int .u64 ((z2 : Nat) : Int), .int .u64 ((i : Nat) : Int)] (wideV (a * f + z1 * j + z2 * i)) (by rfl) rfl Try.call52 rfl (fun w hw => plus_any (a * f + z1 * j) z2 i Bz2.out Bi.out C0_2.out w) ?_
  simp only [Act.put, List.setIfInBounds_toArray, List.set_cons_zero, List.set_cons_succ]
  refine det_move _ (.int .u64 ((z3 : Nat) : Int)) (by rfl) rfl rfl ?_
  simp only [Act.put, List.setIfInBounds_toArray, List.set_cons_zero, List.set_cons_succ]
  refine det_index _ _ _ _ (A + 1) 5 2 (by rfl) rfl rfl rfl Try.underlying61 (by omega) (Try.sizeOf59) ?_
  simp only [Act.put, List.setIfInBounds_toArray, List.set_cons_zero, List.set_cons_succ]
  refine det_cell _ _ (A + 1) 2 (.int .u64 ((h : Nat) : Int)) (by rfl) rfl rfl (fun w hw => (ext_blk H2.out hw).cell 2) (Try.isAgg59) ?_
  simp only [Act.put, List.setIfInBounds_toArray, List.set_cons_zero, List.set_cons_succ]
  refine det_call _ _ _ [wideV (a * f + z1 * j + z2 * i), .int .u64 ((z3 : Nat) : Int), .int .u64 ((h : Nat) : Int)] (wideV (a * f + z1 * j + z2 * i + z3 * h)) (by rfl) rfl Try.call52 rfl (fun w hw => plus_any (a * f + z1 * j + z2 * i) z3 h Bz3.out Bh.out C0_3.out w) ?_
  simp only [Act.put, List.setIfInBounds_toArray, List.set_cons_zero, List.set_cons_succ]
  refine det_move _ (.int .u64 ((z4 : Nat) : Int)) (by rfl) rfl rfl ?_
  simp only [Act.put, List.setIfInBounds_toArray, List.set_cons_zero, List.set_cons_succ]
  refine det_index _ _ _ _ (A + 1) 5 1 (by rfl) rfl rfl rfl Try.underlying61 (by omega) (Try.sizeOf59) ?_
  simp only [Act.put, List.setIfInBounds_toArray, List.set_cons_zero, List.set_cons_succ]
  refine det_cell _ _ (A + 1) 1 (.int .u64 ((g : Nat) : Int)) (by rfl) rfl rfl (fun w hw => (ext_blk H2.out hw).cell 1) (Try.isAgg59) ?_
  simp only [Act.put, List.setIfInBounds_toArray, List.set_cons_zero, List.set_cons_succ]
  refine det_call _ _ _ [wideV (a * f + z1 * j + z2 * i + z3 * h), .int .u64 ((z4 : Nat) : Int), .int .u64 ((g : Nat) : Int)] (wideV (a * f + z1 * j + z2 * i + z3 * h + z4 * g)) (by rfl) rfl Try.call52 rfl (fun w hw => plus_any (a * f + z1 * j + z2 * i + z3 * h) z4 g Bz4.out Bg.out C0_4.out w) ?_
  simp only [Act.put, List.setIfInBounds_toArray, List.set_cons_zero, List.set_cons_succ]
  refine det_nil (end_var (k := 21) _ 9 (.tmp 46) zero2 (wideL (a * f + z1 * j + z2 * i + z3 * h + z4 * g)) rfl rfl (by kernel_rfl) (by kernel_rfl) (by kernel_rfl) (by kernel_rfl) (by kernel_rfl) rfl rfl rfl rfl Try.zeroValue73 rfl (by simp) (fun p => rfl) rfl Try.arr73 (wideL_one _) (fun p0 w2 hp0 hb0 he0 => ?_))
  simp only [Act.put, List.setIfInBounds_toArray, List.set_cons_zero, List.set_cons_succ]
  rw [EW0.out] at hb0
  have HW0 := Lib.hid hb0
  have H1 := Lib.hid (ext_blk H1.out he0)
  have H2 := Lib.hid (ext_blk H2.out he0)
  have H3 := Lib.hid (ext_blk H3.out he0)
  have HE := Lib.hid (HE.out.trans he0)
  clear hb0 he0 hp0
  go_wp2_with fail
  refine wp_region_from 22 2 23 rfl (by kernel_rfl) (by kernel_rfl) (fun d v c a w h => by cases d <;> exact h) (by kernel_rfl) ?_
  refine det_index _ _ _ _ A 5 0 (by rfl) rfl rfl rfl Try.underlying61 (by omega) (Try.sizeOf59) ?_
  simp only [Act.put, List.setIfInBounds_toArray, List.set_cons_zero, List.set_cons_succ]
  refine det_cell _ _ A 0 (.int .u64 ((a : Nat) : Int)) (by rfl) rfl rfl (fun w hw => (ext_blk H1.out hw).cell 0) (Try.isAgg59) ?_
  simp only [Act.put, List.setIfInBounds_toArray, List.set_cons_zero, List.set_cons_succ]
  refine det_index _ _ _ _ (A + 1) 5 1 (by rfl) rfl rfl rfl Try.underlying61 (by omega) (Try.sizeOf59) ?_
  simp only [Act.put, List.setIfInBounds_toArray, List.set_cons_zero, List.set_cons_succ]
  refine det_cell _ _ (A + 1) 1 (.int .u64 ((g : Nat) : Int)) (by rfl) rfl rfl (fun w hw => (ext_blk H2.out hw).cell 1) (Try.isAgg59) ?_
  simp only [Act.put, List.setIfInBounds_toArray, List.set_cons_zero, List.set_cons_succ]
  refine det_call _ _ _ [.int .u64 ((a : Nat) : Int), .int .u64 ((g : Nat) : Int)] (wideV (a * g)) (by rfl) rfl Try.call51 rfl (fun w hw => product_any a g Ba.out Bg.out w) ?_
  simp only [Act.put, List.setIfInBounds_toArray, List.set_cons_zero, List.set_cons_succ]
  refine det_index _ _ _ _ A 5 1 (by rfl) rfl rfl rfl Try.underlying61 (by omega) (Try.sizeOf59) ?_
  simp only [Act.put, List.setIfInBounds_toArray, List.set_cons_zero, List.set_cons_succ]
  refine det_cell _ _ A 1 (.int .u64 ((b : Nat) : Int)) (by rfl) rfl rfl (fun w hw => (ext_blk H1.out hw).cell 1) (Try.isAgg59) ?_
  simp only [Act.put, List.setIfInBounds_toArray, List.set_cons_zero, List.set_cons_succ]
  refine det_index _ _ _ _ (A + 1) 5 0 (by rfl) rfl rfl rfl Try.underlying61 (by omega) (Try.sizeOf59) ?_
  simp only [Act.put, List.setIfInBounds_toArray, List.set_cons_zero, List.set_cons_succ]
  refine det_cell _ _ (A + 1) 0 (.int .u64 ((f : Nat) : Int)) (by rfl) rfl rfl (fun w hw => (ext_blk H2.out hw).cell 0) (Try.isAgg59) ?_
  simp only [Act.put, List.setIfInBounds_toArray, List.set_cons_zero, List.set_cons_succ]
  refine det_call _ _ _ [wideV (a * g), .int .u64 ((b : Nat) : Int), .int .u64 ((f : Nat) : Int)] (wideV (a * g + b * f)) (by rfl) rfl Try.call52 rfl (fun w hw => plus_any (a * g) b f Bb.out Bf.out C1_1.out w) ?_
  simp only [Act.put, List.setIfInBounds_toArray, List.set_cons_zero, List.set_cons_succ]
  refine det_move _ (.int .u64 ((z2 : Nat) : Int)) (by rfl) rfl rfl ?_
  simp only [Act.put, List.setIfInBounds_toArray, List.set_cons_zero, List.set_cons_succ]
  refine det_index _ _ _ _ (A + 1) 5 4 (by rfl) rfl rfl rfl Try.underlying61 (by omega) (Try.sizeOf59) ?_
  simp only [Act.put, List.setIfInBounds_toArray, List.set_cons_zero, List.set_cons_succ]
  refine det_cell _ _ (A + 1) 4 (.int .u64 ((j : Nat) : Int)) (by rfl) rfl rfl (fun w hw => (ext_blk H2.out hw).cell 4) (Try.isAgg59) ?_
  simp only [Act.put, List.setIfInBounds_toArray, List.set_cons_zero, List.set_cons_succ]
  refine det_call _ _ _ [wideV (a * g + b * f), .int .u64 ((z2 : Nat) : Int), .int .u64 ((j : Nat) : Int)] (wideV (a * g + b * f + z2 * j)) (by rfl) rfl Try.call52 rfl (fun w hw => plus_any (a * g + b * f) z2 j Bz2.out Bj.out C1_2.out w) ?_
  simp only [Act.put, List.setIfInBounds_toArray, List.set_cons_zero, List.set_cons_succ]
  refine det_move _ (.int .u64 ((z3 : Nat) : Int)) (by rfl) rfl rfl ?_
  simp only [Act.put, List.setIfInBounds_toArray, List.set_cons_zero, List.set_cons_succ]
  refine det_index _ _ _ _ (A + 1) 5 3 (by rfl) rfl rfl rfl Try.underlying61 (by omega) (Try.sizeOf59) ?_
  simp only [Act.put, List.setIfInBounds_toArray, List.set_cons_zero, List.set_cons_succ]
  refine det_cell _ _ (A + 1) 3 (.int .u64 ((i : Nat) : Int)) (by rfl) rfl rfl (fun w hw => (ext_blk H2.out hw).cell 3) (Try.isAgg59) ?_
  simp only [Act.put, List.setIfInBounds_toArray, List.set_cons_zero, List.set_cons_succ]
  refine det_call _ _ _ [wideV (a * g + b * f + z2 * j), .int .u64 ((z3 : Nat) : Int), .int .u64 ((i : Nat) : Int)] (wideV (a * g + b * f + z2 * j + z3 * i)) (by rfl) rfl Try.call52 rfl (fun w hw => plus_any (a * g + b * f + z2 * j) z3 i Bz3.out Bi.out C1_3.out w) ?_
  simp only [Act.put, List.setIfInBounds_toArray, List.set_cons_zero, List.set_cons_succ]
  refine det_move _ (.int .u64 ((z4 : Nat) : Int)) (by rfl) rfl rfl ?_
  simp only [Act.put, List.setIfInBounds_toArray, List.set_cons_zero, List.set_cons_succ]
  refine det_index _ _ _ _ (A + 1) 5 2 (by rfl) rfl rfl rfl Try.underlying61 (by omega) (Try.sizeOf59) ?_
  simp only [Act.put, List.setIfInBounds_toArray, List.set_cons_zero, List.set_cons_succ]
  refine det_cell _ _ (A + 1) 2 (.int .u64 ((h : Nat) : Int)) (by rfl) rfl rfl (fun w hw => (ext_blk H2.out hw).cell 2) (Try.isAgg59) ?_
  simp only [Act.put, List.setIfInBounds_toArray, List.set_cons_zero, List.set_cons_succ]
  refine det_call _ _ _ [wideV (a * g + b * f + z2 * j + z3 * i), .int .u64 ((z4 : Nat) : Int), .int .u64 ((h : Nat) : Int)] (wideV (a * g + b * f + z2 * j + z3 * i + z4 * h)) (by rfl) rfl Try.call52 rfl (fun w hw => plus_any (a * g + b * f + z2 * j + z3 * i) z4 h Bz4.out Bh.out C1_4.out w) ?_
  simp only [Act.put, List.setIfInBounds_toArray, List.set_cons_zero, List.set_cons_succ]
  refine det_nil (end_var (k := 22) _ 10 (.tmp 68) zero2 (wideL (a * g + b * f + z2 * j + z3 * i + z4 * h)) rfl rfl (by kernel_rfl) (by kernel_rfl) (by kernel_rfl) (by kernel_rfl) (by kernel_rfl) rfl rfl rfl rfl Try.zeroValue73 rfl (by simp) (fun p => rfl) rfl Try.arr73 (wideL_one _) (fun p1 w3 hp1 hb1 he1 => ?_))
  simp only [Act.put, List.setIfInBounds_toArray, List.set_cons_zero, List.set_cons_succ]
  rw [EW1.out] at hb1
  have HW0 := Lib.hid (ext_blk HW0.out he1)
  have HW1 := Lib.hid hb1
  have H1 := Lib.hid (ext_blk H1.out he1)
  have H2 := Lib.hid (ext_blk H2.out he1)
  have H3 := Lib.hid (ext_blk H3.out he1)
  have HE := Lib.hid (HE.out.trans he1)
  clear hb1 he1 hp1
  go_wp2_with fail
  refine wp_region_from 23 2 24 rfl (by kernel_rfl) (by kernel_rfl) (fun d v c a w h => by cases d <;> exact h) (by kernel_rfl) ?_
  refine det_index _ _ _ _ A 5 0 (by rfl) rfl rfl rfl Try.underlying61 (by omega) (Try.sizeOf59) ?_
  simp only [Act.put, List.setIfInBounds_toArray, List.set_cons_zero, List.set_cons_succ]
  refine det_cell _ _ A 0 (.int .u64 ((a : Nat) : Int)) (by rfl) rfl rfl (fun w hw => (ext_blk H1.out hw).cell 0) (Try.isAgg59) ?_
  simp only [Act.put, List.setIfInBounds_toArray, List.set_cons_zero, List.set_cons_succ]
  refine det_index _ _ _ _ (A + 1) 5 2 (by rfl) rfl rfl rfl Try.underlying61 (by omega) (Try.sizeOf59) ?_
  simp only [Act.put, List.setIfInBounds_toArray, List.set_cons_zero, List.set_cons_succ]
  refine det_cell _ _ (A + 1) 2 (.int .u64 ((h : Nat) : Int)) (by rfl) rfl rfl (fun w hw => (ext_blk H2.out hw).cell 2) (Try.isAgg59) ?_
  simp only [Act.put, List.setIfInBounds_toArray, List.set_cons_zero, List.set_cons_succ]
  refine det_call _ _ _ [.int .u64 ((a : Nat) : Int), .int .u64 ((h : Nat) : Int)] (wideV (a * h)) (by rfl) rfl Try.call51 rfl (fun w hw => product_any a h Ba.out Bh.out w) ?_
  simp only [Act.put, List.setIfInBounds_toArray, List.set_cons_zero, List.set_cons_succ]
  refine det_index _ _ _ _ A 5 1 (by rfl) rfl rfl rfl Try.underlying61 (by omega) (Try.sizeOf59) ?_
  simp only [Act.put, List.setIfInBounds_toArray, List.set_cons_zero, List.set_cons_succ]
  refine det_cell _ _ A 1 (.int .u64 ((b : Nat) : Int)) (by rfl) rfl rfl (fun w hw => (ext_blk H1.out hw).cell 1) (Try.isAgg59) ?_
  simp only [Act.put, List.setIfInBounds_toArray, List.set_cons_zero, List.set_cons_succ]
  refine det_index _ _ _ _ (A + 1) 5 1 (by rfl) rfl rfl rfl Try.underlying61 (by omega) (Try.sizeOf59) ?_
  simp only [Act.put, List.setIfInBounds_toArray, List.set_cons_zero, List.set_cons_succ]
  refine det_cell _ _ (A + 1) 1 (.int .u64 ((g : Nat) : Int)) (by rfl) rfl rfl (fun w hw => (ext_blk H2.out hw).cell 1) (Try.isAgg59) ?_
  simp only [Act.put, List.setIfInBounds_toArray, List.set_cons_zero, List.set_cons_succ]
  refine det_call _ _ _ [wideV (a * h), .int .u64 ((b : Nat) : Int), .int .u64 ((g : Nat) : Int)] (wideV (a * h + b * g)) (by rfl) rfl Try.call52 rfl (fun w hw => plus_any (a * h) b g Bb.out Bg.out C2_1.out w) ?_
  simp only [Act.put, List.setIfInBounds_toArray, List.set_cons_zero, List.set_cons_succ]
  refine det_index _ _ _ _ A 5 2 (by rfl) rfl rfl rfl Try.underlying61 (by omega) (Try.sizeOf59) ?_
  simp only [Act.put, List.setIfInBounds_toArray, List.set_cons_zero, List.set_cons_succ]
  refine det_cell _ _ A 2 (.int .u64 ((c : Nat) : Int)) (by rfl) rfl rfl (fun w hw => (ext_blk H1.out hw).cell 2) (Try.isAgg59) ?_
  simp only [Act.put, List.setIfInBounds_toArray, List.set_cons_zero, List.set_cons_succ]
  refine det_index _ _ _ _ (A + 1) 5 0 (by rfl) rfl rfl rfl Try.underlying61 (by omega) (Try.sizeOf59) ?_
  simp only [Act.put, List.setIfInBounds_toArray, List.set_cons_zero, List.set_cons_succ]
  refine det_cell _ _ (A + 1) 0 (.int .u64 ((f : Nat) : Int)) (by rfl) rfl rfl (fun w hw => (ext_blk H2.out hw).cell 0) (Try.isAgg59) ?_
  simp only [Act.put, List.setIfInBounds_toArray, List.set_cons_zero, List.set_cons_succ]
  refine det_call _ _ _ [wideV (a * h + b * g), .int .u64 ((c : Nat) : Int), .int .u64 ((f : Nat) : Int)] (wideV (a * h + b * g + c * f)) (by rfl) rfl Try.call52 rfl (fun w hw => plus_any (a * h + b * g) c f Bc.out Bf.out C2_2.out w) ?_
  simp only [Act.put, List.setIfInBounds_toArray, List.set_cons_zero, List.set_cons_succ]
  refine det_move _ (.int .u64 ((z3 : Nat) : Int)) (by rfl) rfl rfl ?_
  simp only [Act.put, List.setIfInBounds_toArray, List.set_cons_zero, List.set_cons_succ]
  refine det_index _ _ _ _ (A + 1) 5 4 (by rfl) rfl rfl rfl Try.underlying61 (by omega) (Try.sizeOf59) ?_
  simp only [Act.put, List.setIfInBounds_toArray, List.set_cons_zero, List.set_cons_succ]
  refine det_cell _ _ (A + 1) 4 (.int .u64 ((j : Nat) : Int)) (by rfl) rfl rfl (fun w hw => (ext_blk H2.out hw).cell 4) (Try.isAgg59) ?_
  simp only [Act.put, List.setIfInBounds_toArray, List.set_cons_zero, List.set_cons_succ]
  refine det_call _ _ _ [wideV (a * h + b * g + c * f), .int .u64 ((z3 : Nat) : Int), .int .u64 ((j : Nat) : Int)] (wideV (a * h + b * g + c * f + z3 * j)) (by rfl) rfl Try.call52 rfl (fun w hw => plus_any (a * h + b * g + c * f) z3 j Bz3.out Bj.out C2_3.out w) ?_
  simp only [Act.put, List.setIfInBounds_toArray, List.set_cons_zero, List.set_cons_succ]
  refine det_move _ (.int .u64 ((z4 : Nat) : Int)) (by rfl) rfl rfl ?_
  simp only [Act.put, List.setIfInBounds_toArray, List.set_cons_zero, List.set_cons_succ]
  refine det_index _ _ _ _ (A + 1) 5 3 (by rfl) rfl rfl rfl Try.underlying61 (by omega) (Try.sizeOf59) ?_
  simp only [Act.put, List.setIfInBounds_toArray, List.set_cons_zero, List.set_cons_succ]
  refine det_cell _ _ (A + 1) 3 (.int .u64 ((i : Nat) : Int)) (by rfl) rfl rfl (fun w hw => (ext_blk H2.out hw).cell 3) (Try.isAgg59) ?_
  simp only [Act.put, List.setIfInBounds_toArray, List.set_cons_zero, List.set_cons_succ]
  refine det_call _ _ _ [wideV (a * h + b * g + c * f + z3 * j), .int .u64 ((z4 : Nat) : Int), .int .u64 ((i : Nat) : Int)] (wideV (a * h + b * g + c * f + z3 * j + z4 * i)) (by rfl) rfl Try.call52 rfl (fun w hw => plus_any (a * h + b * g + c * f + z3 * j) z4 i Bz4.out Bi.out C2_4.out w) ?_
  simp only [Act.put, List.setIfInBounds_toArray, List.set_cons_zero, List.set_cons_succ]
  refine det_nil (end_var (k := 23) _ 11 (.tmp 91) zero2 (wideL (a * h + b * g + c * f + z3 * j + z4 * i)) rfl rfl (by kernel_rfl) (by kernel_rfl) (by kernel_rfl) (by kernel_rfl) (by kernel_rfl) rfl rfl rfl rfl Try.zeroValue73 rfl (by simp) (fun p => rfl) rfl Try.arr73 (wideL_one _) (fun p2 w4 hp2 hb2 he2 => ?_))
  simp only [Act.put, List.setIfInBounds_toArray, List.set_cons_zero, List.set_cons_succ]
  rw [EW2.out] at hb2
  have HW0 := Lib.hid (ext_blk HW0.out he2)
  have HW1 := Lib.hid (ext_blk HW1.out he2)
  have HW2 := Lib.hid hb2
  have H1 := Lib.hid (ext_blk H1.out he2)
  have H2 := Lib.hid (ext_blk H2.out he2)
  have H3 := Lib.hid (ext_blk H3.out he2)
  have HE := Lib.hid (HE.out.trans he2)
  clear hb2 he2 hp2
  go_wp2_with fail
  refine wp_region_from 24 2 25 rfl (by kernel_rfl) (by kernel_rfl) (fun d v c a w h => by cases d <;> exact h) (by kernel_rfl) ?_
  refine det_index _ _ _ _ A 5 0 (by rfl) rfl rfl rfl Try.underlying61 (by omega) (Try.sizeOf59) ?_
  simp only [Act.put, List.setIfInBounds_toArray, List.set_cons_zero, List.set_cons_succ]
  refine det_cell _ _ A 0 (.int .u64 ((a : Nat) : Int)) (by rfl) rfl rfl (fun w hw => (ext_blk H1.out hw).cell 0) (Try.isAgg59) ?_
  simp only [Act.put, List.setIfInBounds_toArray, List.set_cons_zero, List.set_cons_succ]
  refine det_index _ _ _ _ (A + 1) 5 3 (by rfl) rfl rfl rfl Try.underlying61 (by omega) (Try.sizeOf59) ?_
  simp only [Act.put, List.setIfInBounds_toArray, List.set_cons_zero, List.set_cons_succ]
  refine det_cell _ _ (A + 1) 3 (.int .u64 ((i : Nat) : Int)) (by rfl) rfl rfl (fun w hw => (ext_blk H2.out hw).cell 3) (Try.isAgg59) ?_
  simp only [Act.put, List.setIfInBounds_toArray, List.set_cons_zero, List.set_cons_succ]
  refine det_call _ _ _ [.int .u64 ((a : Nat) : Int), .int .u64 ((i : Nat) : Int)] (wideV (a * i)) (by rfl) rfl Try.call51 rfl (fun w hw => product_any a i Ba.out Bi.out w) ?_
  simp only [Act.put, List.setIfInBounds_toArray, List.set_cons_zero, List.set_cons_succ]
  refine det_index _ _ _ _ A 5 1 (by rfl) rfl rfl rfl Try.underlying61 (by omega) (Try.sizeOf59) ?_
  simp only [Act.put, List.setIfInBounds_toArray, List.set_cons_zero, List.set_cons_succ]
  refine det_cell _ _ A 1 (.int .u64 ((b : Nat) : Int)) (by rfl) rfl rfl (fun w hw => (ext_blk H1.out hw).cell 1) (Try.isAgg59) ?_
  simp only [Act.put, List.setIfInBounds_toArray, List.set_cons_zero, List.set_cons_succ]
  refine det_index _ _ _ _ (A + 1) 5 2 (by rfl) rfl rfl rfl Try.underlying61 (by omega) (Try.sizeOf59) ?_
  simp only [Act.put, List.setIfInBounds_toArray, List.set_cons_zero, List.set_cons_succ]
  refine det_cell _ _ (A + 1) 2 (.int .u64 ((h : Nat) : Int)) (by rfl) rfl rfl (fun w hw => (ext_blk H2.out hw).cell 2) (Try.isAgg59) ?_
  simp only [Act.put, List.setIfInBounds_toArray, List.set_cons_zero, List.set_cons_succ]
  refine det_call _ _ _ [wideV (a * i), .int .u64 ((b : Nat) : Int), .int .u64 ((h : Nat) : Int)] (wideV (a * i + b * h)) (by rfl) rfl Try.call52 rfl (fun w hw => plus_any (a * i) b h Bb.out Bh.out C3_1.out w) ?_
  simp only [Act.put, List.setIfInBounds_toArray, List.set_cons_zero, List.set_cons_succ]
  refine det_index _ _ _ _ A 5 2 (by rfl) rfl rfl rfl Try.underlying61 (by omega) (Try.sizeOf59) ?_
  simp only [Act.put, List.setIfInBounds_toArray, List.set_cons_zero, List.set_cons_succ]
  refine det_cell _ _ A 2 (.int .u64 ((c : Nat) : Int)) (by rfl) rfl rfl (fun w hw => (ext_blk H1.out hw).cell 2) (Try.isAgg59) ?_
  simp only [Act.put, List.setIfInBounds_toArray, List.set_cons_zero, List.set_cons_succ]
  refine det_index _ _ _ _ (A + 1) 5 1 (by rfl) rfl rfl rfl Try.underlying61 (by omega) (Try.sizeOf59) ?_
  simp only [Act.put, List.setIfInBounds_toArray, List.set_cons_zero, List.set_cons_succ]
  refine det_cell _ _ (A + 1) 1 (.int .u64 ((g : Nat) : Int)) (by rfl) rfl rfl (fun w hw => (ext_blk H2.out hw).cell 1) (Try.isAgg59) ?_
  simp only [Act.put, List.setIfInBounds_toArray, List.set_cons_zero, List.set_cons_succ]
  refine det_call _ _ _ [wideV (a * i + b * h), .int .u64 ((c : Nat) : Int), .int .u64 ((g : Nat) : Int)] (wideV (a * i + b * h + c * g)) (by rfl) rfl Try.call52 rfl (fun w hw => plus_any (a * i + b * h) c g Bc.out Bg.out C3_2.out w) ?_
  simp only [Act.put, List.setIfInBounds_toArray, List.set_cons_zero, List.set_cons_succ]
  refine det_index _ _ _ _ A 5 3 (by rfl) rfl rfl rfl Try.underlying61 (by omega) (Try.sizeOf59) ?_
  simp only [Act.put, List.setIfInBounds_toArray, List.set_cons_zero, List.set_cons_succ]
  refine det_cell _ _ A 3 (.int .u64 ((d : Nat) : Int)) (by rfl) rfl rfl (fun w hw => (ext_blk H1.out hw).cell 3) (Try.isAgg59) ?_
  simp only [Act.put, List.setIfInBounds_toArray, List.set_cons_zero, List.set_cons_succ]
  refine det_index _ _ _ _ (A + 1) 5 0 (by rfl) rfl rfl rfl Try.underlying61 (by omega) (Try.sizeOf59) ?_
  simp only [Act.put, List.setIfInBounds_toArray, List.set_cons_zero, List.set_cons_succ]
  refine det_cell _ _ (A + 1) 0 (.int .u64 ((f : Nat) : Int)) (by rfl) rfl rfl (fun w hw => (ext_blk H2.out hw).cell 0) (Try.isAgg59) ?_
  simp only [Act.put, List.setIfInBounds_toArray, List.set_cons_zero, List.set_cons_succ]
  refine det_call _ _ _ [wideV (a * i + b * h + c * g), .int .u64 ((d : Nat) : Int), .int .u64 ((f : Nat) : Int)] (wideV (a * i + b * h + c * g + d * f)) (by rfl) rfl Try.call52 rfl (fun w hw => plus_any (a * i + b * h + c * g) d f Bd.out Bf.out C3_3.out w) ?_
  simp only [Act.put, List.setIfInBounds_toArray, List.set_cons_zero, List.set_cons_succ]
  refine det_move _ (.int .u64 ((z4 : Nat) : Int)) (by rfl) rfl rfl ?_
  simp only [Act.put, List.setIfInBounds_toArray, List.set_cons_zero, List.set_cons_succ]
  refine det_index _ _ _ _ (A + 1) 5 4 (by rfl) rfl rfl rfl Try.underlying61 (by omega) (Try.sizeOf59) ?_
  simp only [Act.put, List.setIfInBounds_toArray, List.set_cons_zero, List.set_cons_succ]
  refine det_cell _ _ (A + 1) 4 (.int .u64 ((j : Nat) : Int)) (by rfl) rfl rfl (fun w hw => (ext_blk H2.out hw).cell 4) (Try.isAgg59) ?_
  simp only [Act.put, List.setIfInBounds_toArray, List.set_cons_zero, List.set_cons_succ]
  refine det_call _ _ _ [wideV (a * i + b * h + c * g + d * f), .int .u64 ((z4 : Nat) : Int), .int .u64 ((j : Nat) : Int)] (wideV (a * i + b * h + c * g + d * f + z4 * j)) (by rfl) rfl Try.call52 rfl (fun w hw => plus_any (a * i + b * h + c * g + d * f) z4 j Bz4.out Bj.out C3_4.out w) ?_
  simp only [Act.put, List.setIfInBounds_toArray, List.set_cons_zero, List.set_cons_succ]
  refine det_nil (end_var (k := 24) _ 12 (.tmp 115) zero2 (wideL (a * i + b * h + c * g + d * f + z4 * j)) rfl rfl (by kernel_rfl) (by kernel_rfl) (by kernel_rfl) (by kernel_rfl) (by kernel_rfl) rfl rfl rfl rfl Try.zeroValue73 rfl (by simp) (fun p => rfl) rfl Try.arr73 (wideL_one _) (fun p3 w5 hp3 hb3 he3 => ?_))
  simp only [Act.put, List.setIfInBounds_toArray, List.set_cons_zero, List.set_cons_succ]
  rw [EW3.out] at hb3
  have HW0 := Lib.hid (ext_blk HW0.out he3)
  have HW1 := Lib.hid (ext_blk HW1.out he3)
  have HW2 := Lib.hid (ext_blk HW2.out he3)
  have HW3 := Lib.hid hb3
  have H1 := Lib.hid (ext_blk H1.out he3)
  have H2 := Lib.hid (ext_blk H2.out he3)
  have H3 := Lib.hid (ext_blk H3.out he3)
  have HE := Lib.hid (HE.out.trans he3)
  clear hb3 he3 hp3
  go_wp2_with fail
  refine wp_region_from 25 2 26 rfl (by kernel_rfl) (by kernel_rfl) (fun d v c a w h => by cases d <;> exact h) (by kernel_rfl) ?_
  refine det_index _ _ _ _ A 5 0 (by rfl) rfl rfl rfl Try.underlying61 (by omega) (Try.sizeOf59) ?_
  simp only [Act.put, List.setIfInBounds_toArray, List.set_cons_zero, List.set_cons_succ]
  refine det_cell _ _ A 0 (.int .u64 ((a : Nat) : Int)) (by rfl) rfl rfl (fun w hw => (ext_blk H1.out hw).cell 0) (Try.isAgg59) ?_
  simp only [Act.put, List.setIfInBounds_toArray, List.set_cons_zero, List.set_cons_succ]
  refine det_index _ _ _ _ (A + 1) 5 4 (by rfl) rfl rfl rfl Try.underlying61 (by omega) (Try.sizeOf59) ?_
  simp only [Act.put, List.setIfInBounds_toArray, List.set_cons_zero, List.set_cons_succ]
  refine det_cell _ _ (A + 1) 4 (.int .u64 ((j : Nat) : Int)) (by rfl) rfl rfl (fun w hw => (ext_blk H2.out hw).cell 4) (Try.isAgg59) ?_
  simp only [Act.put, List.setIfInBounds_toArray, List.set_cons_zero, List.set_cons_succ]
  refine det_call _ _ _ [.int .u64 ((a : Nat) : Int), .int .u64 ((j : Nat) : Int)] (wideV (a * j)) (by rfl) rfl Try.call51 rfl (fun w hw => product_any a j Ba.out Bj.out w) ?_
  simp only [Act.put, List.setIfInBounds_toArray, List.set_cons_zero, List.set_cons_succ]
  refine det_index _ _ _ _ A 5 1 (by rfl) rfl rfl rfl Try.underlying61 (by omega) (Try.sizeOf59) ?_
  simp only [Act.put, List.setIfInBounds_toArray, List.set_cons_zero, List.set_cons_succ]
  refine det_cell _ _ A 1 (.int .u64 ((b : Nat) : Int)) (by rfl) rfl rfl (fun w hw => (ext_blk H1.out hw).cell 1) (Try.isAgg59) ?_
  simp only [Act.put, List.setIfInBounds_toArray, List.set_cons_zero, List.set_cons_succ]
  refine det_index _ _ _ _ (A + 1) 5 3 (by rfl) rfl rfl rfl Try.underlying61 (by omega) (Try.sizeOf59) ?_
  simp only [Act.put, List.setIfInBounds_toArray, List.set_cons_zero, List.set_cons_succ]
  refine det_cell _ _ (A + 1) 3 (.int .u64 ((i : Nat) : Int)) (by rfl) rfl rfl (fun w hw => (ext_blk H2.out hw).cell 3) (Try.isAgg59) ?_
  simp only [Act.put, List.setIfInBounds_toArray, List.set_cons_zero, List.set_cons_succ]
  refine det_call _ _ _ [wideV (a * j), .int .u64 ((b : Nat) : Int), .int .u64 ((i : Nat) : Int)] (wideV (a * j + b * i)) (by rfl) rfl Try.call52 rfl (fun w hw => plus_any (a * j) b i Bb.out Bi.out C4_1.out w) ?_
  simp only [Act.put, List.setIfInBounds_toArray, List.set_cons_zero, List.set_cons_succ]
  refine det_index _ _ _ _ A 5 2 (by rfl) rfl rfl rfl Try.underlying61 (by omega) (Try.sizeOf59) ?_
  simp only [Act.put, List.setIfInBounds_toArray, List.set_cons_zero, List.set_cons_succ]
  refine det_cell _ _ A 2 (.int .u64 ((c : Nat) : Int)) (by rfl) rfl rfl (fun w hw => (ext_blk H1.out hw).cell 2) (Try.isAgg59) ?_
  simp only [Act.put, List.setIfInBounds_toArray, List.set_cons_zero, List.set_cons_succ]
  refine det_index _ _ _ _ (A + 1) 5 2 (by rfl) rfl rfl rfl Try.underlying61 (by omega) (Try.sizeOf59) ?_
  simp only [Act.put, List.setIfInBounds_toArray, List.set_cons_zero, List.set_cons_succ]
  refine det_cell _ _ (A + 1) 2 (.int .u64 ((h : Nat) : Int)) (by rfl) rfl rfl (fun w hw => (ext_blk H2.out hw).cell 2) (Try.isAgg59) ?_
  simp only [Act.put, List.setIfInBounds_toArray, List.set_cons_zero, List.set_cons_succ]
  refine det_call _ _ _ [wideV (a * j + b * i), .int .u64 ((c : Nat) : Int), .int .u64 ((h : Nat) : Int)] (wideV (a * j + b * i + c * h)) (by rfl) rfl Try.call52 rfl (fun w hw => plus_any (a * j + b * i) c h Bc.out Bh.out C4_2.out w) ?_
  simp only [Act.put, List.setIfInBounds_toArray, List.set_cons_zero, List.set_cons_succ]
  refine det_index _ _ _ _ A 5 3 (by rfl) rfl rfl rfl Try.underlying61 (by omega) (Try.sizeOf59) ?_
  simp only [Act.put, List.setIfInBounds_toArray, List.set_cons_zero, List.set_cons_succ]
  refine det_cell _ _ A 3 (.int .u64 ((d : Nat) : Int)) (by rfl) rfl rfl (fun w hw => (ext_blk H1.out hw).cell 3) (Try.isAgg59) ?_
  simp only [Act.put, List.setIfInBounds_toArray, List.set_cons_zero, List.set_cons_succ]
  refine det_index _ _ _ _ (A + 1) 5 1 (by rfl) rfl rfl rfl Try.underlying61 (by omega) (Try.sizeOf59) ?_
  simp only [Act.put, List.setIfInBounds_toArray, List.set_cons_zero, List.set_cons_succ]
  refine det_cell _ _ (A + 1) 1 (.int .u64 ((g : Nat) : Int)) (by rfl) rfl rfl (fun w hw => (ext_blk H2.out hw).cell 1) (Try.isAgg59) ?_
  simp only [Act.put, List.setIfInBounds_toArray, List.set_cons_zero, List.set_cons_succ]
  refine det_call _ _ _ [wideV (a * j + b * i + c * h), .int .u64 ((d : Nat) : Int), .int .u64 ((g : Nat) : Int)] (wideV (a * j + b * i + c * h + d * g)) (by rfl) rfl Try.call52 rfl (fun w hw => plus_any (a * j + b * i + c * h) d g Bd.out Bg.out C4_3.out w) ?_
  simp only [Act.put, List.setIfInBounds_toArray, List.set_cons_zero, List.set_cons_succ]
  refine det_index _ _ _ _ A 5 4 (by rfl) rfl rfl rfl Try.underlying61 (by omega) (Try.sizeOf59) ?_
  simp only [Act.put, List.setIfInBounds_toArray, List.set_cons_zero, List.set_cons_succ]
  refine det_cell _ _ A 4 (.int .u64 ((e : Nat) : Int)) (by rfl) rfl rfl (fun w hw => (ext_blk H1.out hw).cell 4) (Try.isAgg59) ?_
  simp only [Act.put, List.setIfInBounds_toArray, List.set_cons_zero, List.set_cons_succ]
  refine det_index _ _ _ _ (A + 1) 5 0 (by rfl) rfl rfl rfl Try.underlying61 (by omega) (Try.sizeOf59) ?_
  simp only [Act.put, List.setIfInBounds_toArray, List.set_cons_zero, List.set_cons_succ]
  refine det_cell _ _ (A + 1) 0 (.int .u64 ((f : Nat) : Int)) (by rfl) rfl rfl (fun w hw => (ext_blk H2.out hw).cell 0) (Try.isAgg59) ?_
  simp only [Act.put, List.setIfInBounds_toArray, List.set_cons_zero, List.set_cons_succ]
  refine det_call _ _ _ [wideV (a * j + b * i + c * h + d * g), .int .u64 ((e : Nat) : Int), .int .u64 ((f : Nat) : Int)] (wideV (a * j + b * i + c * h + d * g + e * f)) (by rfl) rfl Try.call52 rfl (fun w hw => plus_any (a * j + b * i + c * h + d * g) e f Be.out Bf.out C4_4.out w) ?_
  simp only [Act.put, List.setIfInBounds_toArray, List.set_cons_zero, List.set_cons_succ]
  refine det_nil (end_var (k := 25) _ 13 (.tmp 140) zero2 (wideL (a * j + b * i + c * h + d * g + e * f)) rfl rfl (by kernel_rfl) (by kernel_rfl) (by kernel_rfl) (by kernel_rfl) (by kernel_rfl) rfl rfl rfl rfl Try.zeroValue73 rfl (by simp) (fun p => rfl) rfl Try.arr73 (wideL_one _) (fun p4 w6 hp4 hb4 he4 => ?_))
  simp only [Act.put, List.setIfInBounds_toArray, List.set_cons_zero, List.set_cons_succ]
  rw [EW4.out] at hb4
  have HW0 := Lib.hid (ext_blk HW0.out he4)
  have HW1 := Lib.hid (ext_blk HW1.out he4)
  have HW2 := Lib.hid (ext_blk HW2.out he4)
  have HW3 := Lib.hid (ext_blk HW3.out he4)
  have HW4 := Lib.hid hb4
  have H1 := Lib.hid (ext_blk H1.out he4)
  have H2 := Lib.hid (ext_blk H2.out he4)
  have H3 := Lib.hid (ext_blk H3.out he4)
  have HE := Lib.hid (HE.out.trans he4)
  clear hb4 he4 hp4
  go_wp2_with fail
  refine wp_region_from 33 1 33 rfl (by kernel_rfl) (by kernel_rfl) (fun d v c a w h => by cases d <;> exact h) (by kernel_rfl) ?_
  refine det_field _ _ p0 1 1 (by rfl) rfl rfl (fun w => by go_simp) ?_
  simp only [Act.put, List.setIfInBounds_toArray, List.set_cons_zero, List.set_cons_succ]
  refine det_cell _ _ p0 1 (.int .u64 ((W0 % 18446744073709551616 : Nat) : Int)) (by rfl) rfl rfl (fun w hw => (ext_blk HW0.out hw).cell 1) (Try.isAgg59) ?_
  simp only [Act.put, List.setIfInBounds_toArray, List.set_cons_zero, List.set_cons_succ]
  refine det_and _ _ _ _ _ _ _ (m0 : Nat) (by rfl) rfl rfl rfl HM0.out ?_
  simp only [Act.put, List.setIfInBounds_toArray, List.set_cons_zero, List.set_cons_succ]
  refine det_load _ _ p4 (wideL W4) _ (by rfl) rfl rfl (fun w hw => ext_range HW4.out hw) Try.underlying73 rfl Try.arr73 ?_
  simp only [Act.put, List.setIfInBounds_toArray, List.set_cons_zero, List.set_cons_succ]
  refine det_call _ _ _ [wideV W4] (.int .u64 ((u4 : Nat) : Int)) (by rfl) rfl Try.call53 rfl (fun w hw => above_u W4 u4 EU4.out w) ?_
  simp only [Act.put, List.setIfInBounds_toArray, List.set_cons_zero, List.set_cons_succ]
  refine det_mul _ _ _ _ _ _ _ (u5 : Nat) (by rfl) rfl rfl rfl HU5.out ?_
  simp only [Act.put, List.setIfInBounds_toArray, List.set_cons_zero, List.set_cons_succ]
  refine det_add _ _ _ _ _ _ _ (r0 : Nat) (by rfl) rfl rfl rfl HR0.out ?_
  simp only [Act.put, List.setIfInBounds_toArray, List.set_cons_zero, List.set_cons_succ]
  refine det_field _ _ p1 1 1 (by rfl) rfl rfl (fun w => by go_simp) ?_
  simp only [Act.put, List.setIfInBounds_toArray, List.set_cons_zero, List.set_cons_succ]
  refine det_cell _ _ p1 1 (.int .u64 ((W1 % 18446744073709551616 : Nat) : Int)) (by rfl) rfl rfl (fun w hw => (ext_blk HW1.out hw).cell 1) (Try.isAgg59) ?_
  simp only [Act.put, List.setIfInBounds_toArray, List.set_cons_zero, List.set_cons_succ]
  refine det_and _ _ _ _ _ _ _ (m1 : Nat) (by rfl) rfl rfl rfl HM1.out ?_
  simp only [Act.put, List.setIfInBounds_toArray, List.set_cons_zero, List.set_cons_succ]
  refine det_load _ _ p0 (wideL W0) _ (by rfl) rfl rfl (fun w hw => ext_range HW0.out hw) Try.underlying73 rfl Try.arr73 ?_
  simp only [Act.put, List.setIfInBounds_toArray, List.set_cons_zero, List.set_cons_succ]
  refine det_call _ _ _ [wideV W0] (.int .u64 ((u0 : Nat) : Int)) (by rfl) rfl Try.call53 rfl (fun w hw => above_u W0 u0 EU0.out w) ?_
  simp only [Act.put, List.setIfInBounds_toArray, List.set_cons_zero, List.set_cons_succ]
  refine det_add _ _ _ _ _ _ _ (r1 : Nat) (by rfl) rfl rfl rfl HR1.out ?_
  simp only [Act.put, List.setIfInBounds_toArray, List.set_cons_zero, List.set_cons_succ]
  refine det_field _ _ p2 1 1 (by rfl) rfl rfl (fun w => by go_simp) ?_
  simp only [Act.put, List.setIfInBounds_toArray, List.set_cons_zero, List.set_cons_succ]
  refine det_cell _ _ p2 1 (.int .u64 ((W2 % 18446744073709551616 : Nat) : Int)) (by rfl) rfl rfl (fun w hw => (ext_blk HW2.out hw).cell 1) (Try.isAgg59) ?_
  simp only [Act.put, List.setIfInBounds_toArray, List.set_cons_zero, List.set_cons_succ]
  refine det_and _ _ _ _ _ _ _ (m2 : Nat) (by rfl) rfl rfl rfl HM2.out ?_
  simp only [Act.put, List.setIfInBounds_toArray, List.set_cons_zero, List.set_cons_succ]
  refine det_load _ _ p1 (wideL W1) _ (by rfl) rfl rfl (fun w hw => ext_range HW1.out hw) Try.underlying73 rfl Try.arr73 ?_
  simp only [Act.put, List.setIfInBounds_toArray, List.set_cons_zero, List.set_cons_succ]
  refine det_call _ _ _ [wideV W1] (.int .u64 ((u1 : Nat) : Int)) (by rfl) rfl Try.call53 rfl (fun w hw => above_u W1 u1 EU1.out w) ?_
  simp only [Act.put, List.setIfInBounds_toArray, List.set_cons_zero, List.set_cons_succ]
  refine det_add _ _ _ _ _ _ _ (r2 : Nat) (by rfl) rfl rfl rfl HR2.out ?_
  simp only [Act.put, List.setIfInBounds_toArray, List.set_cons_zero, List.set_cons_succ]
  refine det_field _ _ p3 1 1 (by rfl) rfl rfl (fun w => by go_simp) ?_
  simp only [Act.put, List.setIfInBounds_toArray, List.set_cons_zero, List.set_cons_succ]
  refine det_cell _ _ p3 1 (.int .u64 ((W3 % 18446744073709551616 : Nat) : Int)) (by rfl) rfl rfl (fun w hw => (ext_blk HW3.out hw).cell 1) (Try.isAgg59) ?_
  simp only [Act.put, List.setIfInBounds_toArray, List.set_cons_zero, List.set_cons_succ]
  refine det_and _ _ _ _ _ _ _ (m3 : Nat) (by rfl) rfl rfl rfl HM3.out ?_
  simp only [Act.put, List.setIfInBounds_toArray, List.set_cons_zero, List.set_cons_succ]
  refine det_load _ _ p2 (wideL W2) _ (by rfl) rfl rfl (fun w hw => ext_range HW2.out hw) Try.underlying73 rfl Try.arr73 ?_
  simp only [Act.put, List.setIfInBounds_toArray, List.set_cons_zero, List.set_cons_succ]
  refine det_call _ _ _ [wideV W2] (.int .u64 ((u2 : Nat) : Int)) (by rfl) rfl Try.call53 rfl (fun w hw => above_u W2 u2 EU2.out w) ?_
  simp only [Act.put, List.setIfInBounds_toArray, List.set_cons_zero, List.set_cons_succ]
  refine det_add _ _ _ _ _ _ _ (r3 : Nat) (by rfl) rfl rfl rfl HR3.out ?_
  simp only [Act.put, List.setIfInBounds_toArray, List.set_cons_zero, List.set_cons_succ]
  refine det_field _ _ p4 1 1 (by rfl) rfl rfl (fun w => by go_simp) ?_
  simp only [Act.put, List.setIfInBounds_toArray, List.set_cons_zero, List.set_cons_succ]
  refine det_cell _ _ p4 1 (.int .u64 ((W4 % 18446744073709551616 : Nat) : Int)) (by rfl) rfl rfl (fun w hw => (ext_blk HW4.out hw).cell 1) (Try.isAgg59) ?_
  simp only [Act.put, List.setIfInBounds_toArray, List.set_cons_zero, List.set_cons_succ]
  refine det_and _ _ _ _ _ _ _ (m4 : Nat) (by rfl) rfl rfl rfl HM4.out ?_
  simp only [Act.put, List.setIfInBounds_toArray, List.set_cons_zero, List.set_cons_succ]
  refine det_load _ _ p3 (wideL W3) _ (by rfl) rfl rfl (fun w hw => ext_range HW3.out hw) Try.underlying73 rfl Try.arr73 ?_
  simp only [Act.put, List.setIfInBounds_toArray, List.set_cons_zero, List.set_cons_succ]
  refine det_call _ _ _ [wideV W3] (.int .u64 ((u3 : Nat) : Int)) (by rfl) rfl Try.call53 rfl (fun w hw => above_u W3 u3 EU3.out w) ?_
  simp only [Act.put, List.setIfInBounds_toArray, List.set_cons_zero, List.set_cons_succ]
  refine det_add _ _ _ _ _ _ _ (r4 : Nat) (by rfl) rfl rfl rfl HR4.out ?_
  simp only [Act.put, List.setIfInBounds_toArray, List.set_cons_zero, List.set_cons_succ]
  refine det_val (L5.v ⟨r0, r1, r2, r3, r4⟩) (by rfl) (fun w hw => by unfold L5.v L5.vs; go_simp) ?_
  simp only [Act.put, List.setIfInBounds_toArray, List.set_cons_zero, List.set_cons_succ]
  refine det_call _ _ _ [L5.v ⟨r0, r1, r2, r3, r4⟩] ((carriedL ⟨r0, r1, r2, r3, r4⟩).v) (by rfl) rfl Try.call49 rfl (fun w hw => carried_any ⟨r0, r1, r2, r3, r4⟩ BR.out w) ?_
  simp only [Act.put, List.setIfInBounds_toArray, List.set_cons_zero, List.set_cons_succ]
  refine det_nil (end_set (k := 33) _ _ _ _ (A + 1 + 1) (carriedL ⟨r0, r1, r2, r3, r4⟩).vs zero5 rfl (by kernel_rfl) (by kernel_rfl) (by kernel_rfl) rfl rfl rfl rfl H3.out rfl Try.arr61 (L5.vs_one _) (fun w8 hb8 hg8 => ?_))
  simp only [Act.put]
  go_wp2_with fail
  rw [ER.out] at hb8 ⊢
  exact bodyPost_ret (v := (timesL ⟨a, b, c, d, e⟩ ⟨f, g, h, i, j⟩).v) (result_row (by rfl) _ (A + 1 + 1) _ _ _ (by rfl) hb8 Try.underlying61 rfl Try.arr61) rfl ⟨rfl, ext_grown HE.out hg8 (by omega)⟩

end Go.Proofs.Ytdjdalaghfknoaa

/- The walks of the code's Mul. Each theorem names its own conditions. -/
namespace Go.Proofs.Ytdjdalaghfknoaa
open Go.RowKit
set_option linter.unusedVariables false
set_option linter.unusedSimpArgs false

theorem nb_len (x : Int) : ((nb x).map bval).length = zero32.length := by rw [List.length_map, nb_length]; rfl
theorem nb_size (x : Int) : (Try.prog.info? 23).map (·.size) = some ((nb x).map bval).length := by rw [List.length_map, nb_length]; exact Try.arr23
theorem nb_cong {x y : Int} (h : Cong x y) : nb x = nb y := by unfold nb; rw [cong_iff.1 h]
theorem numP_cong {x y : Int} (h : Cong x y) : numP x = numP y := by
  show Value.agg ((nb x).map bval).toArray = Value.agg ((nb y).map bval).toArray
  rw [nb_cong h]
set_option maxRecDepth 100000 in
set_option maxHeartbeats 4000000 in
theorem Mul_num (l m : List UInt8) (w : World) (hl : l.length = 32) (hm : m.length = 32) :
    Calls Try.prog 23 #[.agg (l.map bval).toArray, .agg (m.map bval).toArray] w fun e w' => e = .returned (numP ((leN l : Int) * leN m)) ∧ Below w.heap.size w w' := by
  have HV := Lib.hid (numP_cong ((timesL_val (limbsL l) (limbsL m)).trans ((limbsL_val l hl).mul (limbsL_val m hm))))
  have HLl := Lib.hid hl
  have HLm := Lib.hid hm
  have HIl : Hid ((Try.prog.info? 23).map (·.size) = some (l.map bval).length) := Lib.hid (by rw [List.length_map, hl]; exact Try.arr23)
  have HIm : Hid ((Try.prog.info? 23).map (·.size) = some (m.map bval).length) := Lib.hid (by rw [List.length_map, hm]; exact Try.arr23)
  have HB := Lib.hid (boxes3 w (l.map bval) (m.map bval) zero32 23 23 23)
  clear hl hm
  go_enter Try.func23, Try.ntmps23
  go_wp2_with fail
  change Code.wp _ _ _ _ (((w.alloc (.cells (l.map bval).toArray 23)).alloc (.cells (m.map bval).toArray 23)).alloc (.cells zero32.toArray 23))
  generalize ((w.alloc (.cells (l.map bval).toArray 23)).alloc (.cells (m.map bval).toArray 23)).alloc (.cells zero32.toArray 23) = w0 at *
  obtain ⟨h1, h2, h3, h4⟩ := HB.out
  obtain ⟨A, hA⟩ : ∃ A, A = w.heap.size := ⟨_, rfl⟩
  rw [← hA] at h1 h2 h3 ⊢
  have hA2 : w.heap.size ≤ A := by omega
  have H1 := Lib.hid h1
  have H2 := Lib.hid h2
  have H3 := Lib.hid h3
  have HE : Hid (Ext w w0) := Lib.hid h4
  clear h1 h2 h3 h4 HB hA
  refine wp_region_from 6 1 6 rfl (by kernel_rfl) (by kernel_rfl) (fun d v c a w h => by cases d <;> exact h) (by kernel_rfl) ?_
  refine det_load _ _ A (l.map bval) _ (by rfl) rfl rfl (fun w hw => ext_range H1.out hw) Try.underlying23 rfl HIl.out ?_
  simp only [Act.put, List.setIfInBounds_toArray, List.set_cons_zero, List.set_cons_succ]
  refine det_call _ _ _ [.agg (l.map bval).toArray] ((limbsL l).v) (by rfl) rfl Try.call38 rfl (fun w hw => limbsOf_any l HLl.out w) ?_
  simp only [Act.put, List.setIfInBounds_toArray, List.set_cons_zero, List.set_cons_succ]
  refine det_load _ _ (A + 1) (m.map bval) _ (by rfl) rfl rfl (fun w hw => ext_range H2.out hw) Try.underlying23 rfl HIm.out ?_
  simp only [Act.put, List.setIfInBounds_toArray, List.set_cons_zero, List.set_cons_succ]
  refine det_call _ _ _ [.agg (m.map bval).toArray] ((limbsL m).v) (by rfl) rfl Try.call38 rfl (fun w hw => limbsOf_any m HLm.out w) ?_
  simp only [Act.put, List.setIfInBounds_toArray, List.set_cons_zero, List.set_cons_succ]
  refine det_call _ _ _ [(limbsL l).v, (limbsL m).v] ((timesL (limbsL l) (limbsL m)).v) (by rfl) rfl Try.call37 rfl (fun w hw => times_any _ _ (limbsL_lt l) (limbsL_lt m) w) ?_
  simp only [Act.put, List.setIfInBounds_toArray, List.set_cons_zero, List.set_cons_succ]
  refine det_call _ _ _ [(timesL (limbsL l) (limbsL m)).v] (numP ((timesL (limbsL l) (limbsL m)).val : Nat)) (by rfl) rfl Try.call36 rfl (fun w hw => numOf_any _ ((timesL_lt (limbsL_lt l) (limbsL_lt m)).mono (by omega)) w) ?_
  simp only [Act.put, List.setIfInBounds_toArray, List.set_cons_zero, List.set_cons_succ]
  rw [HV.out]
  refine det_nil (end_set (k := 6) _ _ _ _ (A + 1 + 1) ((nb ((leN l : Int) * leN m)).map bval) zero32 rfl (by kernel_rfl) (by kernel_rfl) (by kernel_rfl) rfl rfl rfl rfl H3.out (nb_len _) (nb_size _) (bval_one _) (fun w8 hb8 hg8 => ?_))
  simp only [Act.put]
  go_wp2_with fail
  exact bodyPost_ret (v := numP ((leN l : Int) * leN m)) (result_row (by rfl) _ (A + 1 + 1) _ _ _ (by rfl) hb8 Try.underlying23 rfl (nb_size _)) rfl ⟨rfl, ext_grown HE.out hg8 (by omega)⟩

end Go.Proofs.Ytdjdalaghfknoaa

/- The walks of the code's Add and Sub. Each theorem names its own conditions. -/
namespace Go.Proofs.Ytdjdalaghfknoaa
open Go.RowKit
set_option linter.unusedVariables false
set_option linter.unusedSimpArgs false

theorem limbsL_lt2 (l : List UInt8) : (limbsL l).lt 2251799813685267 := by
  have hd := wAt_lt l 24
  refine ⟨?_, ?_, ?_, ?_, ?_⟩ <;> simp only [limbsL, limbsW] <;> omega
structure SumL (xs ys zs : List Nat) (k : Nat) : Prop where
  len : zs.length = 5
  low : ∀ i, i < k → zs.getD i 0 = xs.getD i 0 + ys.getD i 0
  high : ∀ i, k ≤ i → zs.getD i 0 = xs.getD i 0
theorem SumL.step {xs ys zs : List Nat} {k : Nat} (h : SumL xs ys zs k) (hk : k < 5) : SumL xs ys (zs.set k (xs.getD k 0 + ys.getD k 0)) (k + 1) := by
  obtain ⟨h1, h2, h3⟩ := h
  refine ⟨by simp [h1], fun i hi => ?_, fun i hi => ?_⟩
  · by_cases e : i = k
    · subst e
      rw [getD_setN (by omega)]
    · rw [getD_setN_far (by omega)]
      exact h2 i (by omega)
  · rw [getD_setN_far (by omega)]
    exact h3 i (by omega)
theorem sum_done {x y : L5} {xs ys zs : List Nat} (ex : xs = [x.a, x.b, x.c, x.d, x.e]) (ey : ys = [y.a, y.b, y.c, y.d, y.e]) (hx : x.lt 2251799813685267) (hy : y.lt 2251799813685267) (h : SumL xs ys zs 5) :
    ∃ z : L5, zs = [z.a, z.b, z.c, z.d, z.e] ∧ z.lt 18446744073709551616 ∧ z.val = x.val + y.val := by
  subst ex
  subst ey
  have e := list5 zs h.len
  have f0 := h.low 0 (by omega)
  have f1 := h.low 1 (by omega)
  have f2 := h.low 2 (by omega)
  have f3 := h.low 3 (by omega)
  have f4 := h.low 4 (by omega)
  simp only [List.getD_cons_zero, List.getD_cons_succ] at f0 f1 f2 f3 f4
  obtain ⟨a0, a1, a2, a3, a4⟩ := hx
  obtain ⟨b0, b1, b2, b3, b4⟩ := hy
  refine ⟨⟨zs.getD 0 0, zs.getD 1 0, zs.getD 2 0, zs.getD 3 0, zs.getD 4 0⟩, e, ?_, ?_⟩
  · simp only [L5.lt]
    omega
  · simp only [L5.val]
    omega
/-- 2 p, so laid that no limb falls below 0. -/
def twiceL : L5 := ⟨4503599627370458, 4503599627370494, 4503599627370494, 4503599627370494, 4503599627370494⟩
def twiceN : List Nat := [4503599627370458, 4503599627370494, 4503599627370494, 4503599627370494, 4503599627370494]
theorem twice_bounds (k : Nat) (h : k < 5) : 4503599627370458 ≤ twiceN.getD k 0 ∧ twiceN.getD k 0 ≤ 4503599627370494 := by
  match k, h with
  | 0, _ => decide
  | 1, _ => decide
  | 2, _ => decide
  | 3, _ => decide
  | 4, _ => decide
structure DifL (xs ys zs : List Nat) (k : Nat) : Prop where
  len : zs.length = 5
  low : ∀ i, i < k → zs.getD i 0 = xs.getD i 0 + (twiceN.getD i 0 - ys.getD i 0)
  high : ∀ i, k ≤ i → zs.getD i 0 = xs.getD i 0
theorem DifL.step {xs ys zs : List Nat} {k : Nat} (h : DifL xs ys zs k) (hk : k < 5) : DifL xs ys (zs.set k (xs.getD k 0 + (twiceN.getD k 0 - ys.getD k 0))) (k + 1) := by
  obtain ⟨h1, h2, h3⟩ := h
  refine ⟨by simp [h1], fun i hi => ?_, fun i hi => ?_⟩
  · by_cases e : i = k
    · subst e
      rw [getD_setN (by omega)]
    · rw [getD_setN_far (by omega)]
      exact h2 i (by omega)
  · rw [getD_setN_far (by omega)]
    exact h3 i (by omega)
theorem dif_done {x y : L5} {xs ys zs : List Nat} (ex : xs = [x.a, x.b, x.c, x.d, x.e]) (ey : ys = [y.a, y.b, y.c, y.d, y.e]) (hx : x.lt 2251799813685267) (hy : y.lt 2251799813685267) (h : DifL xs ys zs 5) :
    ∃ z : L5, zs = [z.a, z.b, z.c, z.d, z.e] ∧ z.lt 18446744073709551616 ∧ Cong (z.val : Nat) ((x.val : Int) - (y.val : Nat)) := by
  subst ex
  subst ey
  have e := list5 zs h.len
  have f0 := h.low 0 (by omega)
  have f1 := h.low 1 (by omega)
  have f2 := h.low 2 (by omega)
  have f3 := h.low 3 (by omega)
  have f4 := h.low 4 (by omega)
  simp only [twiceN, List.getD_cons_zero, List.getD_cons_succ] at f0 f1 f2 f3 f4
  obtain ⟨a0, a1, a2, a3, a4⟩ := hx
  obtain ⟨b0, b1, b2, b3, b4⟩ := hy
  refine ⟨⟨zs.getD 0 0, zs.getD 1 0, zs.getD 2 0, zs.getD 3 0, zs.getD 4 0⟩, e, ?_, 2, ?_⟩
  · simp only [L5.lt]
    omega
  · have hp : pP = 57896044618658097711785492504343953926634992332820282019728792003956564819949 := rfl
    rw [hp]
    simp only [L5.val]
    omega

set_option maxRecDepth 100000 in
set_option maxHeartbeats 4000000 in
theorem Add_num (l m : List UInt8) (w : World) (hl : l.length = 32) (hm : m.length = 32) :
    Calls Try.prog 46 #[.agg (l.map bval).toArray, .agg (m.map bval).toArray] w fun e w' => e = .returned (numP ((leN l : Int) + leN m)) ∧ Below w.heap.size w w' := by
  have HLl := Lib.hid hl
  have HLm := Lib.hid hm
  have HIl : Hid ((Try.prog.info? 23).map (·.size) = some (l.map bval).length) := Lib.hid (by rw [List.length_map, hl]; exact Try.arr23)
  have HIm : Hid ((Try.prog.info? 23).map (·.size) = some (m.map bval).length) := Lib.hid (by rw [List.length_map, hm]; exact Try.arr23)
  have HB := Lib.hid (boxes3 w (l.map bval) (m.map bval) zero32 23 23 23)
  clear hl hm
  go_enter Try.func46, Try.ntmps46
  go_wp2_with fail
  change Code.wp _ _ _ _ (((w.alloc (.cells (l.map bval).toArray 23)).alloc (.cells (m.map bval).toArray 23)).alloc (.cells zero32.toArray 23))
  generalize ((w.alloc (.cells (l.map bval).toArray 23)).alloc (.cells (m.map bval).toArray 23)).alloc (.cells zero32.toArray 23) = w0 at *
  obtain ⟨h1, h2, h3, h4⟩ := HB.out
  obtain ⟨A, hA⟩ : ∃ A, A = w.heap.size := ⟨_, rfl⟩
  rw [← hA] at h1 h2 h3 ⊢
  have hA2 : w.heap.size ≤ A := by omega
  have H1 := Lib.hid h1
  have H2 := Lib.hid h2
  have H3 := Lib.hid h3
  have HE : Hid (Ext w w0) := Lib.hid h4
  clear h1 h2 h3 h4 HB hA
  have H30 := H3.out.lt
  refine wp_region_from 4 4 6 rfl (by kernel_rfl) (by kernel_rfl) (fun d v c a w h => by cases d <;> exact h) (by kernel_rfl) ?_
  refine det_load _ _ A (l.map bval) _ (by rfl) rfl rfl (fun w hw => ext_range H1.out hw) Try.underlying23 rfl HIl.out ?_
  simp only [Act.put, List.setIfInBounds_toArray, List.set_cons_zero, List.set_cons_succ]
  refine det_call _ _ _ [.agg (l.map bval).toArray] ((limbsL l).v) (by rfl) rfl Try.call38 rfl (fun w hw => limbsOf_any l HLl.out w) ?_
  simp only [Act.put, List.setIfInBounds_toArray, List.set_cons_zero, List.set_cons_succ]
  refine det_load _ _ (A + 1) (m.map bval) _ (by rfl) rfl rfl (fun w hw => ext_range H2.out hw) Try.underlying23 rfl HIm.out ?_
  simp only [Act.put, List.setIfInBounds_toArray, List.set_cons_zero, List.set_cons_succ]
  refine det_call _ _ _ [.agg (m.map bval).toArray] ((limbsL m).v) (by rfl) rfl Try.call38 rfl (fun w hw => limbsOf_any m HLm.out w) ?_
  simp only [Act.put, List.setIfInBounds_toArray, List.set_cons_zero, List.set_cons_succ]
  refine det_nil (end_var2 (k := 4) _ 5 6 (.tmp 9) (.tmp 11) zero5 (limbsL l).vs (limbsL m).vs rfl rfl rfl rfl (by kernel_rfl) (by kernel_rfl) (by kernel_rfl) (by kernel_rfl) (by kernel_rfl) (by kernel_rfl) (by kernel_rfl) (by kernel_rfl) (by kernel_rfl) (by kernel_rfl) rfl rfl rfl rfl rfl rfl rfl rfl (by decide) Try.zeroValue61 rfl rfl rfl rfl (by simp) (by simp) (fun p q => rfl) (fun p q => rfl) rfl rfl Try.arr61 Try.arr61 (L5.vs_one _) (L5.vs_one _) (fun p q w1 hpq hp hq hb1 hb2 he => ?_))
  simp only [Act.put, List.setIfInBounds_toArray, List.set_cons_zero, List.set_cons_succ]
  have H3 := Lib.hid (ext_blk H3.out he)
  have HE := Lib.hid (HE.out.trans he)
  have HX := Lib.hid hb1
  have HY := Lib.hid hb2
  have h3A := H3.out.lt
  have h3p : A + 1 + 1 < w0.heap.size := H30
  have hpA : A + 1 + 1 < p := by omega
  have hqA : A + 1 + 1 < q := by omega
  clear hb1 hb2 he h3A h3p hp hq
  obtain ⟨lx, hlx⟩ : ∃ x, x = limbsL l := ⟨_, rfl⟩
  obtain ⟨ly, hly⟩ : ∃ x, x = limbsL m := ⟨_, rfl⟩
  rw [← hlx] at HX
  rw [← hly] at HY
  have HLX : Hid (lx.lt 2251799813685267) := Lib.hid (by rw [hlx]; exact limbsL_lt2 l)
  have HLY : Hid (ly.lt 2251799813685267) := Lib.hid (by rw [hly]; exact limbsL_lt2 m)
  have HVX : Hid (Cong (lx.val : Nat) (leN l : Nat)) := Lib.hid (by rw [hlx]; exact limbsL_val l HLl.out)
  have HVY : Hid (Cong (ly.val : Nat) (leN m : Nat)) := Lib.hid (by rw [hly]; exact limbsL_val m HLm.out)
  obtain ⟨xs, hxs⟩ : ∃ xs, xs = [lx.a, lx.b, lx.c, lx.d, lx.e] := ⟨_, rfl⟩
  obtain ⟨ys, hys⟩ : ∃ ys, ys = [ly.a, ly.b, ly.c, ly.d, ly.e] := ⟨_, rfl⟩
  have HXL : Hid (xs.length = 5) := Lib.hid (by rw [hxs]; rfl)
  have HYL : Hid (ys.length = 5) := Lib.hid (by rw [hys]; rfl)
  have HXB : Hid (∀ i, xs.getD i 0 < 2251799813685267) := Lib.hid (by rw [hxs]; exact getD_all5 HLX.out (by omega))
  have HYB : Hid (∀ i, ys.getD i 0 < 2251799813685267) := Lib.hid (by rw [hys]; exact getD_all5 HLY.out (by omega))
  have HX : Hid (Blk w1 p (nats xs) 61) := Lib.hid (by rw [hxs]; exact HX.out)
  have HY : Hid (Blk w1 q (nats ys) 61) := Lib.hid (by rw [hys]; exact HY.out)
  have HXS := Lib.hid hxs
  have HYS := Lib.hid hys
  clear hlx hly hxs hys
  go_wp2_with fail
  obtain ⟨wo, rfl⟩ : ∃ wo : World, wo = w1 := ⟨_, rfl⟩
  go_loopw [12] (fun i wr => ∃ (k : Nat) (zs : List Nat), k ≤ 5 ∧ i = .int .i64 k ∧ SumL xs ys zs k ∧ Blk wr p (nats zs) 61 ∧ Blk wr q (nats ys) 61 ∧ Blk wr (A + 1 + 1) zero32 23 ∧ Ext w wr) (fun i _ => 5 - (intOf i).toNat)
  case atStart => exact ⟨0, xs, by omega, rfl, ⟨HXL.out, fun i hi => by omega, fun i _ => rfl⟩, HX.out, HY.out, H3.out, HE.out⟩
  case round =>
    clear HX HY H3 HE
    obtain ⟨k, zs, hk, rfl, hs, hb1, hb2, hb3, hbe⟩ := hrel
    have i0' : (0 : Int) ≤ (k : Int) := Int.natCast_nonneg _
    have hl5 := hs.len
    by_cases hlt : k < 5
    · have i1 : (k : Int) < 5 := by omega
      have e1 := hb1.cell k
      rw [nats_get (by omega), hs.high k (Nat.le_refl _)] at e1
      have e2 := hb2.cell k
      rw [nats_get (by have := HYL.out; omega)] at e2
      have f1 := hb1.free k
      have b1 := HXB.out k
      have b2 := HYB.out k
      have hst := hs.step hlt
      generalize xs.getD k 0 = a at *
      generalize ys.getD k 0 = b at *
      have W1 : Hid (((a : Int) + (b : Int)) = ((a + b : Nat) : Int)) := Lib.hid (by omega)
      have W2 : IntKind.u64.wrap ((a : Int) + (b : Int)) = (a : Int) + (b : Int) := by rw [IntKind.wrap_u64]; omega
      have HST := Lib.hid hst
      have HB1 := Lib.hid hb1
      have HB2 := Lib.hid hb2
      have HB3 := Lib.hid hb3
      have HBE := Lib.hid hbe
      clear hs hst hb1 hb2 hb3 hbe hl5 b1 b2
      go_wp2_with fail
      go_region
      go_wp2_with fail
      go_roundw
      case rel =>
        rw [W1.out]
        refine ⟨k + 1, _, by omega, by go_num, HST.out, ?_, HB2.out.far (by simpa using hpq) _, HB3.out.far (by simp; omega) _, (Below.setCell HBE.out (by simp; omega) _).drew⟩
        rw [← nats_set]
        exact HB1.out.set k _
      case measure => simp [intOf]; omega
    · have hk' : k = 5 := by omega
      subst hk'
      obtain ⟨z, hz, hzlt, hzv⟩ := sum_done HXS.out HYS.out HLX.out HLY.out hs
      subst hz
      have HN := Lib.hid (numOf_any z hzlt)
      have HV : Hid (numP (z.val : Nat) = numP ((leN l : Int) + leN m)) := Lib.hid (numP_cong (by rw [hzv, Int.natCast_add]; exact HVX.out.add HVY.out))
      have HB1 := Lib.hid hb1
      have HB3 := Lib.hid hb3
      have HBE := Lib.hid hbe
      clear hb1 hb2 hb3 hbe hs hl5
      go_wp2_with (refine wpList_load_blk rfl _ _ rfl p rfl _ z.vs _ _ HB1.out Try.underlying61 Try.arr61 ?_)
      refine (HN.out _).mono ?_
      rintro e w2 ⟨rfl, hb⟩
      have HB3 := Lib.hid (ext_blk HB3.out hb)
      have HBE := Lib.hid (HBE.out.trans hb)
      clear hb
      rw [HV.out]
      go_wp2_with (refine wpList_store_blk rfl _ _ _ rfl (A + 1 + 1) ((nb ((leN l : Int) + leN m)).map bval) rfl rfl _ _ HB3.out (nb_len _) (nb_size _) (bval_one _) ?_; intro w5 hb5 hg5)
      exact bodyPost_ret (v := numP ((leN l : Int) + leN m)) (result_row (by rfl) _ (A + 1 + 1) _ _ _ (by rfl) hb5 Try.underlying23 rfl (nb_size _)) rfl ⟨rfl, ext_grown HBE.out hg5 (by omega)⟩

set_option maxRecDepth 100000 in
set_option maxHeartbeats 4000000 in
theorem Sub_num (l m : List UInt8) (w : World) (hl : l.length = 32) (hm : m.length = 32) :
    Calls Try.prog 45 #[.agg (l.map bval).toArray, .agg (m.map bval).toArray] w fun e w' => e = .returned (numP ((leN l : Int) - leN m)) ∧ Below w.heap.size w w' := by
  have HLl := Lib.hid hl
  have HLm := Lib.hid hm
  have HIl : Hid ((Try.prog.info? 23).map (·.size) = some (l.map bval).length) := Lib.hid (by rw [List.length_map, hl]; exact Try.arr23)
  have HIm : Hid ((Try.prog.info? 23).map (·.size) = some (m.map bval).length) := Lib.hid (by rw [List.length_map, hm]; exact Try.arr23)
  have HB := Lib.hid (boxes3 w (l.map bval) (m.map bval) zero32 23 23 23)
  clear hl hm
  go_enter Try.func45, Try.ntmps45
  go_wp2_with fail
  change Code.wp _ _ _ _ (((w.alloc (.cells (l.map bval).toArray 23)).alloc (.cells (m.map bval).toArray 23)).alloc (.cells zero32.toArray 23))
  generalize ((w.alloc (.cells (l.map bval).toArray 23)).alloc (.cells (m.map bval).toArray 23)).alloc (.cells zero32.toArray 23) = w0 at *
  obtain ⟨h1, h2, h3, h4⟩ := HB.out
  obtain ⟨A, hA⟩ : ∃ A, A = w.heap.size := ⟨_, rfl⟩
  rw [← hA] at h1 h2 h3 ⊢
  have hA2 : w.heap.size ≤ A := by omega
  have H1 := Lib.hid h1
  have H2 := Lib.hid h2
  have H3 := Lib.hid h3
  have HE : Hid (Ext w w0) := Lib.hid h4
  clear h1 h2 h3 h4 HB hA
  have H30 := H3.out.lt
  refine wp_region_from 4 4 6 rfl (by kernel_rfl) (by kernel_rfl) (fun d v c a w h => by cases d <;> exact h) (by kernel_rfl) ?_
  refine det_load _ _ A (l.map bval) _ (by rfl) rfl rfl (fun w hw => ext_range H1.out hw) Try.underlying23 rfl HIl.out ?_
  simp only [Act.put, List.setIfInBounds_toArray, List.set_cons_zero, List.set_cons_succ]
  refine det_call _ _ _ [.agg (l.map bval).toArray] ((limbsL l).v) (by rfl) rfl Try.call38 rfl (fun w hw => limbsOf_any l HLl.out w) ?_
  simp only [Act.put, List.setIfInBounds_toArray, List.set_cons_zero, List.set_cons_succ]
  refine det_load _ _ (A + 1) (m.map bval) _ (by rfl) rfl rfl (fun w hw => ext_range H2.out hw) Try.underlying23 rfl HIm.out ?_
  simp only [Act.put, List.setIfInBounds_toArray, List.set_cons_zero, List.set_cons_succ]
  refine det_call _ _ _ [.agg (m.map bval).toArray] ((limbsL m).v) (by rfl) rfl Try.call38 rfl (fun w hw => limbsOf_any m HLm.out w) ?_
  simp only [Act.put, List.setIfInBounds_toArray, List.set_cons_zero, List.set_cons_succ]
  refine det_nil (end_var2 (k := 4) _ 5 6 (.tmp 10) (.tmp 12) zero5 (limbsL l).vs (limbsL m).vs rfl rfl rfl rfl (by kernel_rfl) (by kernel_rfl) (by kernel_rfl) (by kernel_rfl) (by kernel_rfl) (by kernel_rfl) (by kernel_rfl) (by kernel_rfl) (by kernel_rfl) (by kernel_rfl) rfl rfl rfl rfl rfl rfl rfl rfl (by decide) Try.zeroValue61 rfl rfl rfl rfl (by simp) (by simp) (fun p q => rfl) (fun p q => rfl) rfl rfl Try.arr61 Try.arr61 (L5.vs_one _) (L5.vs_one _) (fun p q w1 hpq hp hq hb1 hb2 he => ?_))
  simp only [Act.put, List.setIfInBounds_toArray, List.set_cons_zero, List.set_cons_succ]
  have H3 := Lib.hid (ext_blk H3.out he)
  have HE := Lib.hid (HE.out.trans he)
  have HX := Lib.hid hb1
  have HY := Lib.hid hb2
  have h3A := H3.out.lt
  have h3p : A + 1 + 1 < w0.heap.size := H30
  have hpA : A + 1 + 1 < p := by omega
  have hqA : A + 1 + 1 < q := by omega
  clear hb1 hb2 he h3A h3p hp hq
  obtain ⟨lx, hlx⟩ : ∃ x, x = limbsL l := ⟨_, rfl⟩
  obtain ⟨ly, hly⟩ : ∃ x, x = limbsL m := ⟨_, rfl⟩
  rw [← hlx] at HX
  rw [← hly] at HY
  have HLX : Hid (lx.lt 2251799813685267) := Lib.hid (by rw [hlx]; exact limbsL_lt2 l)
  have HLY : Hid (ly.lt 2251799813685267) := Lib.hid (by rw [hly]; exact limbsL_lt2 m)
  have HVX : Hid (Cong (lx.val : Nat) (leN l : Nat)) := Lib.hid (by rw [hlx]; exact limbsL_val l HLl.out)
  have HVY : Hid (Cong (ly.val : Nat) (leN m : Nat)) := Lib.hid (by rw [hly]; exact limbsL_val m HLm.out)
  obtain ⟨xs, hxs⟩ : ∃ xs, xs = [lx.a, lx.b, lx.c, lx.d, lx.e] := ⟨_, rfl⟩
  obtain ⟨ys, hys⟩ : ∃ ys, ys = [ly.a, ly.b, ly.c, ly.d, ly.e] := ⟨_, rfl⟩
  have HXL : Hid (xs.length = 5) := Lib.hid (by rw [hxs]; rfl)
  have HYL : Hid (ys.length = 5) := Lib.hid (by rw [hys]; rfl)
  have HXB : Hid (∀ i, xs.getD i 0 < 2251799813685267) := Lib.hid (by rw [hxs]; exact getD_all5 HLX.out (by omega))
  have HYB : Hid (∀ i, ys.getD i 0 < 2251799813685267) := Lib.hid (by rw [hys]; exact getD_all5 HLY.out (by omega))
  have HX : Hid (Blk w1 p (nats xs) 61) := Lib.hid (by rw [hxs]; exact HX.out)
  have HY : Hid (Blk w1 q (nats ys) 61) := Lib.hid (by rw [hys]; exact HY.out)
  have HXS := Lib.hid hxs
  have HYS := Lib.hid hys
  clear hlx hly hxs hys
  go_wp2_with fail
  have HT0 := Lib.hid (Blk.made w1 twiceL.vs 61)
  have HA0 := Lib.hid (Ext.alloc w1 (.cells twiceL.vs.toArray 61))
  obtain ⟨R, hR⟩ : ∃ R, R = w1.heap.size := ⟨_, rfl⟩
  have hpR : p < R := by have := HX.out.lt; omega
  have hqR : q < R := by have := HY.out.lt; omega
  have hRA : A + 1 + 1 < R := by omega
  change Code.wp _ _ _ _ (w1.alloc (.cells twiceL.vs.toArray 61))
  rw [← hR] at HT0 ⊢
  have HX := Lib.hid (ext_blk HX.out HA0.out)
  have HY := Lib.hid (ext_blk HY.out HA0.out)
  have H3 := Lib.hid (ext_blk H3.out HA0.out)
  have HE := Lib.hid (HE.out.trans HA0.out)
  generalize w1.alloc (.cells twiceL.vs.toArray 61) = w2 at *
  clear hR HA0
  have HT : Hid (Blk w2 R (nats twiceN) 61) := HT0
  clear HT0
  obtain ⟨wo, rfl⟩ : ∃ wo : World, wo = w2 := ⟨_, rfl⟩
  go_loopw [14] (fun i wr => ∃ (k : Nat) (zs : List Nat), k ≤ 5 ∧ i = .int .i64 k ∧ DifL xs ys zs k ∧ Blk wr p (nats zs) 61 ∧ Blk wr q (nats ys) 61 ∧ Blk wr R (nats twiceN) 61 ∧ Blk wr (A + 1 + 1) zero32 23 ∧ Ext w wr) (fun i _ => 5 - (intOf i).toNat)
  case atStart => exact ⟨0, xs, by omega, rfl, ⟨HXL.out, fun i hi => by omega, fun i _ => rfl⟩, HX.out, HY.out, HT.out, H3.out, HE.out⟩
  case round =>
    clear HX HY H3 HE HT
    obtain ⟨k, zs, hk, rfl, hs, hb1, hb2, hbt, hb3, hbe⟩ := hrel
    have i0' : (0 : Int) ≤ (k : Int) := Int.natCast_nonneg _
    have hl5 := hs.len
    by_cases hlt : k < 5
    · have i1 : (k : Int) < 5 := by omega
      have e1 := hb1.cell k
      rw [nats_get (by omega), hs.high k (Nat.le_refl _)] at e1
      have e2 := hb2.cell k
      rw [nats_get (by have := HYL.out; omega)] at e2
      have e3 := hbt.cell k
      rw [nats_get (by simpa [twiceN] using hlt)] at e3
      have f1 := hb1.free k
      have b1 := HXB.out k
      have b2 := HYB.out k
      have b3 := twice_bounds k hlt
      have hst := hs.step hlt
      generalize xs.getD k 0 = a at *
      generalize ys.getD k 0 = b at *
      generalize twiceN.getD k 0 = c at *
      obtain ⟨b31, b32⟩ := b3
      have W1 : Hid (((a : Int) + ((c : Int) - (b : Int))) = ((a + (c - b) : Nat) : Int)) := Lib.hid (by omega)
      have W2 : IntKind.u64.wrap ((c : Int) - (b : Int)) = (c : Int) - (b : Int) := by rw [IntKind.wrap_u64]; omega
      have W3 : IntKind.u64.wrap ((a : Int) + ((c : Int) - (b : Int))) = (a : Int) + ((c : Int) - (b : Int)) := by rw [IntKind.wrap_u64]; omega
      have HST := Lib.hid hst
      have HB1 := Lib.hid hb1
      have HB2 := Lib.hid hb2
      have HB3 := Lib.hid hb3
      have HBT := Lib.hid hbt
      have HBE := Lib.hid hbe
      clear hs hst hb1 hb2 hb3 hbt hbe hl5 b1 b2 b31 b32
      go_wp2_with fail
      go_region
      go_wp2_with fail
      go_roundw
      case rel =>
        rw [W1.out]
        refine ⟨k + 1, _, by omega, by go_num, HST.out, ?_, HB2.out.far (by simpa using hpq) _, HBT.out.far (by simp; omega) _, HB3.out.far (by simp; omega) _, (Below.setCell HBE.out (by simp; omega) _).drew⟩
        rw [← nats_set]
        exact HB1.out.set k _
      case measure => simp [intOf]; omega
    · have hk' : k = 5 := by omega
      subst hk'
      obtain ⟨z, hz, hzlt, hzv⟩ := dif_done HXS.out HYS.out HLX.out HLY.out hs
      subst hz
      have HN := Lib.hid (numOf_any z hzlt)
      have HV : Hid (numP (z.val : Nat) = numP ((leN l : Int) - leN m)) := Lib.hid (numP_cong (hzv.trans (HVX.out.sub HVY.out)))
      have HB1 := Lib.hid hb1
      have HB3 := Lib.hid hb3
      have HBE := Lib.hid hbe
      clear hb1 hb2 hb3 hbt hbe hs hl5
      go_wp2_with (refine wpList_load_blk rfl _ _ rfl p rfl _ z.vs _ _ HB1.out Try.underlying61 Try.arr61 ?_)
      refine (HN.out _).mono ?_
      rintro e w2 ⟨rfl, hb⟩
      have HB3 := Lib.hid (ext_blk HB3.out hb)
      have HBE := Lib.hid (HBE.out.trans hb)
      clear hb
      rw [HV.out]
      go_wp2_with (refine wpList_store_blk rfl _ _ _ rfl (A + 1 + 1) ((nb ((leN l : Int) - leN m)).map bval) rfl rfl _ _ HB3.out (nb_len _) (nb_size _) (bval_one _) ?_; intro w5 hb5 hg5)
      exact bodyPost_ret (v := numP ((leN l : Int) - leN m)) (result_row (by rfl) _ (A + 1 + 1) _ _ _ (by rfl) hb5 Try.underlying23 rfl (nb_size _)) rfl ⟨rfl, ext_grown HBE.out hg5 (by omega)⟩

end Go.Proofs.Ytdjdalaghfknoaa

/- The walk of the code's repeated squares. Each theorem names its own conditions. -/
namespace Go.Proofs.Ytdjdalaghfknoaa
open Go.RowKit
set_option linter.unusedVariables false
set_option linter.unusedSimpArgs false

set_option maxHeartbeats 4000000 in
theorem squared_any (x : L5) (n : Nat) (hx : x.lt 18014398509481984) (hn : n < 1000) (w : World) :
    Calls Try.prog 39 #[x.v, .int .i64 n] w fun e w' => e = .returned (sqL x n).v ∧ Below w.heap.size w w' := by
  have HX := Lib.hid hx
  have HN := Lib.hid hn
  have HB := Lib.hid (boxes2 w x.vs zero5 61 61)
  clear hx hn
  unfold L5.v
  go_enter Try.func39, Try.ntmps39
  go_wp2_with fail
  change Code.wp _ _ _ _ ((w.alloc (.cells x.vs.toArray 61)).alloc (.cells zero5.toArray 61))
  generalize (w.alloc (.cells x.vs.toArray 61)).alloc (.cells zero5.toArray 61) = w0 at *
  obtain ⟨h1, h2, h4⟩ := HB.out
  obtain ⟨A, hA⟩ : ∃ A, A = w.heap.size := ⟨_, rfl⟩
  rw [← hA] at h1 h2 ⊢
  have hA2 : w.heap.size ≤ A := by omega
  have H1 := Lib.hid h1
  have H2 := Lib.hid h2
  have HE : Hid (Ext w w0) := Lib.hid h4
  clear h1 h2 h4 HB hA
  go_loopw [6] (fun i wr => ∃ k : Nat, k ≤ n ∧ i = .int .i64 k ∧ Blk wr A (sqL x k).vs 61 ∧ Blk wr (A + 1) zero5 61 ∧ Ext w wr) (fun i _ => n - (intOf i).toNat)
  case atStart => exact ⟨0, Nat.zero_le _, rfl, H1.out, H2.out, HE.out⟩
  case round =>
    clear H1 H2 HE
    obtain ⟨k, hk, rfl, hb1, hb2, hbe⟩ := hrel
    have i0' : (0 : Int) ≤ (k : Int) := Int.natCast_nonneg _
    have hn := HN.out
    by_cases hlt : k < n
    · have i1 : (k : Int) < (n : Int) := by omega
      have HT := Lib.hid (times_any (sqL x k) (sqL x k) (sqL_lt HX.out k) (sqL_lt HX.out k))
      have H1 := Lib.hid hb1
      have H2 := Lib.hid hb2
      have HE := Lib.hid hbe
      clear hb1 hb2 hbe
      go_wp2_with (refine wpList_load_blk rfl _ _ rfl A rfl _ _ _ _ H1.out Try.underlying61 Try.arr61 ?_)
      refine (HT.out _).mono ?_
      rintro e w1 ⟨rfl, hb1⟩
      have H1 := Lib.hid (ext_blk H1.out hb1)
      have H2 := Lib.hid (ext_blk H2.out hb1)
      have HE := Lib.hid (HE.out.trans hb1)
      clear hb1
      go_wp2_with (refine wpList_store_blk rfl _ _ _ rfl A (sqL x (k + 1)).vs rfl rfl _ _ H1.out rfl Try.arr61 (L5.vs_one _) ?_; intro w2 hb2 hg2)
      go_roundw
      case rel => exact ⟨k + 1, by omega, by go_num, hb2, H2.out.grown hg2 (by simp), ext_grown HE.out hg2 hA2⟩
      case measure => simp [intOf]; omega
    · have hk' : k = n := by omega
      subst hk'
      have H1 := Lib.hid hb1
      have H2 := Lib.hid hb2
      have HE := Lib.hid hbe
      clear hb1 hb2 hbe
      go_wp2_with (first | (refine wpList_load_blk rfl _ _ rfl A rfl _ _ _ _ H1.out Try.underlying61 Try.arr61 ?_) | (refine wpList_store_blk rfl _ _ _ rfl (A + 1) (sqL x k).vs rfl rfl _ _ H2.out rfl Try.arr61 (L5.vs_one _) ?_; intro w2 hb2 hg2))
      exact bodyPost_ret (v := (sqL x k).v) (result_row (by rfl) _ (A + 1) _ _ _ (by rfl) hb2 Try.underlying61 rfl Try.arr61) rfl ⟨rfl, ext_grown HE.out hg2 (by omega)⟩

end Go.Proofs.Ytdjdalaghfknoaa

/- The walks of the code's joins of powers. Each theorem names its own conditions. -/
namespace Go.Proofs.Ytdjdalaghfknoaa
open Go.RowKit
set_option linter.unusedVariables false
set_option linter.unusedSimpArgs false

set_option maxHeartbeats 4000000 in
theorem joined_any (x : L5) (n : Nat) (y : L5) (hx : x.lt 18014398509481984) (hy : y.lt 18014398509481984) (hn : n < 1000) (w : World) :
    Calls Try.prog 40 #[x.v, .int .i64 n, y.v] w fun e w' => e = .returned (joinL x n y).v ∧ Below w.heap.size w w' := by
  have HX := Lib.hid hx
  have HY := Lib.hid hy
  have HN := Lib.hid hn
  have HB := Lib.hid (boxes3 w x.vs y.vs zero5 61 61 61)
  clear hx hy hn
  unfold L5.v
  go_enter Try.func40, Try.ntmps40
  go_wp2_with fail
  change Code.wp _ _ _ _ (((w.alloc (.cells x.vs.toArray 61)).alloc (.cells y.vs.toArray 61)).alloc (.cells zero5.toArray 61))
  generalize ((w.alloc (.cells x.vs.toArray 61)).alloc (.cells y.vs.toArray 61)).alloc (.cells zero5.toArray 61) = w0 at *
  obtain ⟨h1, h2, h3, h4⟩ := HB.out
  obtain ⟨A, hA⟩ : ∃ A, A = w.heap.size := ⟨_, rfl⟩
  rw [← hA] at h1 h2 h3 ⊢
  have hA2 : w.heap.size ≤ A := by omega
  have H1 := Lib.hid h1
  have H2 := Lib.hid h2
  have H3 := Lib.hid h3
  have HE : Hid (Ext w w0) := Lib.hid h4
  clear h1 h2 h3 h4 HB hA
  refine wp_region_from 5 1 5 rfl (by kernel_rfl) (by kernel_rfl) (fun d v c a w h => by cases d <;> exact h) (by kernel_rfl) ?_
  refine det_load _ _ A x.vs _ (by rfl) rfl rfl (fun w hw => ext_range H1.out hw) Try.underlying61 rfl Try.arr61 ?_
  simp only [Act.put, List.setIfInBounds_toArray, List.set_cons_zero, List.set_cons_succ]
  refine det_move _ (.int .i64 (n : Int)) (by rfl) rfl rfl ?_
  simp only [Act.put, List.setIfInBounds_toArray, List.set_cons_zero, List.set_cons_succ]
  refine det_call _ _ _ [x.v, .int .i64 (n : Int)] ((sqL x n).v) (by rfl) rfl Try.call39 rfl (fun w hw => squared_any x n HX.out HN.out w) ?_
  simp only [Act.put, List.setIfInBounds_toArray, List.set_cons_zero, List.set_cons_succ]
  refine det_load _ _ (A + 1) y.vs _ (by rfl) rfl rfl (fun w hw => ext_range H2.out hw) Try.underlying61 rfl Try.arr61 ?_
  simp only [Act.put, List.setIfInBounds_toArray, List.set_cons_zero, List.set_cons_succ]
  refine det_call _ _ _ [(sqL x n).v, y.v] ((joinL x n y).v) (by rfl) rfl Try.call37 rfl (fun w hw => times_any (sqL x n) y (sqL_lt HX.out n) HY.out w) ?_
  simp only [Act.put, List.setIfInBounds_toArray, List.set_cons_zero, List.set_cons_succ]
  refine det_nil (end_set (k := 5) _ _ _ _ (A + 1 + 1) (joinL x n y).vs zero5 rfl (by kernel_rfl) (by kernel_rfl) (by kernel_rfl) rfl rfl rfl rfl H3.out rfl Try.arr61 (L5.vs_one _) (fun w8 hb8 hg8 => ?_))
  simp only [Act.put]
  go_wp2_with fail
  exact bodyPost_ret (v := (joinL x n y).v) (result_row (by rfl) _ (A + 1 + 1) _ _ _ (by rfl) hb8 Try.underlying61 rfl Try.arr61) rfl ⟨rfl, ext_grown HE.out hg8 (by omega)⟩

set_option maxHeartbeats 4000000 in
theorem ones_any (x : L5) (hx : x.lt 18014398509481984) (w : World) :
    Calls Try.prog 41 #[x.v] w fun e w' => e = .returned (onesL x).v ∧ Below w.heap.size w w' := by
  have HX := Lib.hid hx
  have HB := Lib.hid (boxes2 w x.vs zero5 61 61)
  clear hx
  unfold L5.v
  go_enter Try.func41, Try.ntmps41
  go_wp2_with (refine wpList_load_blk rfl _ _ rfl w.heap.size rfl _ _ _ _ HB.out.1 Try.underlying61 Try.arr61 ?_)
  change Calls _ _ _ ((w.alloc (.cells x.vs.toArray 61)).alloc (.cells zero5.toArray 61)) _
  generalize (w.alloc (.cells x.vs.toArray 61)).alloc (.cells zero5.toArray 61) = w0 at *
  obtain ⟨h1, h2, h4⟩ := HB.out
  obtain ⟨A, hA⟩ : ∃ A, A = w.heap.size := ⟨_, rfl⟩
  rw [← hA] at h1 h2 ⊢
  have hA2 : w.heap.size ≤ A := by omega
  have H1 := Lib.hid h1
  have HR := Lib.hid h2
  have HE : Hid (Ext w w0) := Lib.hid h4
  clear h1 h2 h4 HB hA
  refine (joined_any x 1 x HX.out HX.out (by omega) _).mono ?_
  rintro e w1 ⟨rfl, hb⟩
  have H1 := Lib.hid (ext_blk H1.out hb)
  have HR := Lib.hid (ext_blk HR.out hb)
  have HE := Lib.hid (HE.out.trans hb)
  clear hb
  obtain ⟨v1, hv⟩ : ∃ v, v = o2 x := ⟨_, rfl⟩
  rw [show joinL x 1 x = v1 from by rw [hv]; rfl]
  have LTv1 : Hid (v1.lt 18014398509481984) := Lib.hid (by rw [hv]; exact o2_lt HX.out)
  have HVEv1 := Lib.hid hv
  clear hv
  obtain ⟨p1, hp1⟩ : ∃ p, p = w1.heap.size := ⟨_, rfl⟩
  have HV1 := Lib.hid (Blk.made w1 v1.vs 61)
  have HX1 := Lib.hid (Ext.alloc w1 (.cells v1.vs.toArray 61))
  have H1 := Lib.hid (ext_blk H1.out HX1.out)
  have HR := Lib.hid (ext_blk HR.out HX1.out)
  have HE := Lib.hid (HE.out.trans HX1.out)
  rw [← hp1] at HV1
  clear HX1
  unfold L5.v L5.vs
  go_wp2_with fail
  rw [← hp1]
  change Calls _ _ #[v1.v, .int .i64 ((2 : Nat) : Int), v1.v] (w1.alloc (.cells v1.vs.toArray 61)) _
  generalize w1.alloc (.cells v1.vs.toArray 61) = y1 at *
  clear hp1
  refine (joined_any v1 2 v1 LTv1.out LTv1.out (by omega) _).mono ?_
  rintro e w2 ⟨rfl, hb⟩
  have H1 := Lib.hid (ext_blk H1.out hb)
  have HV1 := Lib.hid (ext_blk HV1.out hb)
  have HR := Lib.hid (ext_blk HR.out hb)
  have HE := Lib.hid (HE.out.trans hb)
  clear hb
  obtain ⟨v2, hv⟩ : ∃ v, v = o4 x := ⟨_, rfl⟩
  rw [show joinL v1 2 v1 = v2 from by rw [hv, HVEv1.out]; rfl]
  have LTv2 : Hid (v2.lt 18014398509481984) := Lib.hid (by rw [hv]; exact o4_lt HX.out)
  have HVEv2 := Lib.hid hv
  clear hv
  obtain ⟨p2, hp2⟩ : ∃ p, p = w2.heap.size := ⟨_, rfl⟩
  have HV2 := Lib.hid (Blk.made w2 v2.vs 61)
  have HX1 := Lib.hid (Ext.alloc w2 (.cells v2.vs.toArray 61))
  have H1 := Lib.hid (ext_blk H1.out HX1.out)
  have HV1 := Lib.hid (ext_blk HV1.out HX1.out)
  have HR := Lib.hid (ext_blk HR.out HX1.out)
  have HE := Lib.hid (HE.out.trans HX1.out)
  rw [← hp2] at HV2
  clear HX1
  have ccx0 := H1.out.cell 0
  have ccx1 := H1.out.cell 1
  have ccx2 := H1.out.cell 2
  have ccx3 := H1.out.cell 3
  have ccx4 := H1.out.cell 4
  simp only [L5.vs, List.getElem?_cons_zero, List.getElem?_cons_succ] at ccx0 ccx1 ccx2 ccx3 ccx4
  unfold L5.v L5.vs
  go_wp2_with fail
  rw [← hp2]
  change Calls _ _ #[v2.v, .int .i64 ((1 : Nat) : Int), x.v] (w2.alloc (.cells v2.vs.toArray 61)) _
  generalize w2.alloc (.cells v2.vs.toArray 61) = y2 at *
  clear hp2 ccx0 ccx1 ccx2 ccx3 ccx4
  refine (joined_any v2 1 x LTv2.out HX.out (by omega) _).mono ?_
  rintro e w3 ⟨rfl, hb⟩
  have H1 := Lib.hid (ext_blk H1.out hb)
  have HV1 := Lib.hid (ext_blk HV1.out hb)
  have HV2 := Lib.hid (ext_blk HV2.out hb)
  have HR := Lib.hid (ext_blk HR.out hb)
  have HE := Lib.hid (HE.out.trans hb)
  clear hb
  obtain ⟨v3, hv⟩ : ∃ v, v = o5 x := ⟨_, rfl⟩
  rw [show joinL v2 1 x = v3 from by rw [hv, HVEv2.out]; rfl]
  have LTv3 : Hid (v3.lt 18014398509481984) := Lib.hid (by rw [hv]; exact o5_lt HX.out)
  have HVEv3 := Lib.hid hv
  clear hv
  obtain ⟨p3, hp3⟩ : ∃ p, p = w3.heap.size := ⟨_, rfl⟩
  have HV3 := Lib.hid (Blk.made w3 v3.vs 61)
  have HX1 := Lib.hid (Ext.alloc w3 (.cells v3.vs.toArray 61))
  have H1 := Lib.hid (ext_blk H1.out HX1.out)
  have HV1 := Lib.hid (ext_blk HV1.out HX1.out)
  have HV2 := Lib.hid (ext_blk HV2.out HX1.out)
  have HR := Lib.hid (ext_blk HR.out HX1.out)
  have HE := Lib.hid (HE.out.trans HX1.out)
  rw [← hp3] at HV3
  clear HX1
  unfold L5.v L5.vs
  go_wp2_with fail
  rw [← hp3]
  change Calls _ _ #[v3.v, .int .i64 ((5 : Nat) : Int), v3.v] (w3.alloc (.cells v3.vs.toArray 61)) _
  generalize w3.alloc (.cells v3.vs.toArray 61) = y3 at *
  clear hp3
  refine (joined_any v3 5 v3 LTv3.out LTv3.out (by omega) _).mono ?_
  rintro e w4 ⟨rfl, hb⟩
  have H1 := Lib.hid (ext_blk H1.out hb)
  have HV1 := Lib.hid (ext_blk HV1.out hb)
  have HV2 := Lib.hid (ext_blk HV2.out hb)
  have HV3 := Lib.hid (ext_blk HV3.out hb)
  have HR := Lib.hid (ext_blk HR.out hb)
  have HE := Lib.hid (HE.out.trans hb)
  clear hb
  obtain ⟨v4, hv⟩ : ∃ v, v = o10 x := ⟨_, rfl⟩
  rw [show joinL v3 5 v3 = v4 from by rw [hv, HVEv3.out]; rfl]
  have LTv4 : Hid (v4.lt 18014398509481984) := Lib.hid (by rw [hv]; exact o10_lt HX.out)
  have HVEv4 := Lib.hid hv
  clear hv
  obtain ⟨p4, hp4⟩ : ∃ p, p = w4.heap.size := ⟨_, rfl⟩
  have HV4 := Lib.hid (Blk.made w4 v4.vs 61)
  have HX1 := Lib.hid (Ext.alloc w4 (.cells v4.vs.toArray 61))
  have H1 := Lib.hid (ext_blk H1.out HX1.out)
  have HV1 := Lib.hid (ext_blk HV1.out HX1.out)
  have HV2 := Lib.hid (ext_blk HV2.out HX1.out)
  have HV3 := Lib.hid (ext_blk HV3.out HX1.out)
  have HR := Lib.hid (ext_blk HR.out HX1.out)
  have HE := Lib.hid (HE.out.trans HX1.out)
  rw [← hp4] at HV4
  clear HX1
  unfold L5.v L5.vs
  go_wp2_with fail
  rw [← hp4]
  change Calls _ _ #[v4.v, .int .i64 ((10 : Nat) : Int), v4.v] (w4.alloc (.cells v4.vs.toArray 61)) _
  generalize w4.alloc (.cells v4.vs.toArray 61) = y4 at *
  clear hp4
  refine (joined_any v4 10 v4 LTv4.out LTv4.out (by omega) _).mono ?_
  rintro e w5 ⟨rfl, hb⟩
  have H1 := Lib.hid (ext_blk H1.out hb)
  have HV1 := Lib.hid (ext_blk HV1.out hb)
  have HV2 := Lib.hid (ext_blk HV2.out hb)
  have HV3 := Lib.hid (ext_blk HV3.out hb)
  have HV4 := Lib.hid (ext_blk HV4.out hb)
  have HR := Lib.hid (ext_blk HR.out hb)
  have HE := Lib.hid (HE.out.trans hb)
  clear hb
  obtain ⟨v5, hv⟩ : ∃ v, v = o20 x := ⟨_, rfl⟩
  rw [show joinL v4 10 v4 = v5 from by rw [hv, HVEv4.out]; rfl]
  have LTv5 : Hid (v5.lt 18014398509481984) := Lib.hid (by rw [hv]; exact o20_lt HX.out)
  have HVEv5 := Lib.hid hv
  clear hv
  obtain ⟨p5, hp5⟩ : ∃ p, p = w5.heap.size := ⟨_, rfl⟩
  have HV5 := Lib.hid (Blk.made w5 v5.vs 61)
  have HX1 := Lib.hid (Ext.alloc w5 (.cells v5.vs.toArray 61))
  have H1 := Lib.hid (ext_blk H1.out HX1.out)
  have HV1 := Lib.hid (ext_blk HV1.out HX1.out)
  have HV2 := Lib.hid (ext_blk HV2.out HX1.out)
  have HV3 := Lib.hid (ext_blk HV3.out HX1.out)
  have HV4 := Lib.hid (ext_blk HV4.out HX1.out)
  have HR := Lib.hid (ext_blk HR.out HX1.out)
  have HE := Lib.hid (HE.out.trans HX1.out)
  rw [← hp5] at HV5
  clear HX1
  unfold L5.v L5.vs
  go_wp2_with fail
  rw [← hp5]
  change Calls _ _ #[v5.v, .int .i64 ((20 : Nat) : Int), v5.v] (w5.alloc (.cells v5.vs.toArray 61)) _
  generalize w5.alloc (.cells v5.vs.toArray 61) = y5 at *
  clear hp5
  refine (joined_any v5 20 v5 LTv5.out LTv5.out (by omega) _).mono ?_
  rintro e w6 ⟨rfl, hb⟩
  have H1 := Lib.hid (ext_blk H1.out hb)
  have HV1 := Lib.hid (ext_blk HV1.out hb)
  have HV2 := Lib.hid (ext_blk HV2.out hb)
  have HV3 := Lib.hid (ext_blk HV3.out hb)
  have HV4 := Lib.hid (ext_blk HV4.out hb)
  have HV5 := Lib.hid (ext_blk HV5.out hb)
  have HR := Lib.hid (ext_blk HR.out hb)
  have HE := Lib.hid (HE.out.trans hb)
  clear hb
  obtain ⟨v6, hv⟩ : ∃ v, v = o40 x := ⟨_, rfl⟩
  rw [show joinL v5 20 v5 = v6 from by rw [hv, HVEv5.out]; rfl]
  have LTv6 : Hid (v6.lt 18014398509481984) := Lib.hid (by rw [hv]; exact o40_lt HX.out)
  have HVEv6 := Lib.hid hv
  clear hv
  obtain ⟨p6, hp6⟩ : ∃ p, p = w6.heap.size := ⟨_, rfl⟩
  have HV6 := Lib.hid (Blk.made w6 v6.vs 61)
  have HX1 := Lib.hid (Ext.alloc w6 (.cells v6.vs.toArray 61))
  have H1 := Lib.hid (ext_blk H1.out HX1.out)
  have HV1 := Lib.hid (ext_blk HV1.out HX1.out)
  have HV2 := Lib.hid (ext_blk HV2.out HX1.out)
  have HV3 := Lib.hid (ext_blk HV3.out HX1.out)
  have HV4 := Lib.hid (ext_blk HV4.out HX1.out)
  have HV5 := Lib.hid (ext_blk HV5.out HX1.out)
  have HR := Lib.hid (ext_blk HR.out HX1.out)
  have HE := Lib.hid (HE.out.trans HX1.out)
  rw [← hp6] at HV6
  clear HX1
  have ccv40 := HV4.out.cell 0
  have ccv41 := HV4.out.cell 1
  have ccv42 := HV4.out.cell 2
  have ccv43 := HV4.out.cell 3
  have ccv44 := HV4.out.cell 4
  simp only [L5.vs, List.getElem?_cons_zero, List.getElem?_cons_succ] at ccv40 ccv41 ccv42 ccv43 ccv44
  unfold L5.v L5.vs
  go_wp2_with fail
  rw [← hp6]
  change Calls _ _ #[v6.v, .int .i64 ((10 : Nat) : Int), v4.v] (w6.alloc (.cells v6.vs.toArray 61)) _
  generalize w6.alloc (.cells v6.vs.toArray 61) = y6 at *
  clear hp6 ccv40 ccv41 ccv42 ccv43 ccv44
  refine (joined_any v6 10 v4 LTv6.out LTv4.out (by omega) _).mono ?_
  rintro e w7 ⟨rfl, hb⟩
  have H1 := Lib.hid (ext_blk H1.out hb)
  have HV1 := Lib.hid (ext_blk HV1.out hb)
  have HV2 := Lib.hid (ext_blk HV2.out hb)
  have HV3 := Lib.hid (ext_blk HV3.out hb)
  have HV4 := Lib.hid (ext_blk HV4.out hb)
  have HV5 := Lib.hid (ext_blk HV5.out hb)
  have HV6 := Lib.hid (ext_blk HV6.out hb)
  have HR := Lib.hid (ext_blk HR.out hb)
  have HE := Lib.hid (HE.out.trans hb)
  clear hb
  obtain ⟨v7, hv⟩ : ∃ v, v = o50 x := ⟨_, rfl⟩
  rw [show joinL v6 10 v4 = v7 from by rw [hv, HVEv6.out, HVEv4.out]; rfl]
  have LTv7 : Hid (v7.lt 18014398509481984) := Lib.hid (by rw [hv]; exact o50_lt HX.out)
  have HVEv7 := Lib.hid hv
  clear hv
  obtain ⟨p7, hp7⟩ : ∃ p, p = w7.heap.size := ⟨_, rfl⟩
  have HV7 := Lib.hid (Blk.made w7 v7.vs 61)
  have HX1 := Lib.hid (Ext.alloc w7 (.cells v7.vs.toArray 61))
  have H1 := Lib.hid (ext_blk H1.out HX1.out)
  have HV1 := Lib.hid (ext_blk HV1.out HX1.out)
  have HV2 := Lib.hid (ext_blk HV2.out HX1.out)
  have HV3 := Lib.hid (ext_blk HV3.out HX1.out)
  have HV4 := Lib.hid (ext_blk HV4.out HX1.out)
  have HV5 := Lib.hid (ext_blk HV5.out HX1.out)
  have HV6 := Lib.hid (ext_blk HV6.out HX1.out)
  have HR := Lib.hid (ext_blk HR.out HX1.out)
  have HE := Lib.hid (HE.out.trans HX1.out)
  rw [← hp7] at HV7
  clear HX1
  unfold L5.v L5.vs
  go_wp2_with fail
  rw [← hp7]
  change Calls _ _ #[v7.v, .int .i64 ((50 : Nat) : Int), v7.v] (w7.alloc (.cells v7.vs.toArray 61)) _
  generalize w7.alloc (.cells v7.vs.toArray 61) = y7 at *
  clear hp7
  refine (joined_any v7 50 v7 LTv7.out LTv7.out (by omega) _).mono ?_
  rintro e w8 ⟨rfl, hb⟩
  have H1 := Lib.hid (ext_blk H1.out hb)
  have HV1 := Lib.hid (ext_blk HV1.out hb)
  have HV2 := Lib.hid (ext_blk HV2.out hb)
  have HV3 := Lib.hid (ext_blk HV3.out hb)
  have HV4 := Lib.hid (ext_blk HV4.out hb)
  have HV5 := Lib.hid (ext_blk HV5.out hb)
  have HV6 := Lib.hid (ext_blk HV6.out hb)
  have HV7 := Lib.hid (ext_blk HV7.out hb)
  have HR := Lib.hid (ext_blk HR.out hb)
  have HE := Lib.hid (HE.out.trans hb)
  clear hb
  obtain ⟨v8, hv⟩ : ∃ v, v = o100 x := ⟨_, rfl⟩
  rw [show joinL v7 50 v7 = v8 from by rw [hv, HVEv7.out]; rfl]
  have LTv8 : Hid (v8.lt 18014398509481984) := Lib.hid (by rw [hv]; exact o100_lt HX.out)
  have HVEv8 := Lib.hid hv
  clear hv
  obtain ⟨p8, hp8⟩ : ∃ p, p = w8.heap.size := ⟨_, rfl⟩
  have HV8 := Lib.hid (Blk.made w8 v8.vs 61)
  have HX1 := Lib.hid (Ext.alloc w8 (.cells v8.vs.toArray 61))
  have H1 := Lib.hid (ext_blk H1.out HX1.out)
  have HV1 := Lib.hid (ext_blk HV1.out HX1.out)
  have HV2 := Lib.hid (ext_blk HV2.out HX1.out)
  have HV3 := Lib.hid (ext_blk HV3.out HX1.out)
  have HV4 := Lib.hid (ext_blk HV4.out HX1.out)
  have HV5 := Lib.hid (ext_blk HV5.out HX1.out)
  have HV6 := Lib.hid (ext_blk HV6.out HX1.out)
  have HV7 := Lib.hid (ext_blk HV7.out HX1.out)
  have HR := Lib.hid (ext_blk HR.out HX1.out)
  have HE := Lib.hid (HE.out.trans HX1.out)
  rw [← hp8] at HV8
  clear HX1
  unfold L5.v L5.vs
  go_wp2_with fail
  rw [← hp8]
  change Calls _ _ #[v8.v, .int .i64 ((100 : Nat) : Int), v8.v] (w8.alloc (.cells v8.vs.toArray 61)) _
  generalize w8.alloc (.cells v8.vs.toArray 61) = y8 at *
  clear hp8
  refine (joined_any v8 100 v8 LTv8.out LTv8.out (by omega) _).mono ?_
  rintro e w9 ⟨rfl, hb⟩
  have H1 := Lib.hid (ext_blk H1.out hb)
  have HV1 := Lib.hid (ext_blk HV1.out hb)
  have HV2 := Lib.hid (ext_blk HV2.out hb)
  have HV3 := Lib.hid (ext_blk HV3.out hb)
  have HV4 := Lib.hid (ext_blk HV4.out hb)
  have HV5 := Lib.hid (ext_blk HV5.out hb)
  have HV6 := Lib.hid (ext_blk HV6.out hb)
  have HV7 := Lib.hid (ext_blk HV7.out hb)
  have HV8 := Lib.hid (ext_blk HV8.out hb)
  have HR := Lib.hid (ext_blk HR.out hb)
  have HE := Lib.hid (HE.out.trans hb)
  clear hb
  obtain ⟨v9, hv⟩ : ∃ v, v = o200 x := ⟨_, rfl⟩
  rw [show joinL v8 100 v8 = v9 from by rw [hv, HVEv8.out]; rfl]
  have LTv9 : Hid (v9.lt 18014398509481984) := Lib.hid (by rw [hv]; exact o200_lt HX.out)
  have HVEv9 := Lib.hid hv
  clear hv
  obtain ⟨p9, hp9⟩ : ∃ p, p = w9.heap.size := ⟨_, rfl⟩
  have HV9 := Lib.hid (Blk.made w9 v9.vs 61)
  have HX1 := Lib.hid (Ext.alloc w9 (.cells v9.vs.toArray 61))
  have H1 := Lib.hid (ext_blk H1.out HX1.out)
  have HV1 := Lib.hid (ext_blk HV1.out HX1.out)
  have HV2 := Lib.hid (ext_blk HV2.out HX1.out)
  have HV3 := Lib.hid (ext_blk HV3.out HX1.out)
  have HV4 := Lib.hid (ext_blk HV4.out HX1.out)
  have HV5 := Lib.hid (ext_blk HV5.out HX1.out)
  have HV6 := Lib.hid (ext_blk HV6.out HX1.out)
  have HV7 := Lib.hid (ext_blk HV7.out HX1.out)
  have HV8 := Lib.hid (ext_blk HV8.out HX1.out)
  have HR := Lib.hid (ext_blk HR.out HX1.out)
  have HE := Lib.hid (HE.out.trans HX1.out)
  rw [← hp9] at HV9
  clear HX1
  have ccv70 := HV7.out.cell 0
  have ccv71 := HV7.out.cell 1
  have ccv72 := HV7.out.cell 2
  have ccv73 := HV7.out.cell 3
  have ccv74 := HV7.out.cell 4
  simp only [L5.vs, List.getElem?_cons_zero, List.getElem?_cons_succ] at ccv70 ccv71 ccv72 ccv73 ccv74
  unfold L5.v L5.vs
  go_wp2_with fail
  rw [← hp9]
  change Calls _ _ #[v9.v, .int .i64 ((50 : Nat) : Int), v7.v] (w9.alloc (.cells v9.vs.toArray 61)) _
  generalize w9.alloc (.cells v9.vs.toArray 61) = y9 at *
  clear hp9 ccv70 ccv71 ccv72 ccv73 ccv74
  refine (joined_any v9 50 v7 LTv9.out LTv7.out (by omega) _).mono ?_
  rintro e w10 ⟨rfl, hb⟩
  have H1 := Lib.hid (ext_blk H1.out hb)
  have HV1 := Lib.hid (ext_blk HV1.out hb)
  have HV2 := Lib.hid (ext_blk HV2.out hb)
  have HV3 := Lib.hid (ext_blk HV3.out hb)
  have HV4 := Lib.hid (ext_blk HV4.out hb)
  have HV5 := Lib.hid (ext_blk HV5.out hb)
  have HV6 := Lib.hid (ext_blk HV6.out hb)
  have HV7 := Lib.hid (ext_blk HV7.out hb)
  have HV8 := Lib.hid (ext_blk HV8.out hb)
  have HV9 := Lib.hid (ext_blk HV9.out hb)
  have HR := Lib.hid (ext_blk HR.out hb)
  have HE := Lib.hid (HE.out.trans hb)
  clear hb
  obtain ⟨v10, hv⟩ : ∃ v, v = onesL x := ⟨_, rfl⟩
  rw [show joinL v9 50 v7 = v10 from by rw [hv, HVEv9.out, HVEv7.out]; rfl]
  have LTv10 : Hid (v10.lt 18014398509481984) := Lib.hid (by rw [hv]; exact onesL_lt HX.out)
  have HVEv10 := Lib.hid hv
  clear hv
  go_wp2_with (refine wpList_store_blk rfl _ _ _ rfl (A + 1) v10.vs rfl rfl _ _ HR.out rfl Try.arr61 (L5.vs_one _) ?_; intro w11 hb2 hg2)
  exact bodyPost_ret (v := v10.v) (result_row (by rfl) _ (A + 1) _ _ _ (by rfl) hb2 Try.underlying61 rfl Try.arr61) rfl ⟨by rw [HVEv10.out]; rfl, ext_grown HE.out hg2 (by omega)⟩

end Go.Proofs.Ytdjdalaghfknoaa

/- The walk of the code's Inv. Each theorem names its own conditions. -/
namespace Go.Proofs.Ytdjdalaghfknoaa
open Go.RowKit
set_option linter.unusedVariables false
set_option linter.unusedSimpArgs false

set_option maxRecDepth 100000 in
set_option maxHeartbeats 4000000 in
theorem Inv_num (l : List UInt8) (w : World) (hl : l.length = 32) :
    Calls Try.prog 24 #[.agg (l.map bval).toArray] w fun e w' => e = .returned (numP ((leN l : Int) ^ (pP - 2).toNat)) ∧ Below w.heap.size w w' := by
  have HLl := Lib.hid hl
  have HIl : Hid ((Try.prog.info? 23).map (·.size) = some (l.map bval).length) := Lib.hid (by rw [List.length_map, hl]; exact Try.arr23)
  have HB := Lib.hid (boxes2 w (l.map bval) zero32 23 23)
  clear hl
  go_enter Try.func24, Try.ntmps24
  go_wp2_with (refine wpList_load_blk rfl _ _ rfl w.heap.size rfl _ _ _ _ HB.out.1 Try.underlying23 HIl.out ?_)
  change Calls _ _ _ ((w.alloc (.cells (l.map bval).toArray 23)).alloc (.cells zero32.toArray 23)) _
  generalize (w.alloc (.cells (l.map bval).toArray 23)).alloc (.cells zero32.toArray 23) = w0 at *
  obtain ⟨h1, h2, h4⟩ := HB.out
  obtain ⟨A, hA⟩ : ∃ A, A = w.heap.size := ⟨_, rfl⟩
  rw [← hA] at h1 h2 ⊢
  have hA2 : w.heap.size ≤ A := by omega
  have H1 := Lib.hid h1
  have HR := Lib.hid h2
  have HE : Hid (Ext w w0) := Lib.hid h4
  clear h1 h2 h4 HB hA
  refine (limbsOf_any l HLl.out _).mono ?_
  rintro e w1 ⟨rfl, hb⟩
  have HR := Lib.hid (ext_blk HR.out hb)
  have HE := Lib.hid (HE.out.trans hb)
  clear hb
  obtain ⟨v1, hv⟩ : ∃ v, v = limbsL l := ⟨_, rfl⟩
  rw [← hv]
  have LT1 : Hid (v1.lt 18014398509481984) := Lib.hid (by rw [hv]; exact limbsL_lt l)
  have CV1 : Hid (Cong (v1.val : Nat) ((leN l : Int) ^ 1)) := Lib.hid (by rw [hv, ← pow1]; exact limbsL_val l HLl.out)
  clear hv
  obtain ⟨p1, hp⟩ : ∃ p, p = w1.heap.size := ⟨_, rfl⟩
  have HV1 := Lib.hid (Blk.made w1 v1.vs 61)
  have HX1 := Lib.hid (Ext.alloc w1 (.cells v1.vs.toArray 61))
  have HR := Lib.hid (ext_blk HR.out HX1.out)
  have HE := Lib.hid (HE.out.trans HX1.out)
  rw [← hp] at HV1
  clear HX1
  unfold L5.v L5.vs
  go_wp2_with fail
  rw [← hp]
  change Calls _ _ #[v1.v, v1.v] (w1.alloc (.cells v1.vs.toArray 61)) _
  generalize w1.alloc (.cells v1.vs.toArray 61) = y1 at *
  clear hp
  refine (times_any v1 v1 LT1.out LT1.out _).mono ?_
  rintro e w2 ⟨rfl, hb⟩
  have HR := Lib.hid (ext_blk HR.out hb)
  have HV1 := Lib.hid (ext_blk HV1.out hb)
  have HE := Lib.hid (HE.out.trans hb)
  clear hb
  obtain ⟨v2, hv⟩ : ∃ v, v = timesL v1 v1 := ⟨_, rfl⟩
  rw [← hv]
  have LT2 : Hid (v2.lt 18014398509481984) := Lib.hid (by rw [hv]; exact timesL_lt LT1.out LT1.out)
  have CV2 : Hid (Cong (v2.val : Nat) ((leN l : Int) ^ 2)) := Lib.hid (by rw [hv]; have := (timesL_val v1 v1).trans (CV1.out.mul CV1.out); rwa [← Int.pow_add] at this)
  clear hv
  obtain ⟨p2, hp⟩ : ∃ p, p = w2.heap.size := ⟨_, rfl⟩
  have HV2 := Lib.hid (Blk.made w2 v2.vs 61)
  have HX1 := Lib.hid (Ext.alloc w2 (.cells v2.vs.toArray 61))
  have HR := Lib.hid (ext_blk HR.out HX1.out)
  have HV1 := Lib.hid (ext_blk HV1.out HX1.out)
  have HE := Lib.hid (HE.out.trans HX1.out)
  rw [← hp] at HV2
  clear HX1
  unfold L5.v L5.vs
  go_wp2_with fail
  rw [← hp]
  change Code.wp _ _ _ _ (w2.alloc (.cells v2.vs.toArray 61))
  generalize w2.alloc (.cells v2.vs.toArray 61) = y2 at *
  clear hp
  refine wp_region_from 6 2 7 rfl (by kernel_rfl) (by kernel_rfl) (fun d v c a w h => by cases d <;> exact h) (by kernel_rfl) ?_
  refine det_load _ _ p2 v2.vs _ (by rfl) rfl rfl (fun w hw => ext_range HV2.out hw) Try.underlying61 rfl Try.arr61 ?_
  simp only [Act.put, List.setIfInBounds_toArray, List.set_cons_zero, List.set_cons_succ]
  refine det_call _ _ _ [v2.v, .int .i64 2] ((sqL v2 2).v) (by rfl) rfl Try.call39 rfl (fun w hw => squared_any v2 2 LT2.out (by omega) w) ?_
  simp only [Act.put, List.setIfInBounds_toArray, List.set_cons_zero, List.set_cons_succ]
  refine det_load _ _ p2 v2.vs _ (by rfl) rfl rfl (fun w hw => ext_range HV2.out hw) Try.underlying61 rfl Try.arr61 ?_
  simp only [Act.put, List.setIfInBounds_toArray, List.set_cons_zero, List.set_cons_succ]
  refine det_call _ _ _ [(sqL v2 2).v, v2.v] ((joinL v2 2 v2).v) (by rfl) rfl Try.call37 rfl (fun w hw => times_any (sqL v2 2) v2 (sqL_lt LT2.out 2) LT2.out w) ?_
  simp only [Act.put, List.setIfInBounds_toArray, List.set_cons_zero, List.set_cons_succ]
  refine det_load _ _ p1 v1.vs _ (by rfl) rfl rfl (fun w hw => ext_range HV1.out hw) Try.underlying61 rfl Try.arr61 ?_
  simp only [Act.put, List.setIfInBounds_toArray, List.set_cons_zero, List.set_cons_succ]
  refine det_call _ _ _ [(joinL v2 2 v2).v, v1.v] ((timesL (joinL v2 2 v2) v1).v) (by rfl) rfl Try.call37 rfl (fun w hw => times_any (joinL v2 2 v2) v1 (joinL_lt 2 LT2.out LT2.out) LT1.out w) ?_
  simp only [Act.put, List.setIfInBounds_toArray, List.set_cons_zero, List.set_cons_succ]
  refine det_nil (end_var (k := 6) _ 5 (.tmp 16) zero5 (timesL (joinL v2 2 v2) v1).vs rfl rfl (by kernel_rfl) (by kernel_rfl) (by kernel_rfl) (by kernel_rfl) (by kernel_rfl) rfl rfl rfl rfl Try.zeroValue61 rfl (by simp) (fun p => rfl) rfl Try.arr61 (L5.vs_one _) (fun p3 w3 hp3 hb3 he3 => ?_))
  simp only [Act.put, List.setIfInBounds_toArray, List.set_cons_zero, List.set_cons_succ]
  have HR := Lib.hid (ext_blk HR.out he3)
  have HV1 := Lib.hid (ext_blk HV1.out he3)
  have HV2 := Lib.hid (ext_blk HV2.out he3)
  have HE := Lib.hid (HE.out.trans he3)
  obtain ⟨v3, hv⟩ : ∃ v, v = timesL (joinL v2 2 v2) v1 := ⟨_, rfl⟩
  rw [← hv] at hb3 ⊢
  have LT3 : Hid (v3.lt 18014398509481984) := Lib.hid (by rw [hv]; exact timesL_lt (joinL_lt 2 LT2.out LT2.out) LT1.out)
  have CV3 : Hid (Cong (v3.val : Nat) ((leN l : Int) ^ 11)) := Lib.hid (by rw [hv]; have := (timesL_val (joinL v2 2 v2) v1).trans ((joinL_val 2 CV2.out CV2.out).mul CV1.out); rwa [← Int.pow_add] at this)
  clear hv
  have HV3 := Lib.hid hb3
  clear hb3 he3 hp3
  go_wp2_with fail
  refine wp_region_from 5 1 5 rfl (by kernel_rfl) (by kernel_rfl) (fun d v c a w h => by cases d <;> exact h) (by kernel_rfl) ?_
  refine det_load _ _ p1 v1.vs _ (by rfl) rfl rfl (fun w hw => ext_range HV1.out hw) Try.underlying61 rfl Try.arr61 ?_
  simp only [Act.put, List.setIfInBounds_toArray, List.set_cons_zero, List.set_cons_succ]
  refine det_call _ _ _ [v1.v] ((onesL v1).v) (by rfl) rfl Try.call41 rfl (fun w hw => ones_any v1 LT1.out w) ?_
  simp only [Act.put, List.setIfInBounds_toArray, List.set_cons_zero, List.set_cons_succ]
  refine det_load _ _ p3 v3.vs _ (by rfl) rfl rfl (fun w hw => ext_range HV3.out hw) Try.underlying61 rfl Try.arr61 ?_
  simp only [Act.put, List.setIfInBounds_toArray, List.set_cons_zero, List.set_cons_succ]
  refine det_call _ _ _ [(onesL v1).v, .int .i64 5, v3.v] ((joinL (onesL v1) 5 v3).v) (by rfl) rfl Try.call40 rfl (fun w hw => joined_any (onesL v1) 5 v3 (onesL_lt LT1.out) LT3.out (by omega) w) ?_
  simp only [Act.put, List.setIfInBounds_toArray, List.set_cons_zero, List.set_cons_succ]
  refine det_call _ _ _ [(joinL (onesL v1) 5 v3).v] (numP ((joinL (onesL v1) 5 v3).val : Nat)) (by rfl) rfl Try.call36 rfl (fun w hw => numOf_any _ ((joinL_lt 5 (onesL_lt LT1.out) LT3.out).mono (by omega)) w) ?_
  simp only [Act.put, List.setIfInBounds_toArray, List.set_cons_zero, List.set_cons_succ]
  have HV : numP ((joinL (onesL v1) 5 v3).val : Nat) = numP ((leN l : Int) ^ (pP - 2).toNat) := numP_cong (by
    have c1 : Cong (v1.val : Nat) (leN l : Int) := by have := CV1.out; rwa [← pow1] at this
    have := joinL_val 5 (onesL_val c1) CV3.out
    rwa [show (2 ^ 250 - 1) * 2 ^ 5 + 11 = (pP - 2).toNat from by decide +kernel] at this)
  rw [HV]
  refine det_nil (end_set (k := 5) _ _ _ _ (A + 1) ((nb ((leN l : Int) ^ (pP - 2).toNat)).map bval) zero32 rfl (by kernel_rfl) (by kernel_rfl) (by kernel_rfl) rfl rfl rfl rfl HR.out (nb_len _) (nb_size _) (bval_one _) (fun w8 hb8 hg8 => ?_))
  simp only [Act.put]
  go_wp2_with fail
  exact bodyPost_ret (v := numP ((leN l : Int) ^ (pP - 2).toNat)) (result_row (by rfl) _ (A + 1) _ _ _ (by rfl) hb8 Try.underlying23 rfl (nb_size _)) rfl ⟨rfl, ext_grown HE.out hg8 (by omega)⟩

end Go.Proofs.Ytdjdalaghfknoaa

/- The walk of the code's Pick. Each theorem names its own conditions. -/
namespace Go.Proofs.Ytdjdalaghfknoaa
open Go.RowKit
set_option linter.unusedVariables false
set_option linter.unusedSimpArgs false

theorem xor8 (a b : Nat) (ha : a < 256) (hb : b < 256) : bits .xor .u8 (a : Int) (b : Int) = ((a ^^^ b : Nat) : Int) := by
  have e1 : (BitVec.ofInt 8 (a : Int)).toNat = a := by rw [BitVec.toNat_ofInt]; omega
  have e2 : (BitVec.ofInt 8 (b : Int)).toNat = b := by rw [BitVec.toNat_ofInt]; omega
  show IntKind.u8.wrap ((BitVec.ofInt 8 (a : Int) ^^^ BitVec.ofInt 8 (b : Int)).toNat : Nat) = _
  have e3 := (BitVec.ofInt 8 (a : Int) ^^^ BitVec.ofInt 8 (b : Int)).isLt
  rw [BitVec.toNat_xor, e1, e2] at e3 ⊢
  rw [IntKind.wrap_u8]
  omega
theorem and255 (x : Nat) (hx : x < 256) : bits .and .u8 255 (x : Int) = (x : Int) := by
  have e1 : (BitVec.ofInt 8 (255 : Int)).toNat = 255 := by decide
  have e2 : (BitVec.ofInt 8 (x : Int)).toNat = x := by rw [BitVec.toNat_ofInt]; omega
  show IntKind.u8.wrap ((BitVec.ofInt 8 (255 : Int) &&& BitVec.ofInt 8 (x : Int)).toNat : Nat) = _
  have e : x &&& 255 = x % 256 := Nat.and_two_pow_sub_one_eq_mod x 8
  rw [BitVec.toNat_and, e1, e2, Nat.and_comm, e, IntKind.wrap_u8]
  omega
theorem and0 (x : Nat) (hx : x < 256) : bits .and .u8 0 (x : Int) = 0 := by
  have e1 : (BitVec.ofInt 8 (0 : Int)).toNat = 0 := by decide
  show IntKind.u8.wrap ((BitVec.ofInt 8 (0 : Int) &&& BitVec.ofInt 8 (x : Int)).toNat : Nat) = _
  rw [BitVec.toNat_and, e1, Nat.zero_and]
  rfl
theorem xor0 (a : Nat) (ha : a < 256) : bits .xor .u8 (a : Int) 0 = (a : Int) := by
  have := xor8 a 0 ha (by omega)
  rwa [Nat.xor_zero] at this
/-- What holds of the bytes when k of them are picked. -/
structure PickL (l s zs : List UInt8) (k : Nat) : Prop where
  len : zs.length = 32
  low : ∀ i, i < k → zs.getD i 0 = s.getD i 0
  high : ∀ i, k ≤ i → zs.getD i 0 = l.getD i 0
theorem PickL.step {l s zs : List UInt8} {k : Nat} (h : PickL l s zs k) (hk : k < 32) : PickL l s (zs.set k (s.getD k 0)) (k + 1) := by
  obtain ⟨h1, h2, h3⟩ := h
  refine ⟨by simp [h1], fun i hi => ?_, fun i hi => ?_⟩
  · by_cases e : i = k
    · subst e
      simp [List.getD, show i < zs.length from by omega]
    · have := h2 i (by omega)
      simpa [List.getD, List.getElem?_set_ne (Ne.symm e)] using this
  · have := h3 i (by omega)
    simpa [List.getD, List.getElem?_set_ne (show k ≠ i from by omega)] using this
theorem PickL.done {l s zs : List UInt8} (h : PickL l s zs 32) (hs : s.length = 32) : zs = s := by
  apply List.ext_getElem (by have := h.len; omega)
  intro i hi hi2
  have := h.low i (by omega)
  simpa [List.getD, hi, hi2] using this

set_option maxHeartbeats 4000000 in
theorem Pick_false (l m : List UInt8) (w : World) (hl : l.length = 32) (hm : m.length = 32) :
    Calls Try.prog 55 #[.agg (l.map bval).toArray, .agg (m.map bval).toArray, .bool false] w fun e w' => e = .returned (.agg (l.map bval).toArray) ∧ Below w.heap.size w w' := by
  have HLl := Lib.hid hl
  have HLm := Lib.hid hm
  have HIl : Hid ((Try.prog.info? 23).map (·.size) = some (l.map bval).length) := Lib.hid (by rw [List.length_map, hl]; exact Try.arr23)
  have HIm : Hid ((Try.prog.info? 23).map (·.size) = some (m.map bval).length) := Lib.hid (by rw [List.length_map, hm]; exact Try.arr23)
  have HB := Lib.hid (boxes3 w (l.map bval) (m.map bval) zero32 23 23 23)
  clear hl hm
  go_enter Try.func55, Try.ntmps55
  go_wp2_with fail
  change Code.wp _ _ _ _ (((w.alloc (.cells (l.map bval).toArray 23)).alloc (.cells (m.map bval).toArray 23)).alloc (.cells zero32.toArray 23))
  generalize ((w.alloc (.cells (l.map bval).toArray 23)).alloc (.cells (m.map bval).toArray 23)).alloc (.cells zero32.toArray 23) = w0 at *
  obtain ⟨h1, h2, h3, h4⟩ := HB.out
  obtain ⟨A, hA⟩ : ∃ A, A = w.heap.size := ⟨_, rfl⟩
  rw [← hA] at h1 h2 h3 ⊢
  have hA2 : w.heap.size ≤ A := by omega
  have H1 := Lib.hid h1
  have H2 := Lib.hid h2
  have H3 := Lib.hid h3
  have HE : Hid (Ext w w0) := Lib.hid h4
  clear h1 h2 h3 h4 HB hA
  obtain ⟨wo, rfl⟩ : ∃ wo : World, wo = w0 := ⟨_, rfl⟩
  go_loopw [10] (fun i wr => ∃ (k : Nat) (zs : List UInt8), k ≤ 32 ∧ i = .int .i64 k ∧ PickL l l zs k ∧ Blk wr A (zs.map bval) 23 ∧ Blk wr (A + 1) (m.map bval) 23 ∧ Blk wr (A + 1 + 1) zero32 23 ∧ Ext w wr) (fun i _ => 32 - (intOf i).toNat)
  case atStart => exact ⟨0, l, by omega, rfl, ⟨HLl.out, fun i hi => by omega, fun i _ => rfl⟩, H1.out, H2.out, H3.out, HE.out⟩
  case round =>
    clear H1 H2 H3 HE
    obtain ⟨k, zs, hk, rfl, hs, hb1, hb2, hb3, hbe⟩ := hrel
    have i0' : (0 : Int) ≤ (k : Int) := Int.natCast_nonneg _
    have hl5 := hs.len
    by_cases hlt : k < 32
    · have i1 : (k : Int) < 32 := by omega
      have e1 := hb1.cell k
      rw [bval_get (by omega), hs.high k (Nat.le_refl _)] at e1
      have e2 := hb2.cell k
      rw [bval_get (by have := HLm.out; omega)] at e2
      have f1 := hb1.free k
      have b1 := (l.getD k 0).toNat_lt
      have b2 := (m.getD k 0).toNat_lt
      have hst := hs.step hlt
      have hv : bval (l.getD k 0) = .int .u8 ((l.getD k 0).toNat : Int) := rfl
      have HBV := Lib.hid hv
      clear hv
      generalize hga : (l.getD k 0).toNat = a at *
      generalize hgb : (m.getD k 0).toNat = b at *
      have q1 : bits .xor .u8 (a : Int) (b : Int) = ((a ^^^ b : Nat) : Int) := xor8 a b b1 b2
      have q2 : bits .and .u8 0 ((a ^^^ b : Nat) : Int) = 0 := and0 _ (Nat.xor_lt_two_pow (n := 8) b1 b2)
      have q3 : bits .xor .u8 (a : Int) 0 = (a : Int) := xor0 a b1
      generalize a ^^^ b = x at *
      have HST := Lib.hid hst
      have HB1 := Lib.hid hb1
      have HB2 := Lib.hid hb2
      have HB3 := Lib.hid hb3
      have HBE := Lib.hid hbe
      clear hs hst hb1 hb2 hb3 hbe hl5 b1 b2 hga hgb
      go_wp2_with fail
      go_region
      go_wp2_with fail
      go_roundw
      case rel =>
        refine ⟨k + 1, _, by omega, by go_num, HST.out, ?_, HB2.out.far (by simp) _, HB3.out.far (by simp; omega) _, (Below.setCell HBE.out (by simp; omega) _).drew⟩
        rw [List.map_set, HBV.out]
        exact HB1.out.set k _
      case measure => simp [intOf]; omega
    · have hk' : k = 32 := by omega
      subst hk'
      have hd := hs.done HLl.out
      rw [hd] at hb1
      have HB1 := Lib.hid hb1
      have HB3 := Lib.hid hb3
      have HBE := Lib.hid hbe
      clear hb1 hb2 hb3 hbe hs hl5
      go_wp2_with (first | (refine wpList_load_blk rfl _ _ rfl A rfl _ _ _ _ HB1.out Try.underlying23 HIl.out ?_) | (refine wpList_store_blk rfl _ _ _ rfl (A + 1 + 1) (l.map bval) rfl rfl _ _ HB3.out (by rw [List.length_map, HLl.out]; rfl) HIl.out (bval_one _) ?_; intro w5 hb5 hg5))
      exact bodyPost_ret (v := .agg (l.map bval).toArray) (result_row (by rfl) _ (A + 1 + 1) _ _ _ (by rfl) hb5 Try.underlying23 rfl HIl.out) rfl ⟨rfl, ext_grown HBE.out hg5 (by omega)⟩

set_option maxHeartbeats 4000000 in
theorem Pick_true (l m : List UInt8) (w : World) (hl : l.length = 32) (hm : m.length = 32) :
    Calls Try.prog 55 #[.agg (l.map bval).toArray, .agg (m.map bval).toArray, .bool true] w fun e w' => e = .returned (.agg (m.map bval).toArray) ∧ Below w.heap.size w w' := by
  have HLl := Lib.hid hl
  have HLm := Lib.hid hm
  have HIl : Hid ((Try.prog.info? 23).map (·.size) = some (l.map bval).length) := Lib.hid (by rw [List.length_map, hl]; exact Try.arr23)
  have HIm : Hid ((Try.prog.info? 23).map (·.size) = some (m.map bval).length) := Lib.hid (by rw [List.length_map, hm]; exact Try.arr23)
  have HB := Lib.hid (boxes3 w (l.map bval) (m.map bval) zero32 23 23 23)
  clear hl hm
  go_enter Try.func55, Try.ntmps55
  go_wp2_with fail
  change Code.wp _ _ _ _ (((w.alloc (.cells (l.map bval).toArray 23)).alloc (.cells (m.map bval).toArray 23)).alloc (.cells zero32.toArray 23))
  generalize ((w.alloc (.cells (l.map bval).toArray 23)).alloc (.cells (m.map bval).toArray 23)).alloc (.cells zero32.toArray 23) = w0 at *
  obtain ⟨h1, h2, h3, h4⟩ := HB.out
  obtain ⟨A, hA⟩ : ∃ A, A = w.heap.size := ⟨_, rfl⟩
  rw [← hA] at h1 h2 h3 ⊢
  have hA2 : w.heap.size ≤ A := by omega
  have H1 := Lib.hid h1
  have H2 := Lib.hid h2
  have H3 := Lib.hid h3
  have HE : Hid (Ext w w0) := Lib.hid h4
  clear h1 h2 h3 h4 HB hA
  obtain ⟨wo, rfl⟩ : ∃ wo : World, wo = w0 := ⟨_, rfl⟩
  go_loopw [10] (fun i wr => ∃ (k : Nat) (zs : List UInt8), k ≤ 32 ∧ i = .int .i64 k ∧ PickL l m zs k ∧ Blk wr A (zs.map bval) 23 ∧ Blk wr (A + 1) (m.map bval) 23 ∧ Blk wr (A + 1 + 1) zero32 23 ∧ Ext w wr) (fun i _ => 32 - (intOf i).toNat)
  case atStart => exact ⟨0, l, by omega, rfl, ⟨HLl.out, fun i hi => by omega, fun i _ => rfl⟩, H1.out, H2.out, H3.out, HE.out⟩
  case round =>
    clear H1 H2 H3 HE
    obtain ⟨k, zs, hk, rfl, hs, hb1, hb2, hb3, hbe⟩ := hrel
    have i0' : (0 : Int) ≤ (k : Int) := Int.natCast_nonneg _
    have hl5 := hs.len
    by_cases hlt : k < 32
    · have i1 : (k : Int) < 32 := by omega
      have e1 := hb1.cell k
      rw [bval_get (by omega), hs.high k (Nat.le_refl _)] at e1
      have e2 := hb2.cell k
      rw [bval_get (by have := HLm.out; omega)] at e2
      have f1 := hb1.free k
      have b1 := (l.getD k 0).toNat_lt
      have b2 := (m.getD k 0).toNat_lt
      have hst := hs.step hlt
      have hv : bval (m.getD k 0) = .int .u8 ((m.getD k 0).toNat : Int) := rfl
      have HBV := Lib.hid hv
      clear hv
      generalize hga : (l.getD k 0).toNat = a at *
      generalize hgb : (m.getD k 0).toNat = b at *
      have q0 : IntKind.u8.wrap (-1) = 255 := by rfl
      have q1 : bits .xor .u8 (a : Int) (b : Int) = ((a ^^^ b : Nat) : Int) := xor8 a b b1 b2
      have q2 : bits .and .u8 255 ((a ^^^ b : Nat) : Int) = ((a ^^^ b : Nat) : Int) := and255 _ (Nat.xor_lt_two_pow (n := 8) b1 b2)
      have q3 : bits .xor .u8 (a : Int) ((a ^^^ b : Nat) : Int) = (b : Int) := by
        rw [xor8 a _ b1 (Nat.xor_lt_two_pow (n := 8) b1 b2), ← Nat.xor_assoc, Nat.xor_self, Nat.zero_xor]
      generalize a ^^^ b = x at *
      have HST := Lib.hid hst
      have HB1 := Lib.hid hb1
      have HB2 := Lib.hid hb2
      have HB3 := Lib.hid hb3
      have HBE := Lib.hid hbe
      clear hs hst hb1 hb2 hb3 hbe hl5 b1 b2 hga hgb
      go_wp2_with fail
      go_region
      go_wp2_with fail
      go_roundw
      case rel =>
        refine ⟨k + 1, _, by omega, by go_num, HST.out, ?_, HB2.out.far (by simp) _, HB3.out.far (by simp; omega) _, (Below.setCell HBE.out (by simp; omega) _).drew⟩
        rw [List.map_set, HBV.out]
        exact HB1.out.set k _
      case measure => simp [intOf]; omega
    · have hk' : k = 32 := by omega
      subst hk'
      have hd := hs.done HLm.out
      rw [hd] at hb1
      have HB1 := Lib.hid hb1
      have HB3 := Lib.hid hb3
      have HBE := Lib.hid hbe
      clear hb1 hb2 hb3 hbe hs hl5
      go_wp2_with (first | (refine wpList_load_blk rfl _ _ rfl A rfl _ _ _ _ HB1.out Try.underlying23 HIm.out ?_) | (refine wpList_store_blk rfl _ _ _ rfl (A + 1 + 1) (m.map bval) rfl rfl _ _ HB3.out (by rw [List.length_map, HLm.out]; rfl) HIm.out (bval_one _) ?_; intro w5 hb5 hg5))
      exact bodyPost_ret (v := .agg (m.map bval).toArray) (result_row (by rfl) _ (A + 1 + 1) _ _ _ (by rfl) hb5 Try.underlying23 rfl HIm.out) rfl ⟨rfl, ext_grown HBE.out hg5 (by omega)⟩

theorem Pick_num (l m : List UInt8) (s : Bool) (w : World) (hl : l.length = 32) (hm : m.length = 32) :
    Calls Try.prog 55 #[.agg (l.map bval).toArray, .agg (m.map bval).toArray, .bool s] w fun e w' => e = .returned (.agg ((if s then m else l).map bval).toArray) ∧ Below w.heap.size w w' := by
  cases s with
  | false => exact Pick_false l m w hl hm
  | true => exact Pick_true l m w hl hm

end Go.Proofs.Ytdjdalaghfknoaa

/- What the code's sums, products, inverses and picks come to as numbers modulo p. Each theorem names its own conditions. -/
namespace Go.Proofs.Ytdjdalaghfknoaa
open Go.RowKit
set_option linter.unusedVariables false

theorem fmul_f {l m : List UInt8} {f g : Fp} (w : World) (hl : F32 l f) (hm : F32 m g) : Calls Try.prog 23 #[.agg (l.map bval).toArray, .agg (m.map bval).toArray] w fun e w' => e = .returned (.agg ((nbF (f * g)).map bval).toArray) ∧ Below w.heap.size w w' := by
  refine (Mul_num l m w hl.1 hm.1).mono ?_
  rintro e w' ⟨rfl, hb⟩
  exact ⟨by rw [nb_nbF, fp_mul, hl.2, hm.2], hb⟩
theorem fadd_f {l m : List UInt8} {f g : Fp} (w : World) (hl : F32 l f) (hm : F32 m g) : Calls Try.prog 46 #[.agg (l.map bval).toArray, .agg (m.map bval).toArray] w fun e w' => e = .returned (.agg ((nbF (f + g)).map bval).toArray) ∧ Below w.heap.size w w' := by
  refine (Add_num l m w hl.1 hm.1).mono ?_
  rintro e w' ⟨rfl, hb⟩
  exact ⟨by rw [nb_nbF, fp_add, hl.2, hm.2], hb⟩
theorem fsub_f {l m : List UInt8} {f g : Fp} (w : World) (hl : F32 l f) (hm : F32 m g) : Calls Try.prog 45 #[.agg (l.map bval).toArray, .agg (m.map bval).toArray] w fun e w' => e = .returned (.agg ((nbF (f - g)).map bval).toArray) ∧ Below w.heap.size w w' := by
  refine (Sub_num l m w hl.1 hm.1).mono ?_
  rintro e w' ⟨rfl, hb⟩
  exact ⟨by rw [nb_nbF, fp_sub, hl.2, hm.2], hb⟩
theorem finv_f {l : List UInt8} {f : Fp} (w : World) (hl : F32 l f) : Calls Try.prog 24 #[.agg (l.map bval).toArray] w fun e w' => e = .returned (.agg ((nbF (fi f)).map bval).toArray) ∧ Below w.heap.size w w' := by
  refine (Inv_num l w hl.1).mono ?_
  rintro e w' ⟨rfl, hb⟩
  refine ⟨?_, hb⟩
  rw [nb_nbF, ← hl.2, fi_fp]
  rfl
theorem fpick_f {l m : List UInt8} (s : Bool) (w : World) (hl : l.length = 32) (hm : m.length = 32) : Calls Try.prog 55 #[.agg (l.map bval).toArray, .agg (m.map bval).toArray, .bool s] w fun e w' => e = .returned (.agg ((pkL s l m).map bval).toArray) ∧ Below w.heap.size w w' := Pick_num l m s w hl hm

end Go.Proofs.Ytdjdalaghfknoaa
