/- Texts that belong together, one behind the other. -/
import Derived.Test.YthafgicndklgfaaGreatDoorRows
import Derived.Test.YthafgicndklgfaaGreatDoorQz15
namespace Go.Proofs.YthafgicndklgfaaGreatDoor
set_option linter.unusedVariables false
set_option maxRecDepth 100000
set_option maxHeartbeats 32000000
set_option linter.unusedSimpArgs false
open Go.RowKit
section
open Go.ChangeShapes Go.WideShapes Go.ChangeAt Go.RowKit
section
variable {H : Type} {enc : TypeId × Value → H} {P : Program} {W : World} {sp : Nat → Bool}
theorem open_array {base0 : Nat} {r : Reach} {t e : TypeId} {len : Nat} {v : Value} {d : DataW H} {ps : List MemPlace} (ht : P.underlying t = some (.array len e)) (hc : P.cellsOf e = 1) (hct : P.cellsOf t = len)
  (hval : Value.okWide P W r base0 t v) (hd : DataW.Trod enc P W 0 (fun _ => true) true t v d ps) :
  ∃ vs : List Value, v = .agg vs.toArray ∧ vs.length = len ∧ ∀ x ∈ vs, ∃ n y, DataW.trod enc P W 0 (fun _ => true) true n e [x] = some y := by
 simp only [Value.okWide, ht] at hval
 obtain ⟨cs, rfl, hsz, _⟩ := hval
 rw [hct] at hsz
 obtain ⟨fuel, hf⟩ := hd
 obtain ⟨xs, m, _, _, hl, hxl, hx⟩ := DataW.trod_array ht hf
 obtain ⟨l⟩ := cs
 refine ⟨l, rfl, by simpa using hsz, fun x hxm => ?_⟩
 obtain ⟨i, hi, rfl⟩ := List.getElem_of_mem hxm
 have hlen : l.length = len := by simpa using hsz
 have hi' : i < len := by omega
 have := hx i hi'
 rw [hc, Nat.mul_one] at this
 refine ⟨m, xs[i]'(by omega), ?_⟩
 rw [List.getElem?_eq_getElem (by omega)] at this
 rw [← this]
 congr 1
 show [l[i]] = (l.drop i).take 1
 rw [List.drop_eq_getElem_cons hi]
 rfl
theorem open_array_ints {base0 : Nat} {r : Reach} {t e : TypeId} {len : Nat} {k : IntKind} {v : Value} {d : DataW H} {ps : List MemPlace} (ht : P.underlying t = some (.array len e)) (he : P.underlying e = some (.int k)) (hc : P.cellsOf e = 1) (hct : P.cellsOf t = len)
  (hval : Value.okWide P W r base0 t v) (hd : DataW.Trod enc P W 0 (fun _ => true) true t v d ps) :
  ∃ zs : List Int, v = .agg (zs.map (Value.int k)).toArray ∧ zs.length = len ∧ ∀ n ∈ zs, (Lit.int k n).wf = true := by
 obtain ⟨vs, rfl, hl, h2⟩ := open_array ht hc hct hval hd
 obtain ⟨l, rfl, hw⟩ := list_of_all (f := Value.int k) (p := fun n => (Lit.int k n).wf = true) (fun x hx => by
  obtain ⟨n, y, h⟩ := h2 x hx
  exact cell_int he h)
 exact ⟨l, rfl, by simpa using hl, hw⟩
end
end
section
open Go.ChangeShapes Go.WideShapes Go.ChangeAt Go.RowKit
section
variable {H : Type} {enc : TypeId × Value → H} {P : Program} {W : World}
theorem open_num {base0 : Nat} {r : Reach} {t e : TypeId} {v : Value} {d : DataW H} {ps : List MemPlace} (ht : P.underlying t = some (.array 32 e)) (he : P.underlying e = some (.int .u8)) (hc : P.cellsOf e = 1) (hct : P.cellsOf t = 32)
  (hval : Value.okWide P W r base0 t v) (hd : DataW.Trod enc P W 0 (fun _ => true) true t v d ps) : ∃ l : List UInt8, v = .agg (l.map bval).toArray ∧ l.length = 32 := by
 obtain ⟨zs, rfl, hl, hw⟩ := open_array_ints ht he hc hct hval hd
 obtain ⟨l, e⟩ := bytes_of_ints hw
 refine ⟨l, by rw [e], ?_⟩
 have := congrArg List.length e
 simpa [hl] using this.symm
end
end
section
section
variable {P : Program} {ops : Array Oper} {S : World → Prop}
theorem yi_conv {o : Oper} {a : Act} (s t : TypeId) (x : Operand) (vx v : Value) (hw : Region.wanted o (yielded ops a.tmps) = true) (ho : o.op = .convert s t x) (hx : a.eval x = vx) (h : ∀ w, S w → (convert s t vx).run P w = .ok v w) : YieldsIf P ops S o v a :=
 zbl v hw (fun w hS => by
  unfold execOp
  simp only [ho, hx, Sem.run_bind, h w hS, Result.andThen_ok, Sem.run_pure])
theorem yi_eqt {o : Oper} {a : Act} (ty rt : TypeId) (x y : Operand) (b c : List UInt8) (r : Bool) (hr : decide (b = c) = r) (hw : Region.wanted o (yielded ops a.tmps) = true) (ho : o.op = .binOp .eql ty x y rt) (hx : a.eval x = .string ⟨b.toArray⟩) (hy : a.eval y = .string ⟨c.toArray⟩) : YieldsIf P ops S o (.bool r) a :=
 zbl _ hw (fun w _ => by
  subst hr
  unfold execOp
  simp only [ho, hx, hy]
  simp [eqGuard, binOp, Op.stringOp, Result.andThen]
  try rw [Bool.eq_iff_iff]; simp)
end
end
theorem gV_inj {B : Int} (hB : 0 < B) : ∀ {xs ys : List Int}, xs.length = ys.length → (∀ i, i < xs.length → 0 ≤ xs.getD i 0 ∧ xs.getD i 0 < B) → (∀ i, i < ys.length → 0 ≤ ys.getD i 0 ∧ ys.getD i 0 < B) → gV B xs = gV B ys → xs = ys
 | [], [], _, _, _, _ => rfl
 | [], _ :: _, h, _, _, _ => by simp at h
 | _ :: _, [], h, _, _, _ => by simp at h
 | x :: r, y :: s, hl, h1, h2, he => by
  have a1 : 0 ≤ x ∧ x < B := h1 0 (by simp)
  have a2 : 0 ≤ y ∧ y < B := h2 0 (by simp)
  simp only [gV] at he
  have e1 : (x + B * gV B r) % B = x := by rw [Int.add_mul_emod_self_left, Int.emod_eq_of_lt a1.1 a1.2]
  have e2 : (y + B * gV B s) % B = y := by rw [Int.add_mul_emod_self_left, Int.emod_eq_of_lt a2.1 a2.2]
  have e3 : x = y := by rw [← e1, ← e2, he]
  subst e3
  have e4 : gV B r = gV B s := Int.eq_of_mul_eq_mul_left (by omega : B ≠ 0) (by omega)
  rw [gV_inj hB (by simpa using hl) (fun i hi => by have := h1 (i + 1) (by simpa using hi); simpa using this) (fun i hi => by have := h2 (i + 1) (by simpa using hi); simpa using this) e4]
def dig (n x : Nat) : List Int := (bytesN n x).map fun b => (b.toNat : Int)
theorem zdq (n x : Nat) : (dig n x).length = n := by simp [dig, zbf]
theorem gV_bytes : ∀ (l : List UInt8), gV 256 (l.map fun b => (b.toNat : Int)) = (leN l : Nat)
 | [] => rfl
 | b :: r => by
  simp only [List.map_cons, gV, gV_bytes r, leN]
  omega
theorem gV_dig (n x : Nat) : gV 256 (dig n x) = ((x % 256 ^ n : Nat) : Int) := by
 unfold dig
 rw [gV_bytes, zel]
theorem byte_digits (l : List UInt8) : ∀ i, i < (l.map fun b => (b.toNat : Int)).length → 0 ≤ (l.map fun b => (b.toNat : Int)).getD i 0 ∧ (l.map fun b => (b.toNat : Int)).getD i 0 < 256 := by
 intro i hi
 have hi2 : i < l.length := by simpa using hi
 rw [getD_eq hi, List.getElem_map]
 have := l[i].toNat_lt
 omega
theorem dig_digits (n x : Nat) : ∀ i, i < n → 0 ≤ (dig n x).getD i 0 ∧ (dig n x).getD i 0 < 256 := by
 intro i hi
 exact byte_digits (bytesN n x) i (by simp [zbf, hi])
theorem dig_of {zs : List Int} {n x : Nat} (hl : zs.length = n) (h : ∀ i, i < n → 0 ≤ zs.getD i 0 ∧ zs.getD i 0 < 256) (hv : gV 256 zs = (x : Int)) : zs = dig n x := by
 have hr := gV_range (B := 256) (by omega) (zs := zs) (fun i hi => h i (by omega))
 have hx : x < 256 ^ n := by
  have h1 := hr.2
  rw [hv, hl] at h1
  have e : ((256 : Int) ^ n) = ((256 ^ n : Nat) : Int) := by simp
  rw [e] at h1
  omega
 refine gV_inj (B := 256) (by omega) (by rw [zdq, hl]) (fun i hi => h i (by omega)) (fun i hi => dig_digits n x i (by rwa [zdq] at hi)) ?_
 rw [gV_dig, Nat.mod_eq_of_lt hx, hv]
theorem and_i64_1 (a : Int) (h1 : -9223372036854775808 ≤ a) (h2 : a ≤ 9223372036854775807) : bits .and .i64 a 1 = a % 2 := by
 have h : (BitVec.ofInt 64 1).toNat = 2 ^ 1 - 1 := by decide
 have key : (BitVec.ofInt 64 a &&& BitVec.ofInt 64 1).toNat = (a % ((2 ^ 64 : Nat) : Int)).toNat % 2 ^ 1 := by
  rw [BitVec.toNat_and, BitVec.toNat_ofInt, h, Nat.and_two_pow_sub_one_eq_mod]
 show IntKind.i64.wrap ((BitVec.ofInt 64 a &&& BitVec.ofInt 64 1).toNat : Nat) = _
 rw [key, IntKind.wrap_i64]
 omega
def ORD : List Int := [237, 211, 245, 92, 26, 99, 18, 88, 214, 156, 247, 162, 222, 249, 222, 20, 0, 0, 0, 0, 0, 0, 0, 0, 0, 0, 0, 0, 0, 0, 0, 16]
def ORDX : List Int := ORD ++ [0]
theorem ORDX_val : gV 256 ORDX = qQ := by decide +kernel
theorem ORD_all : ∀ z ∈ ORD, 0 ≤ z ∧ z < 256 := by decide +kernel
theorem ORD_range (j : Nat) : 0 ≤ ORD.getD j 0 ∧ ORD.getD j 0 < 256 := by
 rcases Nat.lt_or_ge j ORD.length with h | h
 ·exact zcr (P := fun z => 0 ≤ z ∧ z < 256) ORD_all h
 ·rw [getD_out h]; omega
theorem ORDX_lo {j : Nat} (h : j < 32) : ORDX.getD j 0 = ORD.getD j 0 := by
 unfold ORDX
 simp only [List.getD]
 rw [List.getElem?_append_left (show j < ORD.length from h)]
theorem ORDX_top : ORDX.getD 32 0 = 0 := rfl
def zcz : Nat := 7237005577332262213973186563042994240857116359379907606001950938285454250989
theorem qN_q : (zcz : Int) = qQ := rfl
theorem qN_pos : 0 < zcz := by unfold zcz; omega
theorem nq_nat (x : Nat) : nq (x : Int) = bytesN 32 (x % zcz) := by
 unfold nq
 rw [← qN_q, ← Int.natCast_emod, Int.toNat_natCast]
structure scl_LS (r m : List Int) (c : Int) (k : Nat) : Prop where
 len : m.length = 33
 dgs : ∀ j, j < k → 0 ≤ m.getD j 0 ∧ m.getD j 0 < 256
 car : c = 0 ∨ c = 1
 val : gV 256 (m.take k) = gV 256 (r.take k) - gV 256 (ORDX.take k) + c * 256 ^ k
theorem scl_LS.start {r : List Int} (h : r.length = 33) : scl_LS r r 0 0 := ⟨h, fun j hj => by omega, Or.inl rfl, by simp [gV]⟩
theorem take_set_far {zs : List Int} {k : Nat} {z : Int} : (zs.set k z).take k = zs.take k := by
 rw [List.take_set, List.set_eq_of_length_le (by simp; omega)]
theorem scl_LS.step {r m : List Int} {c : Int} {k : Nat} (h : scl_LS r m c k) (hk : k < 33) (hr : r.length = 33) (hd : 0 ≤ r.getD k 0 ∧ r.getD k 0 < 256) (ho : 0 ≤ ORDX.getD k 0 ∧ ORDX.getD k 0 < 256) (x : Int) (hx : x = r.getD k 0 - c - ORDX.getD k 0) :
  (x < 0 → ∀ y, y = x + 256 → scl_LS r (m.set k y) 1 (k + 1)) ∧ (¬ x < 0 → ∀ y, y = x → scl_LS r (m.set k y) 0 (k + 1)) := by
 obtain ⟨h1, h2, h3, h4⟩ := h
 have key : ∀ (y d : Int), 0 ≤ y → y < 256 → (d = 0 ∨ d = 1) → y = x + 256 * d → scl_LS r (m.set k y) d (k + 1) := by
  intro y d y0 y1 hd2 hy
  refine ⟨by simp [h1], fun j hj => ?_, hd2, ?_⟩
  ·by_cases e : j = k
   ·subst e
    rw [zat (by omega)]
    exact ⟨y0, y1⟩
   ·rw [zam (by omega)]
    exact h2 j (by omega)
  ·rw [zcl _ _ _ (by simp [h1]; omega), take_set_far, zat (by omega), zcl _ r k (by omega), zcl _ ORDX k (by show k < 33; exact hk), h4, hy, hx, Int.pow_succ]
   generalize (256 : Int) ^ k = X
   generalize gV 256 (r.take k) = R
   generalize gV 256 (ORDX.take k) = O
   generalize r.getD k 0 = a
   generalize ORDX.getD k 0 = b
   grind
 exact ⟨fun g y hy => key y 1 (by omega) (by omega) (Or.inr rfl) (by omega), fun g y hy => key y 0 (by omega) (by omega) (Or.inl rfl) (by omega)⟩
theorem dig_val (n x : Nat) (h : x < 256 ^ n) : gV 256 (dig n x) = (x : Int) := by rw [gV_dig, Nat.mod_eq_of_lt h]
theorem dig_cut (n x k : Nat) (hk : k < n) : (dig n x).getD k 0 = ((x / 256 ^ k % 256 : Nat) : Int) := by
 have h : k < (bytesN n x).length := by rw [zbf]; exact hk
 have e : (dig n x).getD k 0 = (((bytesN n x).getD k 0).toNat : Int) := by
  unfold dig
  rw [getD_eq (by simpa using h), List.getElem_map]
  simp [List.getD, h]
 rw [e, zdn n x k hk]
theorem scl_LS.done {m : List Int} {c : Int} {x : Nat} (h : scl_LS (dig 33 x) m c 33) (hx : x < 256 ^ 33) : (c = 1 ∧ x < zcz) ∨ (c = 0 ∧ zcz ≤ x ∧ m = dig 33 (x - zcz)) := by
 obtain ⟨h1, h2, h3, h4⟩ := h
 have e1 : m.take 33 = m := List.take_of_length_le (by omega)
 have e2 : (dig 33 x).take 33 = dig 33 x := List.take_of_length_le (by rw [zdq]; omega)
 have e3 : ORDX.take 33 = ORDX := rfl
 rw [e1, e2, e3, dig_val 33 x hx, ORDX_val, ← qN_q] at h4
 have hr := gV_range (B := 256) (by omega) (zs := m) (fun i hi => h2 i (by omega))
 rw [h1] at hr
 generalize (256 : Int) ^ 33 = P at *
 rcases h3 with rfl | rfl
 ·refine Or.inr ⟨rfl, by omega, dig_of h1 h2 (by omega)⟩
 ·exact Or.inl ⟨rfl, by omega⟩
structure DB (d z : List Int) (b c : Int) (k : Nat) : Prop where
 len : z.length = 33
 dgs : ∀ j, j < k → 0 ≤ z.getD j 0 ∧ z.getD j 0 < 256
 car : c = 0 ∨ c = 1
 val : gV 256 (z.take k) + c * 256 ^ k = 2 * gV 256 (d.take k) + b
 far : ∀ j, k ≤ j → z.getD j 0 = d.getD j 0
theorem DB.start {d : List Int} {b : Int} (h : d.length = 33) (hb : b = 0 ∨ b = 1) : DB d d b b 0 := ⟨h, fun j hj => by omega, hb, by simp [gV], fun j _ => rfl⟩
theorem DB.step {d z : List Int} {b c : Int} {k : Nat} (h : DB d z b c k) (hk : k < 33) (hl : d.length = 33) (hd : 0 ≤ d.getD k 0 ∧ d.getD k 0 < 256) :
  DB d (z.set k ((2 * z.getD k 0 + c) % 256)) b ((2 * z.getD k 0 + c) / 256) (k + 1) := by
 obtain ⟨h1, h2, h3, h4, h5⟩ := h
 have h6 := h5 k (Nat.le_refl _)
 rw [h6]
 refine ⟨by simp [h1], fun j hj => ?_, by omega, ?_, fun j hj => ?_⟩
 ·by_cases e : j = k
  ·subst e
   rw [zat (by omega)]
   omega
  ·rw [zam (by omega)]
   exact h2 j (by omega)
 ·rw [zcl _ _ _ (by simp [h1]; omega), take_set_far, zat (by omega), zcl _ d k (by omega), Int.pow_succ]
  have e := Int.mul_ediv_add_emod (2 * d.getD k 0 + c) 256
  generalize (2 * d.getD k 0 + c) / 256 = u at *
  generalize (2 * d.getD k 0 + c) % 256 = v at *
  generalize (256 : Int) ^ k = X at *
  generalize gV 256 (z.take k) = Z at *
  generalize gV 256 (d.take k) = D at *
  generalize d.getD k 0 = a at *
  have : Z = 2 * D + b - c * X := by omega
  subst this
  have : v = 2 * a + c - 256 * u := by omega
  subst this
  grind
 ·rw [zam (by omega)]
  exact h5 j (by omega)
theorem DB.done {z : List Int} {c : Int} {x bn : Nat} (h : DB (dig 33 x) z (bn : Int) c 33) (hx : x < 256 ^ 33) (hb : 2 * x + bn < 256 ^ 33) : z = dig 33 (2 * x + bn) := by
 obtain ⟨h1, h2, h3, h4, h5⟩ := h
 have e1 : z.take 33 = z := List.take_of_length_le (by omega)
 have e2 : (dig 33 x).take 33 = dig 33 x := List.take_of_length_le (by rw [zdq]; omega)
 rw [e1, e2, dig_val 33 x hx] at h4
 have hr := gV_range (B := 256) (by omega) (zs := z) (fun i hi => h2 i (by omega))
 have hb2 : ((2 * x + bn : Nat) : Int) < ((256 ^ 33 : Nat) : Int) := Int.ofNat_lt.2 hb
 have e3 : ((256 ^ 33 : Nat) : Int) = (256 : Int) ^ 33 := by simp
 rw [e3] at hb2
 clear hx hb e1 e2 e3
 generalize (256 : Int) ^ 33 = P at *
 refine dig_of h1 h2 ?_
 rcases h3 with rfl | rfl <;> omega
def upQ (E j : Nat) : Nat := E / 2 ^ j % zcz
theorem upQ_lt (E j : Nat) : upQ E j < zcz := Nat.mod_lt _ qN_pos
theorem dig_zero : ∀ n, dig n 0 = List.replicate n 0
 | 0 => rfl
 | n + 1 => by
  have := dig_zero n
  unfold dig at this ⊢
  simp only [bytesN, List.map_cons, List.replicate_succ, Nat.zero_div, this]
  rfl
theorem upQ_start (l : List UInt8) : dig 33 (upQ (leN l) (8 * l.length)) = List.replicate 33 0 := by
 have h := leN_lt l
 have e : (2 : Nat) ^ (8 * l.length) = 256 ^ l.length := by rw [Nat.pow_mul]
 unfold upQ
 rw [e, Nat.div_eq_of_lt h, Nat.zero_mod]
 exact dig_zero 33
theorem upQ_step (E j : Nat) : (2 * upQ E (j + 1) + E / 2 ^ j % 2) % zcz = upQ E j := by
 have e : E / 2 ^ j = 2 * (E / 2 ^ (j + 1)) + E / 2 ^ j % 2 := by
  have : E / 2 ^ (j + 1) = E / 2 ^ j / 2 := by rw [Nat.div_div_eq_div_mul, ← Nat.pow_succ]
  rw [this]
  omega
 unfold upQ
 rw [Nat.add_mod, Nat.mul_mod_mod, ← Nat.add_mod, ← e]
theorem sub_once (y : Nat) (h : y < 2 * zcz) : (if y < zcz then y else y - zcz) = y % zcz := by
 split
 ·rw [Nat.mod_eq_of_lt (by assumption)]
 ·rw [Nat.mod_eq_sub_mod (by omega), Nat.mod_eq_of_lt (by omega)]
theorem leN_byte (l : List UInt8) (i : Nat) (h : i < l.length) : (l.getD i 0).toNat = leN l / 256 ^ i % 256 := by
 have := zdn l.length (leN l) i h
 rwa [zfj] at this
def scl_cA (a b i : Nat) : Nat := (a % 256 ^ i + b % 256 ^ i) / 256 ^ i
theorem cA_zero (a b : Nat) : scl_cA a b 0 = 0 := by simp [scl_cA, Nat.mod_one]
theorem cA_step (a b i : Nat) : (scl_cA a b i + a / 256 ^ i % 256 + b / 256 ^ i % 256) % 256 = (a + b) / 256 ^ i % 256 ∧ (scl_cA a b i + a / 256 ^ i % 256 + b / 256 ^ i % 256) / 256 = scl_cA a b (i + 1) := by
 have hP : 0 < 256 ^ i := Nat.pow_pos (by omega)
 unfold scl_cA
 rw [Nat.pow_succ]
 generalize 256 ^ i = P at *
 have ea := Nat.div_add_mod a P
 have eb := Nat.div_add_mod b P
 have e1 : (a + b) / P = a / P + b / P + (a % P + b % P) / P := by
  have : a + b = (a % P + b % P) + P * (a / P + b / P) := by rw [Nat.mul_add]; omega
  rw [this, Nat.add_mul_div_left _ _ hP, Nat.add_comm]
 have e2 : ∀ z : Nat, z % (P * 256) = z % P + P * (z / P % 256) := fun z => Nat.mod_mul
 have e3 : (a % (P * 256) + b % (P * 256)) / (P * 256) = ((a % P + b % P) / P + (a / P % 256 + b / P % 256)) / 256 := by
  rw [← Nat.div_div_eq_div_mul, e2, e2]
  congr 1
  have : a % P + P * (a / P % 256) + (b % P + P * (b / P % 256)) = (a % P + b % P) + P * (a / P % 256 + b / P % 256) := by rw [Nat.mul_add]; omega
  rw [this, Nat.add_mul_div_left _ _ hP]
 rw [e1, e3]
 generalize (a % P + b % P) / P = c
 generalize a / P = x
 generalize b / P = y
 omega
def GlobO (w : World) : Prop := w.rangeAt 5 0 (ints .i64 ORD)
theorem GlobO.ext {w w' : World} (h : GlobO w) (hb : Ext w w') : GlobO w' := zfn h hb
theorem GlobO.cell {w : World} (h : GlobO w) {j : Nat} (hj : j < 32) : w.cell? ⟨5, j, none⟩ = some (.int .i64 (ORD.getD j 0)) := by
 have := h j (.int .i64 (ORD.getD j 0)) (zav (by show j < 32; exact hj))
 rwa [Nat.zero_add] at this
theorem Tryz.arr169 : (Tryz.prog.info? 169).map (·.size) = some 33 := by kernel_rfl
theorem scl_rsub_any (x : Nat) (w : World) (hx : x < 256 ^ 33) (hG : GlobO w) :
  Calls Tryz.prog 130 #[.agg (ints .i64 (dig 33 x)).toArray] w fun e w' => e = .returned (.agg (ints .i64 (dig 33 (if x < zcz then x else x - zcz))).toArray) ∧ Below w.heap.size w w' := by
 have HX := jh hx
 have HG := jh hG
 have HRL := jh (zdq 33 x)
 have HRD := jh (dig_digits 33 x)
 have HDN : Hid (∀ m c, scl_LS (dig 33 x) m c 33 → (c = 1 ∧ x < zcz) ∨ (c = 0 ∧ zcz ≤ x ∧ m = dig 33 (x - zcz))) := jh (fun m c h => h.done hx)
 have HRS : Hid (dig 33 x = dig 33 x) := jh rfl
 obtain ⟨r, hr⟩ : ∃ r, r = dig 33 x := ⟨_, rfl⟩
 have HRX := jh hr
 have HR1 : Hid (∀ z, x < zcz → z = dig 33 x → dig 33 (if x < zcz then x else x - zcz) = z) := jh (fun z h e => by rw [if_pos h, e])
 have HR2 : Hid (∀ z, zcz ≤ x → z = dig 33 (x - zcz) → dig 33 (if x < zcz then x else x - zcz) = z) := jh (fun z h e => by rw [if_neg (by omega), e])
 generalize dig 33 (if x < zcz then x else x - zcz) = res at *
 rw [← hr] at HRL HRD HDN ⊢
 have HB := jh (boxes2 w (ints .i64 r) (ints .i64 (List.replicate 33 0)) 169 169)
 have HB3 := jh (boxes3 w (ints .i64 r) (ints .i64 (List.replicate 33 0)) (ints .i64 (List.replicate 33 0)) 169 169 169)
 have HRI : Hid ((Tryz.prog.info? 169).map (·.size) = some (ints .i64 r).length) := jh (by rw [zac, HRL.out]; exact Tryz.arr169)
 have HRI2 : Hid ((ints .i64 r).length = (ints .i64 (List.replicate 33 0)).length) := jh (by rw [zac, zac, HRL.out]; rfl)
 clear hx hG hr HRS
 go_enter Tryz.func130, Tryz.ntmps130
 go_wp2_with (first | (refine zae rfl _ _ rfl w.heap.size rfl _ _ _ _ HB.out.1 Tryz.underlying169 HRI.out ?_) | (refine zab rfl _ _ _ rfl (w.heap.size + 1 + 1) _ rfl rfl _ _ HB3.out.2.2.1 HRI2.out HRI.out (zao _ _) ?_; intro w1 hb1 hg1))
 have b1 := HB3.out.1.grown hg1 (by simp; omega)
 have b2 := HB3.out.2.1.grown hg1 (by simp)
 have b4 : Ext w w1 := zad HB3.out.2.2.2 hg1 (by omega)
 clear HB HB3 hg1
 obtain ⟨A, hA⟩ : ∃ A, A = w.heap.size := ⟨_, rfl⟩
 rw [← hA] at b1 b2 hb1 ⊢
 have hA2 : w.heap.size ≤ A := by omega
 have H1 := jh b1
 have H2 := jh b2
 have H3 := jh hb1
 have HE := jh b4
 clear b1 b2 hb1 b4 hA
 go_loopw [4, 5] (fun c i wr => ∃ (k : Nat) (d : Int) (m : List Int), k ≤ 33 ∧ i = .int .i64 (k : Int) ∧ c = .int .i64 d ∧ scl_LS r m d k ∧ Blk wr A (ints .i64 r) 169 ∧ Blk wr (A + 1) (ints .i64 (List.replicate 33 0)) 169 ∧ Blk wr (A + 1 + 1) (ints .i64 m) 169 ∧ Ext w wr) (fun _ i _ => 33 - (intOf i).toNat)
 case atStart => exact ⟨0, 0, r, by omega, rfl, rfl, scl_LS.start HRL.out, H1.out, H2.out, H3.out, HE.out⟩
 case round =>
  clear H1 H2 H3 HE
  obtain ⟨k, c, m, hk, rfl, rfl, hls, hb1, hb2, hb3, hbel⟩ := hrel
  have i0' : (0 : Int) ≤ (k : Int) := Int.natCast_nonneg _
  have hc := hls.car
  by_cases hlt : k < 33
  ·have i1 : (k : Int) < 33 := by omega
   have hrl := HRL.out
   have hml := hls.len
   have e1 := hb1.cell k
   rw [zav (by omega)] at e1
   have e3 := hb3.cell k
   rw [zav (by omega)] at e3
   have f3 := hb3.free k
   have q1 := HRD.out k hlt
   have HRDK := jh q1
   generalize m.getD k 0 = u at e3
   by_cases h32 : k < 32
   ·have i2 : (k : Int) < 32 := by omega
    have eg := (HG.out.ext hbel).cell h32
    have q2 := ORD_range k
    have hst := hls.step hlt HRL.out q1 (by rw [ORDX_lo h32]; exact q2) _ rfl
    rw [ORDX_lo h32] at hst
    by_cases hneg : r.getD k 0 - c - ORD.getD k 0 < 0
    all_goals
     have HST := jh hst
     have HNG := jh hneg
     generalize r.getD k 0 = a at *
     generalize ORD.getD k 0 = o at *
     have H1 := jh hb1
     have H2 := jh hb2
     have H3 := jh hb3
     have HE := jh hbel
     clear hst hb1 hb2 hb3 hbel hls hrl hml
     rcases hc with rfl | rfl
     all_goals
      go_wp2_with fail
      go_roundw
      case rel => exact ⟨k + 1, _, _, by omega, by go_num, rfl, (by first | exact HST.out.1 HNG.out _ (by omega) | exact HST.out.2 HNG.out _ (by omega)), H1.out.far (by simp <;> omega) _, H2.out.far (by simp <;> omega) _, H3.out.seti k _, Below.setCell HE.out (by simp; omega) _⟩
      case measure => simp [intOf]; omega
   ·have hk32 : k = 32 := by omega
    subst hk32
    have hst := hls.step hlt HRL.out q1 (by rw [ORDX_top]; omega) _ rfl
    rw [ORDX_top] at hst
    by_cases hneg : r.getD 32 0 - c - 0 < 0
    all_goals
     have HST := jh hst
     have HNG := jh hneg
     generalize r.getD 32 0 = a at *
     have H1 := jh hb1
     have H2 := jh hb2
     have H3 := jh hb3
     have HE := jh hbel
     clear hst hb1 hb2 hb3 hbel hls hrl hml
     rcases hc with rfl | rfl
     all_goals (go_wp2_with fail)
     all_goals
      go_roundw
      case rel => exact ⟨32 + 1, _, _, by omega, by go_num, rfl, (by first | exact HST.out.1 HNG.out _ (by omega) | exact HST.out.2 HNG.out _ (by omega)), H1.out.far (by simp <;> omega) _, H2.out.far (by simp <;> omega) _, H3.out.seti 32 _, Below.setCell HE.out (by simp; omega) _⟩
      case measure => simp [intOf]
  ·have hk33 : k = 33 := by omega
   subst hk33
   have hdn := HDN.out m c hls
   have hml := hls.len
   have HMI : Hid ((Tryz.prog.info? 169).map (·.size) = some (ints .i64 m).length) := jh (by rw [zac, hml]; exact Tryz.arr169)
   have HMI2 : Hid ((ints .i64 m).length = (ints .i64 (List.replicate 33 0)).length) := jh (by rw [zac, zac, hml]; rfl)
   have H1 := jh hb1
   have H2 := jh hb2
   have H3 := jh hb3
   have HE := jh hbel
   clear hb1 hb2 hb3 hbel hls hml hc
   rcases hdn with ⟨rfl, h1⟩ | ⟨rfl, h1, h2⟩
   ·have HF := jh (HR1.out r h1 HRX.out)
    clear h1
    go_wp2_with (first | (refine zae rfl _ _ rfl A rfl _ _ _ _ H1.out Tryz.underlying169 HRI.out ?_) | (refine zab rfl _ _ _ rfl (A + 1) _ rfl rfl _ _ H2.out HRI2.out HRI.out (zao _ _) ?_; intro w7 hb7 hg7))
    exact bodyPost_ret (v := .agg (ints .i64 r).toArray) (zay (by rfl) _ (A + 1) _ _ _ (by rfl) hb7 Tryz.underlying169 rfl HRI.out) rfl ⟨by rw [HF.out], zad HE.out hg7 (by omega)⟩
   ·have HF := jh (HR2.out m h1 h2)
    clear h1 h2
    go_wp2_with (first | (refine zae rfl _ _ rfl (A + 1 + 1) rfl _ _ _ _ H3.out Tryz.underlying169 HMI.out ?_) | (refine zab rfl _ _ _ rfl (A + 1) _ rfl rfl _ _ H2.out HMI2.out HMI.out (zao _ _) ?_; intro w7 hb7 hg7))
    exact bodyPost_ret (v := .agg (ints .i64 m).toArray) (zay (by rfl) _ (A + 1) _ _ _ (by rfl) hb7 Tryz.underlying169 rfl HMI.out) rfl ⟨by rw [HF.out], zad HE.out hg7 (by omega)⟩
theorem gOrder : Tryz.prog.globalNamed "portcullis/portcullisref3.order" = some 5 := by kernel_rfl
theorem tOrder : (Tryz.prog.globals[5]?).map (·.type) = some 142 := by kernel_rfl
theorem dOrder : (Rows.laid_portcullis_portcullisref3_order : DataW Unit) = .agg (ORD.map fun z => .lit (.int .i64 z)) := rfl
theorem globO_of {W : World} {L : List (String × DataW Unit)} (hp : (L.all fun x => x.2.handleName?.isNone) = true) (h : laidMetH Tryz.prog L W) (hm : ("portcullis/portcullisref3.order", Rows.laid_portcullis_portcullisref3_order) ∈ L) : GlobO W :=
 zcy hp h hm dOrder gOrder tOrder Tryz.underlying142 Tryz.underlying3 (by kernel_rfl) rfl
theorem stopG_length (root : List UInt8) (id : Int) : (stopG root id).length = 64 := zeo _ _
theorem stopV_sign (root : List UInt8) {id : Int} (h : smallB id = true) : stopV (edPub root) id (stopG root id) = true := by
 unfold stopV
 rw [h, show verB (edPub root) (stopG root id) (stopT id) = true from verB_true (ver_sign _ _)]
 rfl
theorem stpG_length (root : List UInt8) (id : Int) : (stpG root id).length = 64 := by
 unfold stpG
 split
 ·exact stopG_length _ _
 ·exact zbi
section
section
variable {P : Program}
variable {t e : TypeId} {f0 f1 f2 : Field} {i1 i2 ie : TypeInfo} {a b : Int} {ka kb sa sb : List UInt8}
section
variable {ops : Array Oper} {S : World → Prop}
theorem yi_eqs {o : Oper} {a : Act} (ty rt : TypeId) (x y : Operand) (xs ys : Array Value) (r : Bool) (hr : ∀ w, (Op.equalIn 10000 ty (.agg xs) (.agg ys)).run P w = .ok r w) (hm : P.eqGuardType P.depth ty = false)
  (hw : Region.wanted o (yielded ops a.tmps) = true) (ho : o.op = .binOp .eql ty x y rt) (hx : a.eval x = .agg xs) (hy : a.eval y = .agg ys) : YieldsIf P ops S o (.bool r) a :=
 zbl _ hw (fun w _ => by
  have h1 : (Op.equal ty (.agg xs) (.agg ys)).run P w = .ok r w := hr w
  unfold execOp
  simp [ho, hx, hy, eqGuard, hm, binOp, h1])
end
end
end
theorem sgnI_in (sid : Int) (key : List UInt8) : I64 (sgnI sid key) := by
 unfold I64 sgnI sgnOk
 split
 ·next h =>
  have h1 : smallB sid = true := by
   cases hb : smallB sid with
   | true => rfl
   | false => rw [hb] at h; simp at h
  have := smallB_lo h1
  have := smallB_hi h1
  omega
 ·omega
theorem stpI_in (sid : Int) : I64 (stpI sid) := by
 unfold I64 stpI
 split
 ·next h =>
  have := smallB_lo h
  have := smallB_hi h
  omega
 ·omega
section
section
variable {P : Program} {w : World}
theorem rowB3 {v x y z : Value} {l m n : List UInt8} (h : Row1 w v [x, y, z]) (hx : Row1 w x (l.map bval)) (hy : Row1 w y (m.map bval)) (hz : Row1 w z (n.map bval)) : RowB w v [l, m, n] :=
 ⟨_, h, rfl, fun i u k hu hk => by
  match i with
  | 0 => simp at hu hk; subst hu; subst hk; exact hx
  | 1 => simp at hu hk; subst hu; subst hk; exact hy
  | 2 => simp at hu hk; subst hu; subst hk; exact hz
  | i + 3 => simp at hu⟩
end
end
theorem rReduce_num (v : Value) (l : List UInt8) (w : World) (hv : Row1 w v (l.map bval)) (hG : GlobO w) :
  Calls Tryz.prog 103 #[v] w fun e w' => e = .returned (.agg ((nq (leN (l.take 64) : Nat)).map bval).toArray) ∧ Below w.heap.size w w' := by
 have HV := jh hv
 obtain ⟨a, cap, rfl, r1, r2, r3, r4⟩ := hv
 have HG := jh hG
 have HLM : Hid ((l.map bval).length = l.length) := jh (List.length_map _)
 clear hG r4 r3
 rw [HLM.out] at r1 ⊢
 unfold maxLen at r2
 have HB := jh (boxes2 w (ints .u8 (List.replicate 32 0)) (ints .i64 (List.replicate 33 0)) 23 169)
 have HB1 := jh (Ext.alloc w (.cells (ints .u8 (List.replicate 32 0)).toArray 23))
 go_enter Tryz.func103, Tryz.ntmps103
 go_upto_if 12 with (fail)
 change Code.wp _ _ _ _ (w.alloc (.cells (ints .u8 (List.replicate 32 0)).toArray 23))
 go_cut [0] from 13 to 14 (fun v wc => ∃ n : Nat, v = .slice a n cap ∧ n = (l.take 64).length ∧ Row1 w (.slice a n cap) ((l.take 64).map bval) ∧ wc = w.alloc (.cells (ints .u8 (List.replicate 32 0)).toArray 23))
 case first =>
  by_cases hle : l.length ≤ 64
  ·have hle2 : (l.length : Int) ≤ 64 := by omega
   have HRW : Hid (Row1 w (.slice a l.length cap) ((l.take 64).map bval)) := jh (by rw [List.take_of_length_le hle]; have := HV.out; rwa [HLM.out] at this)
   go_wp2_with fail
   go_meet
   exact ⟨_, rfl, by rw [List.take_of_length_le hle], HRW.out, rfl⟩
  ·have hle2 : (64 : Int) < (l.length : Int) := by omega
   have HRW : Hid (Row1 w (.slice a 64 cap) ((l.take 64).map bval)) := jh (by rw [List.map_take]; exact HV.out.head 64 (by rw [HLM.out]; omega))
   go_wp2_with fail
   go_meet
   exact ⟨_, rfl, by rw [List.length_take]; omega, HRW.out, rfl⟩
 case rest =>
  obtain ⟨n, rfl, hn, hrow, rfl⟩ := hcut
  have hL64 : (l.take 64).length ≤ 64 := by simp; omega
  obtain ⟨L, hL⟩ : ∃ L, L = l.take 64 := ⟨_, rfl⟩
  rw [← hL] at hn hrow hL64
  have HLT := jh hL
  clear hL
  subst hn
  obtain ⟨a', cap', hv1, hv2, hv3, hv4, hv5⟩ := id hrow
  rw [List.length_map] at hv1
  cases hv1
  unfold maxLen at hv3
  have HR := jh hv5
  have HBS : Hid ((L.map bval).length = L.length) := jh (List.length_map _)
  have HRL := jh hL64
  rw [HBS.out] at hv2
  clear r1 r2 HV HLM hrow hv4 hv5
  go_wp2_with fail
  change Code.wp _ _ _ _ ((w.alloc (.cells (ints .u8 (List.replicate 32 0)).toArray 23)).alloc (.cells (ints .i64 (List.replicate 33 0)).toArray 169))
  generalize (w.alloc (.cells (ints .u8 (List.replicate 32 0)).toArray 23)).alloc (.cells (ints .i64 (List.replicate 33 0)).toArray 169) = w0 at *
  obtain ⟨b1, b2, b4⟩ := HB.out
  obtain ⟨A, hA⟩ : ∃ A, A = w.heap.size := ⟨_, rfl⟩
  rw [← hA] at b1 b2 ⊢
  have hA2 : w.heap.size ≤ A := by omega
  have H1 := jh b1
  have H2 := jh b2
  have HE : Hid (Ext w w0) := jh b4
  clear b1 b2 b4 hA HB HB1 hL64
  have h64 := HRL.out
  go_loopw [4] (fun i wr => ∃ (j : Nat), j ≤ 8 * L.length ∧ i = .int .i64 ((j : Int) - 1) ∧ Blk wr (A + 1) (ints .i64 (dig 33 (upQ (leN L) j))) 169 ∧ Blk wr A (ints .u8 (List.replicate 32 0)) 23 ∧ Ext w wr) (fun i _ => (intOf i + 1).toNat)
  case atStart => exact ⟨8 * L.length, Nat.le_refl _, by congr 1, by rw [upQ_start]; exact H2.out, H1.out, HE.out⟩
  case round =>
   clear H1 H2 HE
   obtain ⟨j, hj, rfl, hb1, hb2, hbel⟩ := hrel
   by_cases hlt : 1 ≤ j
   ·obtain ⟨i, rfl⟩ : ∃ i, j = i + 1 := ⟨j - 1, by omega⟩
    have hi1 : ((i + 1 : Nat) : Int) - 1 = (i : Int) := by omega
    rw [hi1]
    have i0 : (0 : Int) ≤ (i : Int) := Int.natCast_nonneg _
    have i1 : (i : Int) < 8 * (L.length : Int) := by omega
    have i8 : i / 8 < L.length := by omega
    obtain ⟨b, off, rfl, hbs, hcell⟩ := HR.out (by intro e; rw [List.map_eq_nil_iff] at e; rw [e] at i8; exact absurd i8 (by simp))
    have hc := hcell (i / 8) (by rw [HBS.out]; exact i8)
    rw [zbu i8] at hc
    have hc2 : wr.cell? ⟨b, off + i / 8, none⟩ = some (.int .u8 ((L.getD (i / 8) 0).toNat : Int)) := by rw [← hc]; exact hbel.cell (p := ⟨b, off + i / 8, none⟩) hbs
    have hbit := leN_bit L i (by omega)
    have hby := UInt8.toNat_lt (L.getD (i / 8) 0)
    obtain ⟨p, hp⟩ : ∃ p : Nat, p = i / 8 := ⟨_, rfl⟩
    obtain ⟨s, hs⟩ : ∃ s : Nat, s = i % 8 := ⟨_, rfl⟩
    rw [← hp] at hc2 hby hbit i8
    rw [← hs] at hbit
    have hp2 : (i : Int) / 8 = (p : Int) := by omega
    have hs2 : (i : Int) % 8 = (s : Int) := by omega
    have pL : (p : Int) < (L.length : Int) := by omega
    have s8 : (s : Int) < 8 := by omega
    have hand : bits .and .i64 (((L.getD p 0).toNat : Int) / 2 ^ s) 1 = ((leN L / 2 ^ i % 2 : Nat) : Int) := by
     have e : (((L.getD p 0).toNat : Int) / 2 ^ s) = (((L.getD p 0).toNat / 2 ^ s : Nat) : Int) := by simp
     have h3 : (L.getD p 0).toNat / 2 ^ s ≤ (L.getD p 0).toNat := Nat.div_le_self _ _
     rw [e, hbit]
     generalize (L.getD p 0).toNat / 2 ^ s = z at *
     rw [and_i64_1 _ (by omega) (by omega)]
     omega
    have HSTEP := jh (upQ_step (leN L) i)
    have HX := jh (upQ_lt (leN L) (i + 1))
    have HB2 : Hid (leN L / 2 ^ i % 2 = 0 ∨ leN L / 2 ^ i % 2 = 1) := jh (by omega)
    generalize leN L / 2 ^ i % 2 = bn at *
    generalize upQ (leN L) (i + 1) = x at *
    generalize (L.getD p 0).toNat = c at *
    have H1 := jh hb1
    have H2 := jh hb2
    have HE := jh hbel
    clear hb1 hb2 hbel hcell hc hbit hp hs hi1
    go_wp2_with fail
    have HX33 : Hid (x < 256 ^ 33) := jh (by have h1 := HX.out; have h2 : zcz < 256 ^ 33 := (by decide +kernel); omega)
    have HY33 : Hid (2 * x + bn < 256 ^ 33) := jh (by have h1 := HX.out; have h0 := HB2.out; have h2 : 2 * zcz + 1 < 256 ^ 33 := (by decide +kernel); omega)
    have HDL := jh (zdq 33 x)
    have HDD := jh (dig_digits 33 x)
    have HDN : Hid (∀ z c, DB (dig 33 x) z (bn : Int) c 33 → z = dig 33 (2 * x + bn)) := jh (fun z c h => h.done HX33.out HY33.out)
    have HDS : Hid (DB (dig 33 x) (dig 33 x) (bn : Int) (bn : Int) 0) := jh (DB.start HDL.out (by have := HB2.out; omega))
    generalize dig 33 x = d at *
    obtain ⟨wo, rfl⟩ : ∃ wo : World, wo = wr := ⟨_, rfl⟩
    go_loopw [5, 6] (fun cv kv wr => ∃ (k : Nat) (c : Int) (z : List Int), k ≤ 33 ∧ kv = .int .i64 (k : Int) ∧ cv = .int .i64 c ∧ DB d z (bn : Int) c k ∧ Blk wr (A + 1) (ints .i64 z) 169 ∧ Blk wr A (ints .u8 (List.replicate 32 0)) 23 ∧ Ext w wr) (fun _ kv _ => 33 - (intOf kv).toNat)
    case atStart => exact ⟨0, _, d, by omega, rfl, rfl, HDS.out, H1.out, H2.out, HE.out⟩
    case round =>
     clear H1 H2 HE hc2
     obtain ⟨k, cc, z, hk, rfl, rfl, hdb, hb1, hb2, hbel⟩ := hrel
     have k0 : (0 : Int) ≤ (k : Int) := Int.natCast_nonneg _
     have hcar := hdb.car
     by_cases hlk : k < 33
     ·have k1 : (k : Int) < 33 := by omega
      have hzl := hdb.len
      have e1 := hb1.cell k
      rw [zav (by omega)] at e1
      have f1 := hb1.free k
      have q1 := HDD.out k hlk
      rw [← hdb.far k (Nat.le_refl _)] at q1
      have hst := hdb.step hlk HDL.out (HDD.out k hlk)
      have hm := and_i64_255 (2 * z.getD k 0 + cc) (by omega) (by omega)
      have HST := jh hst
      generalize z.getD k 0 = u at *
      have H1 := jh hb1
      have H2 := jh hb2
      have HE := jh hbel
      clear hst hb1 hb2 hbel hdb hzl
      go_wp2_with fail
      go_roundw
      case rel => exact ⟨k + 1, _, _, by omega, by go_num, rfl, HST.out, H1.out.seti k _, H2.out.far (by simp <;> omega) _, Below.setCell HE.out (by simp <;> omega) _⟩
      case measure => simp [intOf]; omega
     ·have hk33 : k = 33 := by omega
      subst hk33
      have hz := HDN.out z cc hdb
      subst hz
      have HSUB := jh (fun w hw => scl_rsub_any (2 * x + bn) w HY33.out hw)
      have HF : Hid ((if 2 * x + bn < zcz then 2 * x + bn else 2 * x + bn - zcz) = upQ (leN L) i) := jh (by rw [sub_once _ (by have := HX.out; have := HB2.out; omega), HSTEP.out])
      have hi1 : Hid ((Tryz.prog.info? 169).map (·.size) = some (ints .i64 (dig 33 (2 * x + bn))).length) := jh (by rw [zac, zdq]; exact Tryz.arr169)
      have hi2 : Hid ((Tryz.prog.info? 169).map (·.size) = some (ints .i64 (dig 33 (upQ (leN L) i))).length) := jh (by rw [zac, zdq]; exact Tryz.arr169)
      have hl2 : Hid ((ints .i64 (dig 33 (upQ (leN L) i))).length = (ints .i64 (dig 33 (2 * x + bn))).length) := jh (by rw [zac, zac, zdq, zdq])
      rw [HF.out] at HSUB
      have H1 := jh hb1
      have H2 := jh hb2
      have HE := jh hbel
      clear hb1 hb2 hbel hdb hcar hand
      generalize 2 * x + bn = y at *
      obtain ⟨x2, hx2⟩ : ∃ x2, x2 = upQ (leN L) i := ⟨_, rfl⟩
      rw [← hx2] at HSUB hi2 hl2
      have HX2 := jh hx2
      clear hx2 HF
      go_wp2_with (refine zae rfl _ _ rfl (A + 1) rfl _ _ _ _ H1.out Tryz.underlying169 hi1.out ?_)
      refine (HSUB.out _ (HG.out.ext HE.out)).mono ?_
      rintro e w5 ⟨rfl, hb5⟩
      have H1 := jh (zaa H1.out hb5)
      have H2 := jh (zaa H2.out hb5)
      have HE := jh (HE.out.trans hb5)
      clear hb5
      go_wp2_with (refine zab rfl _ _ _ rfl (A + 1) _ rfl rfl _ _ H1.out hl2.out hi2.out (zao _ _) ?_; intro w6 hb6 hg6)
      go_roundw
      case rel =>
       rw [HX2.out] at hb6
       exact ⟨i, by omega, rfl, hb6, H2.out.grown hg6 (by simp), zad HE.out hg6 (by omega)⟩
      case measure => simp [intOf]
   ·have hj0 : j = 0 := by omega
    subst hj0
    have he0 : ((0 : Nat) : Int) - 1 = -1 := rfl
    rw [he0]
    have HNQ : Hid (nq (leN L : Nat) = bytesN 32 (upQ (leN L) 0)) := jh (by rw [nq_nat]; unfold upQ; rw [Nat.pow_zero, Nat.div_one])
    have HDG : Hid (∀ k, k < 33 → (dig 33 (upQ (leN L) 0)).getD k 0 = ((upQ (leN L) 0 / 256 ^ k % 256 : Nat) : Int)) := jh (fun k hk => dig_cut 33 _ k hk)
    have HNL := jh (zcc (leN L : Nat))
    generalize upQ (leN L) 0 = x at *
    have HNB : Hid (∀ k, k < 32 → ((nq (leN L : Nat)).getD k 0).toNat = x / 256 ^ k % 256) := jh (fun k hk => by rw [HNQ.out, zdn 32 x k hk])
    obtain ⟨N, hN⟩ : ∃ N, N = nq (leN L : Nat) := ⟨_, rfl⟩
    rw [← hN] at HNB HNL
    have HNN : Hid (N = nq (leN (l.take 64) : Nat)) := jh (by rw [hN, HLT.out])
    clear hN
    have HDL := jh (zdq 33 x)
    generalize dig 33 x = d at *
    have HD := jh (Blk.made wr (ints .u8 (List.replicate 32 0)) 23)
    have H1 := jh (hb1.alloc (.cells (ints .u8 (List.replicate 32 0)).toArray 23))
    have H2 := jh (hb2.alloc (.cells (ints .u8 (List.replicate 32 0)).toArray 23))
    have HE := jh (Ext.trans hbel (Ext.alloc wr (.cells (ints .u8 (List.replicate 32 0)).toArray 23)))
    have hDA : A + 1 < wr.heap.size := hb1.lt
    clear hb1 hb2 hbel HNQ
    go_wp2_with fail
    change Code.wp _ _ _ _ (wr.alloc (.cells (ints .u8 (List.replicate 32 0)).toArray 23))
    generalize wr.alloc (.cells (ints .u8 (List.replicate 32 0)).toArray 23) = w3 at *
    generalize wr.heap.size = D at *
    go_loopw [9] (fun iv wr => ∃ (k : Nat), k ≤ 32 ∧ iv = .int .i64 (k : Int) ∧ Blk wr D ((fill 32 N k).map bval) 23 ∧ Blk wr (A + 1) (ints .i64 d) 169 ∧ Blk wr A (ints .u8 (List.replicate 32 0)) 23 ∧ Ext w wr) (fun iv _ => 32 - (intOf iv).toNat)
    case atStart => exact ⟨0, by omega, rfl, by rw [fill_start]; exact HD.out, H1.out, H2.out, HE.out⟩
    case round =>
     clear HD H1 H2 HE
     obtain ⟨k, hk, rfl, hb3, hb1, hb2, hbel⟩ := hrel
     have k0 : (0 : Int) ≤ (k : Int) := Int.natCast_nonneg _
     by_cases hlk : k < 32
     ·have k1 : (k : Int) < 32 := by omega
      have k2 : (k : Int) < 33 := by omega
      have hdl := HDL.out
      have e1 := hb1.cell k
      rw [zav (by omega), HDG.out k (by omega)] at e1
      have hln : ((fill 32 N k).map bval).length = 32 := by rw [List.length_map, fill_length HNL.out (by omega)]
      have e3 := hb3.cell k
      rw [List.getElem?_eq_getElem (by omega)] at e3
      have f3 := hb3.free k
      generalize ((fill 32 N k).map bval)[k]'(by omega) = c3 at e3
      have hz : ((x / 256 ^ k % 256 : Nat) : Int) % 256 = ((N.getD k 0).toNat : Int) := by rw [HNB.out k hlk]; omega
      have HST := jh (zfh HNL.out hlk hz)
      have hzb : x / 256 ^ k % 256 < 256 := Nat.mod_lt _ (by omega)
      have hz2 : ((x / 256 ^ k % 256 : Nat) : Int) % 256 = ((x / 256 ^ k % 256 : Nat) : Int) := by omega
      rw [hz2] at HST
      clear hz hz2
      generalize x / 256 ^ k % 256 = y at *
      have H1 := jh hb1
      have H2 := jh hb2
      have HD := jh hb3
      have HE := jh hbel
      clear hb1 hb2 hb3 hbel hdl hln
      go_wp2_with fail
      go_roundw
      case rel =>
       refine ⟨k + 1, by omega, by go_num, ?_, H1.out.far (by simp <;> omega) _, H2.out.far (by simp <;> omega) _, Below.setCell HE.out (by simp <;> omega) _⟩
       rw [← HST.out]
       exact HD.out.set k _
      case measure => simp [intOf]; omega
     ·have hk32 : k = 32 := by omega
      subst hk32
      rw [fill_full HNL.out] at hb3
      have H2 := jh hb2
      have HD := jh hb3
      have HE := jh hbel
      clear hb1 hb2 hb3 hbel
      have hi1 : Hid ((Tryz.prog.info? 23).map (·.size) = some (N.map bval).length) := jh (zaf HNL.out)
      have hl1 : Hid ((N.map bval).length = (ints .u8 (List.replicate 32 0)).length) := jh (by rw [List.length_map, HNL.out]; rfl)
      go_wp2_with (first | (refine zae rfl _ _ rfl D rfl _ _ _ _ HD.out Tryz.underlying23 hi1.out ?_) | (refine zab rfl _ _ _ rfl A _ rfl rfl _ _ H2.out hl1.out hi1.out (zaj _) ?_; intro w7 hb7 hg7))
      exact bodyPost_ret (v := .agg (N.map bval).toArray) (zay (by rfl) _ A _ _ _ (by rfl) hb7 Tryz.underlying23 rfl hi1.out) rfl ⟨by rw [HNN.out], zad HE.out hg7 (by omega)⟩
theorem flat_succ (ls : List (List UInt8)) (k : Nat) (l : List UInt8) (h : ls[k]? = some l) : (ls.take (k + 1)).flatten = (ls.take k).flatten ++ l := by
 have hk : k < ls.length := by
  rcases Nat.lt_or_ge k ls.length with h' | h'
  ·exact h'
  ·rw [List.getElem?_eq_none h'] at h; cases h
 rw [List.take_succ_eq_append_getElem hk, List.flatten_append]
 rw [List.getElem?_eq_getElem hk] at h
 cases h
 simp
theorem flat_part (ls : List (List UInt8)) (k : Nat) : (ls.take k).flatten.length ≤ ls.flatten.length := by
 have h : ls.flatten = (ls.take k).flatten ++ (ls.drop k).flatten := by rw [← List.flatten_append, List.take_append_drop]
 rw [h, List.length_append]
 omega
theorem join_any (v : Value) (ls : List (List UInt8)) (w : World) (hv : RowB w v ls) (hb : ls.flatten.length ≤ 1099511627776) :
  Calls Tryz.prog 102 #[v] w fun e w' => ∃ x, e = .returned x ∧ Row1 w' x (ls.flatten.map bval) ∧ Below w.heap.size w w' := by
 obtain ⟨i0, hi, hz0, hz1, hz2⟩ := info_parts Tryz.info5
 obtain ⟨vals, hr, hlen, hx⟩ := hv
 obtain ⟨a, cap, rfl, r1, r2, r3, r4⟩ := id hr
 unfold maxLen at r2
 rw [hlen] at r1 ⊢
 have HI0 := jh hi
 have HZ0 := jh hz0
 have HZ1 := jh hz1
 have HZ2 := jh hz2
 have HX := jh hx
 have HC := jh r4
 have HLN := jh hlen
 have HB := jh hb
 have HNIL : Hid (w.ownsRow w.heap.size 5 1 (.slice none 0 0) 0 []) := jh (World.ownsRow_nil _ _ _ _)
 clear hr hx r3 r4 hb hlen hi hz0 hz1 hz2
 go_enter Tryz.func102, Tryz.ntmps102
 go_wp2_with fail
 go_loopw [3, 4] (fun x iv wr => ∃ (k : Nat), k ≤ ls.length ∧ iv = .int .i64 (k : Int) ∧ wr.ownsRow w.heap.size 5 1 x (ls.take k).flatten.length ((ls.take k).flatten.map bval) ∧ Ext w wr) (fun _ iv _ => ls.length - (intOf iv).toNat)
 case atStart => exact ⟨0, by omega, rfl, HNIL.out, Ext.refl w⟩
 case round =>
  clear HNIL
  obtain ⟨k, hk, rfl, ho, hE⟩ := hrel
  have k0 : (0 : Int) ≤ (k : Int) := Int.natCast_nonneg _
  have HO := jh ho
  have HE := jh hE
  have HS := jh hE.size
  clear ho hE
  by_cases hlk : k < ls.length
  ·have k1 : (k : Int) < (ls.length : Int) := by omega
   obtain ⟨b', off, rfl, hbs, hcell⟩ := HC.out (by intro e; have h := congrArg List.length e; rw [HLN.out] at h; simp only [List.length_nil] at h; omega)
   obtain ⟨xv, hxv⟩ : ∃ x, vals[k]? = some x := ⟨_, List.getElem?_eq_getElem (by rw [HLN.out]; exact hlk)⟩
   obtain ⟨lk, hlk2⟩ : ∃ x, ls[k]? = some x := ⟨_, List.getElem?_eq_getElem hlk⟩
   have HXR := jh ((HX.out k xv lk hxv hlk2).below HE.out)
   have hft := flat_succ ls k lk hlk2
   have hfl := flat_part ls (k + 1)
   rw [hft, List.length_append] at hfl
   have HFT := jh hft
   have c0 : wr.cell? ⟨b', off + k, none⟩ = some xv := by
    have h := hcell k (by rw [HLN.out]; exact hlk)
    rw [hxv] at h
    rw [← h]
    exact HE.out.cell (p := ⟨b', off + k, none⟩) hbs
   have HFL : Hid ((ls.take k).flatten.length + (lk.map bval).length ≤ 1099511627776) := jh (by rw [List.length_map]; have := HB.out; omega)
   clear hcell hxv hlk2 hft hfl
   go_wp2_with (at_builtin; refine zas rfl _ _ 46 rfl w.heap.size 5 i0 (.int .u8 0) 1 Tryz.underlying46 HI0.out HZ0.out HZ1.out HZ2.out rfl _ _ _ rfl HO.out rfl HXR.out (zaj _) (by have := HFL.out; unfold maxLen; omega) (by have := HFL.out; omega) HS.out ?_; intro v3 w3 hown3 hgrow3)
   go_roundw
   case rel =>
    refine ⟨k + 1, by omega, by go_num, ?_, zfp HE.out HO.out (Nat.le_refl _) hgrow3⟩
    rw [HFT.out, List.map_append, List.length_append]
    rw [List.length_map] at hown3
    exact hown3
   case measure => simp [intOf]; omega
  ·have hk2 : (ls.length : Int) ≤ (k : Int) := by omega
   have hke : k = ls.length := by omega
   have hrw := Row1.of_own HO.out
   rw [hke, List.take_length] at hrw
   have HR := jh hrw
   clear hrw
   clear HO hke
   go_wp2_with fail
   go_ret
   exact ⟨_, rfl, HR.out, HE.out⟩
theorem sha512_take (m : List UInt8) : (sha512 m).take 64 = sha512 m := List.take_of_length_le (by rw [zcg]; exact Nat.le_refl _)
theorem rwide_f (v : Value) (ls : List (List UInt8)) (w : World) (hv : RowB w v ls) (hl : ls.flatten.length ≤ 1099511627776) (hK : GlobK5 w) (hO : GlobO w) : Calls Tryz.prog 58 #[v] w fun e w' => e = .returned (.agg ((wideB ls.flatten).map bval).toArray) ∧ Below w.heap.size w w' := by
 have HV := jh hv
 have HLL := jh hl
 have HK := jh hK
 have HGO := jh hO
 have HB := jh (zfu w (ints .u8 (List.replicate 32 0)) 23)
 clear hv hl hK hO
 go_enter Tryz.func58, Tryz.ntmps58
 go_upto_region 1 with (fail)
 obtain ⟨H1, HE⟩ := HB.out
 change Code.wp _ _ _ _ (w.alloc (.cells (ints .u8 (List.replicate 32 0)).toArray 23))
 generalize w.alloc (.cells (ints .u8 (List.replicate 32 0)).toArray 23) = wa at *
 obtain ⟨A, hA⟩ : ∃ A, A = w.heap.size := ⟨_, rfl⟩
 have HO : Hid (w.heap.size ≤ A) := jh (by omega)
 rw [← hA] at H1 ⊢
 have HR := jh H1
 have HE : Hid (Ext w wa) := jh HE
 clear hA HB H1
 go_wp2_with fail
 refine (join_any v ls wa (HV.out.below HE.out) HLL.out).mono ?_
 rintro e wb ⟨x, rfl, hx, hb⟩
 have HX := jh hx
 have HR := jh (zaa HR.out hb)
 have HE := jh (HE.out.trans hb)
 clear hx hb
 go_wp2_with fail
 refine (rShb_any x ls.flatten wb HX.out HLL.out (HK.out.ext HE.out)).mono ?_
 rintro e wc ⟨rfl, hb⟩
 have HR := jh (zaa HR.out hb)
 have HE := jh (HE.out.trans hb)
 clear hb HX
 have HSL := jh (zcg ls.flatten)
 have HWB : Hid (wideB ls.flatten = nq (leN ((sha512 ls.flatten).take 64) : Nat)) := jh (by rw [sha512_take]; rfl)
 generalize sha512 ls.flatten = h at *
 have HZ := jh (Blk.made wc (ints .u8 (List.replicate 64 0)) 26)
 have HEA := jh (Ext.alloc wc (.cells (ints .u8 (List.replicate 64 0)).toArray 26))
 have HL : Hid ((h.map bval).length = (ints .u8 (List.replicate 64 0)).length) := jh (by rw [List.length_map, HSL.out, zac]; rfl)
 go_upto_region 2 with (refine zab rfl _ _ _ rfl wc.heap.size (h.map bval) rfl rfl _ _ HZ.out HL.out (zct HSL.out) (zaj _) ?_; intro wd hb2 hg2)
 have HXX := jh (zad HEA.out hg2 (Nat.le_refl _))
 have HR := jh (zaa HR.out HXX.out)
 have HE := jh (HE.out.trans HXX.out)
 generalize wc.heap.size = S at *
 have HSR := jh (zcm (n := 64) hb2 (by rw [List.length_map, HSL.out]) (by unfold maxLen; omega))
 clear hb2 hg2 HZ HEA HXX HL
 go_wp2_with fail
 refine (rReduce_num _ h wd HSR.out (HGO.out.ext HE.out)).mono ?_
 rintro e we ⟨rfl, hb⟩
 have HR := jh (zaa HR.out hb)
 have HE := jh (HE.out.trans hb)
 clear hb HSR
 rw [← HWB.out]
 have HWL := jh (zbw ls.flatten)
 have HL : Hid (((wideB ls.flatten).map bval).length = (ints .u8 (List.replicate 32 0)).length) := jh (by rw [List.length_map, HWL.out, zac]; rfl)
 go_wp2_with (refine zab rfl _ _ _ rfl A ((wideB ls.flatten).map bval) rfl rfl _ _ HR.out HL.out (zaf HWL.out) (zaj _) ?_; intro w9 hb9 hg9)
 refine bodyPost_ret (zbn rfl _ A _ _ _ _ rfl hb9 Tryz.underlying23 (zaf HWL.out)) rfl ⟨rfl, zad HE.out hg9 HO.out⟩
def byl (l : List UInt8) : List Int := l.map fun b => (b.toNat : Int)
theorem byl_getD (l : List UInt8) (i : Nat) : (byl l).getD i 0 = ((l.getD i 0).toNat : Int) := by
 unfold byl
 simp only [List.getD, List.getElem?_map]
 cases l[i]? <;> simp
theorem byl_range (l : List UInt8) (i : Nat) : 0 ≤ (byl l).getD i 0 ∧ (byl l).getD i 0 ≤ 255 := by
 rw [byl_getD]
 have := UInt8.toNat_lt (l.getD i 0)
 omega
def tAll (x y : List Int) : Nat → List Int
 | 0 => List.replicate 64 0
 | i + 1 => mRow (tAll x y i) x y i 32
theorem tAll_length (x y : List Int) : ∀ i, (tAll x y i).length = 64
 | 0 => by simp [tAll]
 | i + 1 => by rw [tAll, zds, tAll_length x y i]
theorem tRow_range {p x y : List Int} {i : Nat} {C : Int} (hi : i < 32) (hp : p.length = 64) (hC : ∀ k, 0 ≤ p.getD k 0 ∧ p.getD k 0 ≤ C) (hx : ∀ j, 0 ≤ x.getD j 0 ∧ x.getD j 0 ≤ 255) (hy : ∀ j, 0 ≤ y.getD j 0 ∧ y.getD j 0 ≤ 255) :
  ∀ j, j ≤ 32 → ∀ k, 0 ≤ (mRow p x y i j).getD k 0 ∧ (mRow p x y i j).getD k 0 ≤ C + 65025
 | 0, _, k => by have := hC k; simp only [mRow]; omega
 | j + 1, hj, k => by
  have ih := tRow_range hi hp hC hx hy j (by omega) k
  have hm := mul_range (hx i).1 (hx i).2 (hy j).1 (hy j).2
  simp only [mRow]
  by_cases e : i + j = k
  ·subst e
   rw [zat (by rw [zds]; omega), mRow_far p x y i j _ (by omega)]
   have := hC (i + j)
   omega
  ·rw [zam e]
   exact ih
theorem tAll_range {x y : List Int} (hx : ∀ j, 0 ≤ x.getD j 0 ∧ x.getD j 0 ≤ 255) (hy : ∀ j, 0 ≤ y.getD j 0 ∧ y.getD j 0 ≤ 255) : ∀ i, i ≤ 32 → ∀ k, 0 ≤ (tAll x y i).getD k 0 ∧ (tAll x y i).getD k 0 ≤ (i : Int) * 65025
 | 0, _, k => by
  simp only [tAll, List.getD, List.getElem?_replicate]
  split <;> simp
 | i + 1, hi, k => by
  have := tRow_range (i := i) (C := (i : Int) * 65025) (by omega) (tAll_length x y i) (tAll_range hx hy i (by omega)) hx hy 32 (by omega) k
  simp only [tAll]
  omega
theorem tRow_val (p x y : List Int) (i : Nat) (hi : i < 32) (hp : p.length = 64) (hy : y.length = 32) : ∀ j, j ≤ 32 → gV 256 (mRow p x y i j) = gV 256 p + x.getD i 0 * 256 ^ i * gV 256 (y.take j)
 | 0, _ => by simp [mRow, gV]
 | j + 1, hj => by
  simp only [mRow]
  rw [gV_set _ _ _ _ (by rw [zds]; omega), tRow_val p x y i hi hp hy j (by omega), zcl _ y j (by omega), Int.pow_add]
  generalize (mRow p x y i j).getD (i + j) 0 = a
  generalize (256 : Int) ^ i = X
  generalize (256 : Int) ^ j = Y
  generalize gV 256 (y.take j) = T
  generalize y.getD j 0 = t
  generalize x.getD i 0 = u
  grind
theorem tAll_val (x y : List Int) (hx : x.length = 32) (hy : y.length = 32) : ∀ i, i ≤ 32 → gV 256 (tAll x y i) = gV 256 (x.take i) * gV 256 y
 | 0, _ => by simp [tAll, gV_zeros, gV]
 | i + 1, hi => by
  simp only [tAll]
  have e : y.take 32 = y := List.take_of_length_le (by omega)
  rw [tRow_val _ _ _ _ (by omega) (tAll_length x y i) hy 32 (by omega), tAll_val x y hx hy i (by omega), zcl _ x i (by omega), e]
  generalize (256 : Int) ^ i = X
  generalize gV 256 y = T
  generalize gV 256 (x.take i) = S
  generalize x.getD i 0 = u
  grind
def cM (t : List Int) (i : Nat) : Int := gV 256 (t.take i) / 256 ^ i
theorem cM_zero (t : List Int) : cM t 0 = 0 := by simp [cM, gV]
theorem cM_step (t : List Int) (i : Nat) (hi : i < t.length) : (cM t i + t.getD i 0) % 256 = gV 256 t / 256 ^ i % 256 ∧ (cM t i + t.getD i 0) / 256 = cM t (i + 1) := by
 have hP : (0 : Int) < 256 ^ i := Int.pow_pos (by omega)
 have e1 : gV 256 t = gV 256 (t.take i) + 256 ^ i * (t.getD i 0 + 256 * gV 256 (t.drop (i + 1))) := by
  have h := gV_cut 256 t i (by omega)
  rw [List.drop_eq_getElem_cons hi, gV] at h
  rw [getD_eq hi]
  exact h
 unfold cM
 refine ⟨?_, ?_⟩
 ·rw [e1, Int.add_mul_ediv_left _ _ (by omega)]
  generalize gV 256 (t.take i) / 256 ^ i = c
  omega
 ·rw [zcl _ t i hi, Int.pow_succ, ← Int.ediv_ediv_of_nonneg (by omega), Int.mul_comm (t.getD i 0), Int.add_mul_ediv_left _ _ (by omega)]
theorem cM_range {t : List Int} {M : Int} (hM : ∀ k, 0 ≤ t.getD k 0 ∧ t.getD k 0 ≤ M) : ∀ i, i ≤ t.length → 0 ≤ cM t i ∧ cM t i ≤ M
 | 0, _ => by rw [cM_zero]; have := hM 0; omega
 | i + 1, hi => by
  have ih := cM_range hM i (by omega)
  have h := (cM_step t i (by omega)).2
  have := hM i
  omega
theorem prod_val (l m : List UInt8) (hl : l.length = 32) (hm : m.length = 32) : gV 256 (tAll (byl l) (byl m) 32) = ((leN l * leN m : Nat) : Int) := by
 have h1 : (byl l).length = 32 := by simp [byl, hl]
 have h2 : (byl m).length = 32 := by simp [byl, hm]
 have e : (byl l).take 32 = byl l := List.take_of_length_le (by omega)
 rw [tAll_val _ _ h1 h2 32 (by omega), e, Int.natCast_mul]
 unfold byl
 rw [gV_bytes, gV_bytes]
theorem prod_byte (x k : Nat) : ((x : Int) / 256 ^ k % 256) = ((x / 256 ^ k % 256 : Nat) : Int) := by
 have e : ((256 : Int) ^ k) = ((256 ^ k : Nat) : Int) := by simp
 rw [e, ← Int.natCast_ediv]
 omega
theorem u8_oneV : (Tryz.prog.info? 5).map (·.size) = some 1 := by kernel_rfl
theorem rwide_v (v : Value) (ls : List (List UInt8)) (l : List UInt8) (w : World) (hv : RowB w v ls) (hf : ls.flatten = l) (hl : l.length ≤ 1099511627776) (hK : GlobK5 w) (hO : GlobO w) : Calls Tryz.prog 58 #[v] w fun e w' => e = .returned (.agg ((wideB l).map bval).toArray) ∧ Below w.heap.size w w' := by
 subst hf
 exact rwide_f v ls w hv hl hK hO
theorem bytesN_zero : ∀ n, bytesN n 0 = List.replicate n 0
 | 0 => rfl
 | n + 1 => by
  simp only [bytesN, Nat.zero_div, bytesN_zero n, List.replicate_succ]
  rfl
theorem fill_tail (x k n : Nat) (h : x < 256 ^ k) : fill (k + n) (bytesN (k + n) x) k = bytesN (k + n) x := by
 have e1 := zft k n x
 rw [Nat.div_eq_of_lt h, bytesN_zero] at e1
 unfold fill
 rw [e1, List.take_append_of_le_length (by rw [zbf]; exact Nat.le_refl _), List.take_of_length_le (by rw [zbf]; exact Nat.le_refl _), Nat.add_sub_cancel_left]
theorem cA_le (a b i : Nat) : scl_cA a b i ≤ 1 := by
 have hP : 0 < 256 ^ i := Nat.pow_pos (by omega)
 have h1 := Nat.mod_lt a hP
 have h2 := Nat.mod_lt b hP
 unfold scl_cA
 generalize 256 ^ i = P at *
 have : (a % P + b % P) / P < 2 := by rw [Nat.div_lt_iff_lt_mul hP]; omega
 omega
theorem rred_blk (x : Nat) (hx : x < 256 ^ 64) {w : World} {c : Nat} {t : TypeId} (h : Blk w c ((bytesN 64 x).map bval) t) (hG : GlobO w) :
  Calls Tryz.prog 103 #[.slice (some ⟨c, 0, none⟩) 64 64] w fun e w' => e = .returned (.agg ((nq (x : Nat)).map bval).toArray) ∧ Below w.heap.size w w' := by
 have := rReduce_num _ (bytesN 64 x) w (h.row (by rw [List.length_map, zbf]) (by unfold maxLen; omega)) hG
 rwa [List.take_of_length_le (by rw [zbf]; exact Nat.le_refl _), zel, Nat.mod_eq_of_lt hx] at this
theorem rAddQ_num (l m : List UInt8) (w : World) (hl : l.length = 32) (hm : m.length = 32) (hG : GlobO w) :
  Calls Tryz.prog 59 #[.agg (l.map bval).toArray, .agg (m.map bval).toArray] w fun e w' => e = .returned (.agg ((nq ((leN l : Nat) + (leN m : Nat))).map bval).toArray) ∧ Below w.heap.size w w' := by
 have HL := jh hl
 have HM := jh hm
 have HG := jh hG
 have ha := leN_lt l
 have hb := leN_lt m
 rw [hl] at ha
 rw [hm] at hb
 have h33 : leN l + leN m < 256 ^ 33 := by
  have : (256 : Nat) ^ 32 + 256 ^ 32 ≤ 256 ^ 33 := by decide +kernel
  omega
 have h64 : leN l + leN m < 256 ^ 64 := Nat.lt_of_lt_of_le h33 (by decide +kernel)
 have HC0 := jh (cA_zero (leN l) (leN m))
 have HCS := jh (cA_step (leN l) (leN m))
 have HTA : Hid (leN l / 256 ^ 32 % 256 = 0) := jh (by rw [Nat.div_eq_of_lt ha])
 have HTB : Hid (leN m / 256 ^ 32 % 256 = 0) := jh (by rw [Nat.div_eq_of_lt hb])
 have HFT := jh (fill_tail (leN l + leN m) 33 31 h33)
 have HFL := jh (zbf 64 (leN l + leN m))
 have HFB := jh (fun k hk => zdn 64 (leN l + leN m) k hk)
 have HRD := jh (fun (w : World) (c : Nat) (t : TypeId) (h : Blk w c ((bytesN 64 (leN l + leN m)).map bval) t) hG => rred_blk (leN l + leN m) h64 h hG)
 have HBL := jh (fun k hk => leN_byte l k hk)
 have HBM := jh (fun k hk => leN_byte m k hk)
 have HRS : Hid (nq ((leN l + leN m : Nat) : Int) = nq ((leN l : Nat) + (leN m : Nat))) := jh (by rw [Int.natCast_add])
 have HB := jh (boxes4 w (l.map bval) (m.map bval) (ints .u8 (List.replicate 32 0)) (ints .u8 (List.replicate 64 0)) 23 23 23 25)
 clear hl hm hG ha hb h33 h64
 go_enter Tryz.func59, Tryz.ntmps59
 go_wp2_with fail
 change Code.wp _ _ _ _ ((((w.alloc (.cells (l.map bval).toArray 23)).alloc (.cells (m.map bval).toArray 23)).alloc (.cells (ints .u8 (List.replicate 32 0)).toArray 23)).alloc (.cells (ints .u8 (List.replicate 64 0)).toArray 25))
 generalize (((w.alloc (.cells (l.map bval).toArray 23)).alloc (.cells (m.map bval).toArray 23)).alloc (.cells (ints .u8 (List.replicate 32 0)).toArray 23)).alloc (.cells (ints .u8 (List.replicate 64 0)).toArray 25) = w0 at *
 obtain ⟨h1, h2, h3, h4, hE⟩ := HB.out
 obtain ⟨A, hA⟩ : ∃ A, A = w.heap.size := ⟨_, rfl⟩
 rw [← hA] at h1 h2 h3 h4 ⊢
 have hA2 : w.heap.size ≤ A := by omega
 have H1 := jh h1
 have H2 := jh h2
 have H3 := jh h3
 have H4 := jh h4
 have HE : Hid (Ext w w0) := jh hE
 clear h1 h2 h3 h4 hE HB hA
 obtain ⟨S, hS⟩ : ∃ S, S = bytesN 64 (leN l + leN m) := ⟨_, rfl⟩
 rw [← hS] at HFT HFL HFB HRD
 clear hS
 go_loopw [6, 7] (fun cv iv wr => ∃ (k : Nat), k ≤ 33 ∧ iv = .int .i64 (k : Int) ∧ cv = .int .i64 ((scl_cA (leN l) (leN m) k : Nat) : Int) ∧ Blk wr A (l.map bval) 23 ∧ Blk wr (A + 1) (m.map bval) 23 ∧ Blk wr (A + 1 + 1) (ints .u8 (List.replicate 32 0)) 23 ∧ Blk wr (A + 1 + 1 + 1) ((fill 64 S k).map bval) 25 ∧ Ext w wr) (fun _ iv _ => 33 - (intOf iv).toNat)
 case atStart => exact ⟨0, by omega, rfl, by rw [HC0.out]; rfl, H1.out, H2.out, H3.out, by rw [fill_start]; exact H4.out, HE.out⟩
 case round =>
  clear H1 H2 H3 H4 HE
  obtain ⟨k, hk, rfl, rfl, hb1, hb2, hb3, hb4, hbel⟩ := hrel
  have k0 : (0 : Int) ≤ (k : Int) := Int.natCast_nonneg _
  have hcs := HCS.out k
  have hcb := cA_le (leN l) (leN m) k
  by_cases hlt : k < 33
  ·have k1 : (k : Int) < 33 := by omega
   have k64 : (k : Int) < 64 := by omega
   have hln : ((fill 64 S k).map bval).length = 64 := by rw [List.length_map, fill_length HFL.out (by omega)]
   have e4 := hb4.cell k
   rw [List.getElem?_eq_getElem (by omega)] at e4
   have f4 := hb4.free k
   generalize ((fill 64 S k).map bval)[k]'(by omega) = c4 at e4
   have hfb := HFB.out k (by omega)
   by_cases h32 : k < 32
   ·have k2 : (k : Int) < 32 := by omega
    have e1 := hb1.cell k
    rw [zbu (by rw [HL.out]; exact h32), HBL.out k (by rw [HL.out]; exact h32)] at e1
    have e2 := hb2.cell k
    rw [zbu (by rw [HM.out]; exact h32), HBM.out k (by rw [HM.out]; exact h32)] at e2
    have p1 : leN l / 256 ^ k % 256 < 256 := Nat.mod_lt _ (by omega)
    have p2 : leN m / 256 ^ k % 256 < 256 := Nat.mod_lt _ (by omega)
    have HNX := jh hcs.2
    have hz := hcs.1
    rw [← hfb] at hz
    generalize leN l / 256 ^ k % 256 = x at *
    generalize leN m / 256 ^ k % 256 = y at *
    generalize scl_cA (leN l) (leN m) k = c at *
    have HST := jh (zfh (k := k) (z := ((c : Int) + (x : Int) + (y : Int)) % 256) HFL.out (by omega) (by omega))
    have hm := and_i64_255 ((c : Int) + (x : Int) + (y : Int)) (by omega) (by omega)
    have HND : Hid (((c : Int) + (x : Int) + (y : Int)) / 256 = ((scl_cA (leN l) (leN m) (k + 1) : Nat) : Int)) := jh (by have := HNX.out; omega)
    have H1 := jh hb1
    have H2 := jh hb2
    have H3 := jh hb3
    have H4 := jh hb4
    have HE := jh hbel
    clear hb1 hb2 hb3 hb4 hbel hln hfb hz hcs
    go_wp2_with fail
    go_region
    go_wp2_with fail
    go_roundw
    case rel =>
     refine ⟨k + 1, by omega, by go_num, by rw [HND.out], (H1.out.drewN 1).far (by simp <;> omega) _, (H2.out.drewN 1).far (by simp <;> omega) _, (H3.out.drewN 1).far (by simp <;> omega) _, ?_, Below.setCell (HE.out.trans (Ext.drew _)) (by simp <;> omega) _⟩
     rw [← HST.out]
     exact (H4.out.drewN 1).set k _
    case measure => simp [intOf]; omega
   ·have k32 : k = 32 := by omega
    subst k32
    rw [HTA.out, HTB.out] at hcs
    have HNX := jh hcs.2
    have hz := hcs.1
    rw [← hfb] at hz
    generalize scl_cA (leN l) (leN m) 32 = c at *
    have HST := jh (zfh (k := 32) (z := (c : Int) % 256) HFL.out (by omega) (by omega))
    have hm := and_i64_255 (c : Int) (by omega) (by omega)
    have HND : Hid ((c : Int) / 256 = ((scl_cA (leN l) (leN m) (32 + 1) : Nat) : Int)) := jh (by have := HNX.out; omega)
    have H1 := jh hb1
    have H2 := jh hb2
    have H3 := jh hb3
    have H4 := jh hb4
    have HE := jh hbel
    clear hb1 hb2 hb3 hb4 hbel hln hfb hz hcs
    go_wp2_with fail
    go_roundw
    case rel =>
     refine ⟨32 + 1, by omega, by go_num, by rw [HND.out], H1.out.far (by simp <;> omega) _, H2.out.far (by simp <;> omega) _, H3.out.far (by simp <;> omega) _, ?_, Below.setCell HE.out (by simp <;> omega) _⟩
     rw [← HST.out]
     exact H4.out.set 32 _
    case measure => simp [intOf]
  ·have hk33 : k = 33 := by omega
   subst hk33
   have hft : fill 64 S 33 = S := HFT.out
   rw [hft] at hb4
   have H3 := jh hb3
   have H4 := jh hb4
   have HE := jh hbel
   clear hb1 hb2 hb3 hb4 hbel hft hcs hcb
   go_wp2_with fail
   refine (HRD.out _ _ _ H4.out (HG.out.ext HE.out)).mono ?_
   rintro e w5 ⟨rfl, hb5⟩
   have H3 := jh (zaa H3.out hb5)
   have HE := jh (HE.out.trans hb5)
   have hi2 : Hid ((Tryz.prog.info? 23).map (·.size) = some ((nq ((leN l + leN m : Nat) : Int)).map bval).length) := jh (zaf (zcc _))
   have hl2 : Hid (((nq ((leN l + leN m : Nat) : Int)).map bval).length = (ints .u8 (List.replicate 32 0)).length) := jh (by rw [List.length_map, zcc]; rfl)
   clear hb5 HRD
   go_wp2_with (refine zab rfl _ _ _ rfl (A + 1 + 1) _ rfl rfl _ _ H3.out hl2.out hi2.out (zaj _) ?_; intro w7 hb7 hg7)
   exact bodyPost_ret (v := .agg ((nq ((leN l + leN m : Nat) : Int)).map bval).toArray) (zay (by rfl) _ (A + 1 + 1) _ _ _ (by rfl) hb7 Tryz.underlying23 rfl hi2.out) rfl ⟨by rw [HRS.out], zad HE.out hg7 (by omega)⟩
theorem rMulQ_num (l m : List UInt8) (w : World) (hl : l.length = 32) (hm : m.length = 32) (hG : GlobO w) :
  Calls Tryz.prog 60 #[.agg (l.map bval).toArray, .agg (m.map bval).toArray] w fun e w' => e = .returned (.agg ((nq ((leN l : Nat) * (leN m : Nat))).map bval).toArray) ∧ Below w.heap.size w w' := by
 have HL := jh hl
 have HM := jh hm
 have HG := jh hG
 have ha := leN_lt l
 have hb := leN_lt m
 rw [hl] at ha
 rw [hm] at hb
 have h64 : leN l * leN m < 256 ^ 64 := by
  have e : (256 : Nat) ^ 64 = 256 ^ 32 * 256 ^ 32 := by decide +kernel
  rw [e]
  exact Nat.mul_lt_mul'' ha hb
 have HPV := jh (prod_val l m hl hm)
 have HFL := jh (zbf 64 (leN l * leN m))
 have HFB := jh (fun k hk => zdn 64 (leN l * leN m) k hk)
 have HPB := jh (fun k => prod_byte (leN l * leN m) k)
 have HRD := jh (fun (w : World) (c : Nat) (t : TypeId) (h : Blk w c ((bytesN 64 (leN l * leN m)).map bval) t) hG => rred_blk (leN l * leN m) h64 h hG)
 have HRS : Hid (nq ((leN l * leN m : Nat) : Int) = nq ((leN l : Nat) * (leN m : Nat))) := jh (by rw [Int.natCast_mul])
 have HBX := jh (byl_range l)
 have HBY := jh (byl_range m)
 have HGX : Hid (∀ i, ((l.getD i 0).toNat : Int) = (byl l).getD i 0) := jh (fun i => (byl_getD l i).symm)
 have HGY : Hid (∀ i, ((m.getD i 0).toNat : Int) = (byl m).getD i 0) := jh (fun i => (byl_getD m i).symm)
 have HB := jh (boxes4 w (l.map bval) (m.map bval) (ints .u8 (List.replicate 32 0)) (ints .i64 (List.replicate 64 0)) 23 23 23 131)
 clear hl hm hG ha hb h64
 go_enter Tryz.func60, Tryz.ntmps60
 go_wp2_with fail
 change Code.wp _ _ _ _ ((((w.alloc (.cells (l.map bval).toArray 23)).alloc (.cells (m.map bval).toArray 23)).alloc (.cells (ints .u8 (List.replicate 32 0)).toArray 23)).alloc (.cells (ints .i64 (List.replicate 64 0)).toArray 131))
 generalize (((w.alloc (.cells (l.map bval).toArray 23)).alloc (.cells (m.map bval).toArray 23)).alloc (.cells (ints .u8 (List.replicate 32 0)).toArray 23)).alloc (.cells (ints .i64 (List.replicate 64 0)).toArray 131) = w0 at *
 obtain ⟨h1, h2, h3, h4, hE⟩ := HB.out
 obtain ⟨A, hA⟩ : ∃ A, A = w.heap.size := ⟨_, rfl⟩
 rw [← hA] at h1 h2 h3 h4 ⊢
 have hA2 : w.heap.size ≤ A := by omega
 have H1 := jh h1
 have H2 := jh h2
 have H3 := jh h3
 have H4 := jh h4
 have HE : Hid (Ext w w0) := jh hE
 clear h1 h2 h3 h4 hE HB hA
 obtain ⟨S, hS⟩ : ∃ S, S = bytesN 64 (leN l * leN m) := ⟨_, rfl⟩
 rw [← hS] at HFL HFB HRD
 clear hS
 generalize hxx : byl l = x at *
 generalize hyy : byl m = y at *
 clear hxx hyy
 go_loopw [6] (fun iv wr => ∃ (i : Nat), i ≤ 32 ∧ iv = .int .i64 (i : Int) ∧ Blk wr A (l.map bval) 23 ∧ Blk wr (A + 1) (m.map bval) 23 ∧ Blk wr (A + 1 + 1) (ints .u8 (List.replicate 32 0)) 23 ∧ Blk wr (A + 1 + 1 + 1) (ints .i64 (tAll x y i)) 131 ∧ Ext w wr) (fun iv _ => 32 - (intOf iv).toNat)
 case atStart => exact ⟨0, by omega, rfl, H1.out, H2.out, H3.out, H4.out, HE.out⟩
 case round =>
  clear H1 H2 H3 H4 HE
  obtain ⟨i, hi, rfl, hb1, hb2, hb3, hb4, hbel⟩ := hrel
  have k0 : (0 : Int) ≤ (i : Int) := Int.natCast_nonneg _
  by_cases hlt : i < 32
  ·have i1 : (i : Int) < 32 := by omega
   have HPR := jh (tAll_range HBX.out HBY.out i (by omega))
   have HPL := jh (tAll_length x y i)
   have HNX : Hid (tAll x y (i + 1) = mRow (tAll x y i) x y i 32) := jh rfl
   generalize tAll x y i = z at *
   have H1 := jh hb1
   have H2 := jh hb2
   have H3 := jh hb3
   have H4 := jh hb4
   have HE := jh hbel
   clear hb1 hb2 hb3 hb4 hbel
   go_wp2_with fail
   obtain ⟨wo, rfl⟩ : ∃ wo : World, wo = wr := ⟨_, rfl⟩
   go_loopw [7] (fun jv wr => ∃ (j : Nat), j ≤ 32 ∧ jv = .int .i64 (j : Int) ∧ Blk wr A (l.map bval) 23 ∧ Blk wr (A + 1) (m.map bval) 23 ∧ Blk wr (A + 1 + 1) (ints .u8 (List.replicate 32 0)) 23 ∧ Blk wr (A + 1 + 1 + 1) (ints .i64 (mRow z x y i j)) 131 ∧ Ext w wr) (fun jv _ => 32 - (intOf jv).toNat)
   case atStart => exact ⟨0, by omega, rfl, H1.out, H2.out, H3.out, H4.out, HE.out⟩
   case round =>
    clear H1 H2 H3 H4 HE
    obtain ⟨j, hj, rfl, hb1, hb2, hb3, hb4, hbel⟩ := hrel
    have j0 : (0 : Int) ≤ (j : Int) := Int.natCast_nonneg _
    by_cases hlj : j < 32
    ·have j1 : (j : Int) < 32 := by omega
     have hzl := zds z x y i j
     rw [HPL.out] at hzl
     have e1 := hb1.cell i
     rw [zbu (by rw [HL.out]; exact hlt), HGX.out] at e1
     have e2 := hb2.cell j
     rw [zbu (by rw [HM.out]; exact hlj), HGY.out] at e2
     have e4 := hb4.cell (i + j)
     rw [zav (by omega)] at e4
     have f4 := hb4.free (i + j)
     have q1 := HBX.out i
     have q2 := HBY.out j
     have q3 := tRow_range hlt HPL.out HPR.out HBX.out HBY.out j (by omega) (i + j)
     have hst : mRow z x y i (j + 1) = (mRow z x y i j).set (i + j) ((mRow z x y i j).getD (i + j) 0 + x.getD i 0 * y.getD j 0) := rfl
     have HST := jh hst
     have q4 := mul_range q1.1 q1.2 q2.1 q2.2
     generalize (mRow z x y i j).getD (i + j) 0 = a at *
     generalize x.getD i 0 = u at *
     generalize y.getD j 0 = t at *
     obtain ⟨ij, hij⟩ : ∃ ij : Nat, ij = i + j := ⟨_, rfl⟩
     rw [← hij] at e4 f4
     have hij2 : (i : Int) + (j : Int) = (ij : Int) := by omega
     have ij1 : (ij : Int) < 64 := by omega
     have HIJ := jh hij
     have H1 := jh hb1
     have H2 := jh hb2
     have H3 := jh hb3
     have H4 := jh hb4
     have HE := jh hbel
     clear hst hb1 hb2 hb3 hb4 hbel hzl hij
     go_wp2_with fail
     go_region
     go_wp2_with fail
     go_roundw
     case rel =>
      refine ⟨j + 1, by omega, by go_num, (H1.out.far (by simp <;> omega) _).drewN 1, (H2.out.far (by simp <;> omega) _).drewN 1, (H3.out.far (by simp <;> omega) _).drewN 1, ?_, (Below.setCell HE.out (by simp <;> omega) _).drew⟩
      rw [HST.out, ← HIJ.out]
      exact (H4.out.seti ij _).drewN 1
     case measure => simp [intOf]; omega
    ·have hj' : j = 32 := by omega
     subst hj'
     rw [← HNX.out] at hb4
     have H1 := jh hb1
     have H2 := jh hb2
     have H3 := jh hb3
     have H4 := jh hb4
     have HE := jh hbel
     clear hb1 hb2 hb3 hb4 hbel
     go_wp2_with fail
     go_roundw
     case rel => exact ⟨i + 1, by omega, by go_num, H1.out, H2.out, H3.out, H4.out, HE.out⟩
     case measure => simp [intOf]; omega
  ·have hi' : i = 32 := by omega
   subst hi'
   have HTR := jh (tAll_range HBX.out HBY.out 32 (by omega))
   have HTL := jh (tAll_length x y 32)
   generalize tAll x y 32 = t at *
   have HCR : Hid (∀ k, k ≤ 64 → 0 ≤ cM t k ∧ cM t k ≤ 2080800) := jh (fun k hk => cM_range (M := 2080800) (fun j => by have := HTR.out j; omega) k (by rw [HTL.out]; exact hk))
   have HCZ := jh (cM_zero t)
   have HCS : Hid (∀ k, k < 64 → (cM t k + t.getD k 0) % 256 = ((S.getD k 0).toNat : Int) ∧ (cM t k + t.getD k 0) / 256 = cM t (k + 1)) := jh (fun k hk => by
    have h := cM_step t k (by rw [HTL.out]; exact hk)
    rw [HPV.out, HPB.out, ← HFB.out k hk] at h
    exact h)
   have H3 := jh (hb3.alloc (.cells (ints .u8 (List.replicate 64 0)).toArray 25))
   have H4 := jh (hb4.alloc (.cells (ints .u8 (List.replicate 64 0)).toArray 25))
   have HS := jh (Blk.made wr (ints .u8 (List.replicate 64 0)) 25)
   have HE := jh (Ext.trans hbel (Ext.alloc wr (.cells (ints .u8 (List.replicate 64 0)).toArray 25)))
   have hDA : A + 1 + 1 + 1 < wr.heap.size := hb4.lt
   clear hb1 hb2 hb3 hb4 hbel
   go_wp2_with fail
   change Code.wp _ _ _ _ (wr.alloc (.cells (ints .u8 (List.replicate 64 0)).toArray 25))
   generalize wr.alloc (.cells (ints .u8 (List.replicate 64 0)).toArray 25) = w3 at *
   generalize wr.heap.size = D at *
   go_loopw [9, 10] (fun cv iv wr => ∃ (k : Nat), k ≤ 64 ∧ iv = .int .i64 (k : Int) ∧ cv = .int .i64 (cM t k) ∧ Blk wr (A + 1 + 1) (ints .u8 (List.replicate 32 0)) 23 ∧ Blk wr (A + 1 + 1 + 1) (ints .i64 t) 131 ∧ Blk wr D ((fill 64 S k).map bval) 25 ∧ Ext w wr) (fun _ iv _ => 64 - (intOf iv).toNat)
   case atStart => exact ⟨0, by omega, rfl, by rw [HCZ.out], H3.out, H4.out, by rw [fill_start]; exact HS.out, HE.out⟩
   case round =>
    clear H3 H4 HS HE
    obtain ⟨k, hk, rfl, rfl, hb3, hb4, hb5, hbel⟩ := hrel
    have k0 : (0 : Int) ≤ (k : Int) := Int.natCast_nonneg _
    have hcb := HCR.out k hk
    by_cases hlk : k < 64
    ·have k1 : (k : Int) < 64 := by omega
     have hln : ((fill 64 S k).map bval).length = 64 := by rw [List.length_map, fill_length HFL.out (by omega)]
     have e5 := hb5.cell k
     rw [List.getElem?_eq_getElem (by omega)] at e5
     have f5 := hb5.free k
     generalize ((fill 64 S k).map bval)[k]'(by omega) = c5 at e5
     have htl := HTL.out
     have e4 := hb4.cell k
     rw [zav (by omega)] at e4
     have q1 := HTR.out k
     have hcs := HCS.out k hlk
     generalize t.getD k 0 = u at *
     have HND := jh hcs.2
     have HST := jh (zfh (k := k) HFL.out hlk hcs.1)
     generalize cM t k = c at *
     have hm := and_i64_255 (c + u) (by omega) (by omega)
     have H3 := jh hb3
     have H4 := jh hb4
     have HS := jh hb5
     have HE := jh hbel
     clear hb3 hb4 hb5 hbel hln hcs htl
     go_wp2_with fail
     go_roundw
     case rel =>
      refine ⟨k + 1, by omega, by go_num, by rw [HND.out], H3.out.far (by simp <;> omega) _, H4.out.far (by simp <;> omega) _, ?_, Below.setCell HE.out (by simp <;> omega) _⟩
      rw [← HST.out]
      exact HS.out.set k _
     case measure => simp [intOf]; omega
    ·have hk64 : k = 64 := by omega
     subst hk64
     rw [fill_full HFL.out] at hb5
     have H3 := jh hb3
     have HS := jh hb5
     have HE := jh hbel
     clear hb3 hb4 hb5 hbel hcb
     go_wp2_with fail
     refine (HRD.out _ _ _ HS.out (HG.out.ext HE.out)).mono ?_
     rintro e w5 ⟨rfl, hb5⟩
     have H3 := jh (zaa H3.out hb5)
     have HE := jh (HE.out.trans hb5)
     have hi2 : Hid ((Tryz.prog.info? 23).map (·.size) = some ((nq ((leN l * leN m : Nat) : Int)).map bval).length) := jh (zaf (zcc _))
     have hl2 : Hid (((nq ((leN l * leN m : Nat) : Int)).map bval).length = (ints .u8 (List.replicate 32 0)).length) := jh (by rw [List.length_map, zcc]; rfl)
     clear hb5 HRD
     go_wp2_with (refine zab rfl _ _ _ rfl (A + 1 + 1) _ rfl rfl _ _ H3.out hl2.out hi2.out (zaj _) ?_; intro w7 hb7 hg7)
     exact bodyPost_ret (v := .agg ((nq ((leN l * leN m : Nat) : Int)).map bval).toArray) (zay (by rfl) _ (A + 1 + 1) _ _ _ (by rfl) hb7 Tryz.underlying23 rfl hi2.out) rfl ⟨by rw [HRS.out], zad HE.out hg7 (by omega)⟩
end Go.Proofs.YthafgicndklgfaaGreatDoor
