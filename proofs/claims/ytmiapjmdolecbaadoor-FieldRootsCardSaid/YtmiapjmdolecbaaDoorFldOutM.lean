/- How limbs become the 32 bytes of a number below 2^255 - 19: the arithmetic. No program. Each theorem names its own conditions. -/
import Derived.Test.YtmiapjmdolecbaaDoorFldIn
import Derived.Test.YtmiapjmdolecbaaDoorRefNum
namespace Go.Proofs.YtmiapjmdolecbaaDoor
open Go.RowKit
set_option linter.unusedVariables false

theorem out_steps {x0 x1 x2 x3 x4 r1 r2 r3 r4 r5 c1 c2 c3 c4 c5 y0 y1 y2 y3 y4 : Nat} (b0 : x0 < 2251799813947392) (b1 : x1 < 2251799813947392) (b2 : x2 < 2251799813947392) (b3 : x3 < 2251799813947392) (b4 : x4 < 2251799813947392)
    (h1 : r1 = (19 + x0) / 2251799813685248) (h2 : r2 = (r1 + x1) / 2251799813685248) (h3 : r3 = (r2 + x2) / 2251799813685248) (h4 : r4 = (r3 + x3) / 2251799813685248) (h5 : r5 = (r4 + x4) / 2251799813685248)
    (g1 : c1 = (19 * r5 + x0) / 2251799813685248) (g2 : c2 = (c1 + x1) / 2251799813685248) (g3 : c3 = (c2 + x2) / 2251799813685248) (g4 : c4 = (c3 + x3) / 2251799813685248) (g5 : c5 = (c4 + x4) / 2251799813685248)
    (f0 : y0 = (19 * r5 + x0) % 2251799813685248) (f1 : y1 = (c1 + x1) % 2251799813685248) (f2 : y2 = (c2 + x2) % 2251799813685248) (f3 : y3 = (c3 + x3) % 2251799813685248) (f4 : y4 = (c4 + x4) % 2251799813685248) :
    (L5.mk y0 y1 y2 y3 y4).val = (L5.mk x0 x1 x2 x3 x4).val % 57896044618658097711785492504343953926634992332820282019728792003956564819949 := by
  have e1 : (L5.mk y0 y1 y2 y3 y4).val + 57896044618658097711785492504343953926634992332820282019728792003956564819968 * c5 = 19 * r5 + (L5.mk x0 x1 x2 x3 x4).val := by
    simp only [L5.val]
    omega
  have e2 : (L5.mk y0 y1 y2 y3 y4).val < 57896044618658097711785492504343953926634992332820282019728792003956564819968 := by
    simp only [L5.val]
    omega
  have e3 : 57896044618658097711785492504343953926634992332820282019728792003956564819968 * r5 ≤ 19 + (L5.mk x0 x1 x2 x3 x4).val ∧ 19 + (L5.mk x0 x1 x2 x3 x4).val < 57896044618658097711785492504343953926634992332820282019728792003956564819968 * r5 + 57896044618658097711785492504343953926634992332820282019728792003956564819968 := by
    simp only [L5.val]
    omega
  have e4 : (L5.mk x0 x1 x2 x3 x4).val < 115792089237316195423570985008687907853269984665640564039457584007913129639898 := by
    simp only [L5.val]
    omega
  clear h1 h2 h3 h4 h5 g1 g2 g3 g4 g5 f0 f1 f2 f3 f4 b0 b1 b2 b3 b4
  generalize (L5.mk y0 y1 y2 y3 y4).val = Y at *
  generalize (L5.mk x0 x1 x2 x3 x4).val = X at *
  have e5 : r5 = 0 ∨ r5 = 1 := by omega
  rcases e5 with rfl | rfl <;> omega

theorem bytesN_append : ∀ (m n x : Nat), bytesN (m + n) x = bytesN m x ++ bytesN n (x / 256 ^ m)
  | 0, n, x => by simp [bytesN]
  | m + 1, n, x => by
    rw [Nat.add_right_comm]
    simp only [bytesN, List.cons_append]
    rw [bytesN_append m n (x / 256), Nat.div_div_eq_div_mul, Nat.pow_succ, Nat.mul_comm 256]
theorem bytesN_mod : ∀ (m x : Nat), bytesN m (x % 256 ^ m) = bytesN m x
  | 0, _ => rfl
  | m + 1, x => by
    have e1 : x % 256 ^ (m + 1) % 256 = x % 256 := Nat.mod_mod_of_dvd _ ⟨256 ^ m, by rw [Nat.pow_succ, Nat.mul_comm]⟩
    have e2 : x % 256 ^ (m + 1) / 256 = x / 256 % 256 ^ m := by rw [Nat.pow_succ, Nat.mul_comm, Nat.mod_mul_right_div_self]
    simp only [bytesN, e1, e2, bytesN_mod m]
theorem b8_bytes (n : Nat) : b8 n = (bytesN 8 n).map bval := by
  have h : ∀ m : Nat, bval (UInt8.ofNat (m % 256)) = .int .u8 ((m % 256 : Nat) : Int) := fun m => by
    unfold bval
    rw [UInt8.toNat_ofNat']
    congr 2
    omega
  have q : ∀ (m : Nat) (z : Int), ((m % 256 : Nat) : Int) = z → bval (UInt8.ofNat (m % 256)) = .int .u8 z := fun m z e => by rw [h, e]
  simp only [b8, bytesN, List.map_cons, List.map_nil]
  rw [q n _ rfl, q (n / 256) ((n : Int) / 256 % 256) (by omega), q (n / 256 / 256) ((n : Int) / 65536 % 256) (by omega), q (n / 256 / 256 / 256) ((n : Int) / 16777216 % 256) (by omega), q (n / 256 / 256 / 256 / 256) ((n : Int) / 4294967296 % 256) (by omega),
    q (n / 256 / 256 / 256 / 256 / 256) ((n : Int) / 1099511627776 % 256) (by omega), q (n / 256 / 256 / 256 / 256 / 256 / 256) ((n : Int) / 281474976710656 % 256) (by omega), q (n / 256 / 256 / 256 / 256 / 256 / 256 / 256) ((n : Int) / 72057594037927936 % 256) (by omega)]
  rfl
theorem bytes_words (y v0 v1 v2 v3 : Nat) (h0 : v0 = y % 18446744073709551616) (h1 : v1 = y / 18446744073709551616 % 18446744073709551616) (h2 : v2 = y / 340282366920938463463374607431768211456 % 18446744073709551616) (h3 : v3 = y / 6277101735386680763835789423207666416102355444464034512896 % 18446744073709551616) :
    b8 v0 ++ b8 v1 ++ b8 v2 ++ b8 v3 = (bytesN 32 y).map bval := by
  have k : (256 : Nat) ^ 8 = 18446744073709551616 := by decide
  have s0 := bytesN_append 8 24 y
  have s1 := bytesN_append 8 16 (y / 256 ^ 8)
  have s2 := bytesN_append 8 8 (y / 256 ^ 8 / 256 ^ 8)
  rw [k] at s0 s1 s2
  have m : ∀ z, bytesN 8 (z % 18446744073709551616) = bytesN 8 z := fun z => by rw [← k]; exact bytesN_mod 8 z
  rw [b8_bytes, b8_bytes, b8_bytes, b8_bytes, h0, h1, h2, h3, m, m, m, m]
  have d1 : y / 18446744073709551616 / 18446744073709551616 = y / 340282366920938463463374607431768211456 := by omega
  have d2 : y / 340282366920938463463374607431768211456 / 18446744073709551616 = y / 6277101735386680763835789423207666416102355444464034512896 := by omega
  rw [d1] at s1 s2
  rw [d2] at s2
  have e : bytesN 32 y = bytesN 8 y ++ (bytesN 8 (y / 18446744073709551616) ++ (bytesN 8 (y / 340282366920938463463374607431768211456) ++ bytesN 8 (y / 6277101735386680763835789423207666416102355444464034512896))) := by
    rw [← s2, ← s1, ← s0]
  rw [e]
  simp
/-- The four words of five limbs. -/
theorem words_of {y0 y1 y2 y3 y4 : Nat} (h0 : y0 < 2251799813685248) (h1 : y1 < 2251799813685248) (h2 : y2 < 2251799813685248) (h3 : y3 < 2251799813685248) (h4 : y4 < 2251799813685248) :
    b8 (2251799813685248 * (y1 % 8192) + y0) ++ b8 (274877906944 * (y2 % 67108864) + y1 / 8192) ++ b8 (33554432 * (y3 % 549755813888) + y2 / 67108864) ++ b8 (4096 * (y4 % 4503599627370496) + y3 / 549755813888) = (bytesN 32 (L5.mk y0 y1 y2 y3 y4).val).map bval := by
  apply bytes_words
  · simp only [L5.val]; omega
  · simp only [L5.val]; omega
  · simp only [L5.val]; omega
  · simp only [L5.val]; omega
/-- Two parts laid together. -/
theorem lay_or (a b r s : Nat) (i : Nat) (hr : r = 2 ^ i) (ha : a < r) (hb : b < 18446744073709551616) (hs : r * s = 18446744073709551616) :
    ∃ q : Nat, IntKind.u64.wrap ((b : Int) * (r : Int)) = (q : Int) ∧ bits .or .u64 (a : Int) (q : Int) = ((r * (b % s) + a : Nat) : Int) := by
  have e1 : IntKind.u64.wrap ((b : Int) * (r : Int)) = ((r * (b % s) : Nat) : Int) := by
    rw [natMul, w64m, ← hs, Nat.mul_comm b r, Nat.mul_mod_mul_left]
  have hb2 : b % s < s := Nat.mod_lt _ (by rcases Nat.eq_zero_or_pos s with h | h; (subst h; simp at hs); exact h)
  have hb3 : r * (b % s) + r ≤ 18446744073709551616 := by
    rw [← hs, ← Nat.mul_succ]
    exact Nat.mul_le_mul_left _ hb2
  refine ⟨_, e1, ?_⟩
  rw [or64 _ _ (by omega) (by omega), Nat.or_comm]
  rw [hr] at ha ⊢
  rw [or_sum i _ _ ha]

/-- The chain of the first loop, and of the second one. -/
def rF (xs : List Nat) : Nat → Nat
  | 0 => 19
  | k + 1 => (rF xs k + xs.getD k 0) / 2251799813685248
def cF (xs : List Nat) (c : Nat) : Nat → Nat
  | 0 => c
  | k + 1 => (cF xs c k + xs.getD k 0) / 2251799813685248
def nats (xs : List Nat) : List Value := xs.map fun n : Nat => .int .u64 (n : Int)
theorem nats_get {xs : List Nat} {i : Nat} (h : i < xs.length) : (nats xs)[i]? = some (.int .u64 ((xs.getD i 0 : Nat) : Int)) := by simp [nats, List.getD, h]
theorem nats_set (xs : List Nat) (i n : Nat) : (nats xs).set i (.int .u64 (n : Int)) = nats (xs.set i n) := by
  unfold nats
  rw [List.map_set]
theorem nats_length (xs : List Nat) : (nats xs).length = xs.length := by simp [nats]
theorem rF_lt (xs : List Nat) (h : ∀ i, xs.getD i 0 < 2251799813947392) : ∀ k, rF xs k ≤ 19
  | 0 => Nat.le_refl _
  | k + 1 => by
    have := rF_lt xs h k
    have := h k
    simp only [rF]
    omega
theorem cF_lt (xs : List Nat) (c : Nat) (hc : c ≤ 361) (h : ∀ i, xs.getD i 0 < 2251799813947392) : ∀ k, cF xs c k ≤ 361
  | 0 => hc
  | k + 1 => by
    have := cF_lt xs c hc h k
    have := h k
    simp only [cF]
    omega
/-- What holds of the limbs when k of them are handed on. -/
structure OutL (xs : List Nat) (c : Nat) (ys : List Nat) (k : Nat) : Prop where
  len : ys.length = 5
  low : ∀ i, i < k → ys.getD i 0 = (cF xs c i + xs.getD i 0) % 2251799813685248
  high : ∀ i, k ≤ i → ys.getD i 0 = xs.getD i 0
theorem getD_setN {zs : List Nat} {i : Nat} {z : Nat} (h : i < zs.length) : (zs.set i z).getD i 0 = z := by simp [List.getD, h]
theorem getD_setN_far {zs : List Nat} {i j : Nat} {z : Nat} (h : i ≠ j) : (zs.set i z).getD j 0 = zs.getD j 0 := by simp [List.getD, List.getElem?_set_ne h]
theorem OutL.step {xs ys : List Nat} {c k : Nat} (h : OutL xs c ys k) (hk : k < 5) : OutL xs c (ys.set k ((cF xs c k + xs.getD k 0) % 2251799813685248)) (k + 1) := by
  obtain ⟨h1, h2, h3⟩ := h
  refine ⟨by simp [h1], fun i hi => ?_, fun i hi => ?_⟩
  · by_cases e : i = k
    · subst e
      rw [getD_setN (by omega)]
    · rw [getD_setN_far (by omega)]
      exact h2 i (by omega)
  · rw [getD_setN_far (by omega)]
    exact h3 i (by omega)
theorem list5 (ys : List Nat) (h : ys.length = 5) : ys = [ys.getD 0 0, ys.getD 1 0, ys.getD 2 0, ys.getD 3 0, ys.getD 4 0] := by
  match ys, h with
  | [_, _, _, _, _], _ => rfl
theorem getD_all5 {x : L5} {B : Nat} (h : x.lt B) (hB : 0 < B) : ∀ i, [x.a, x.b, x.c, x.d, x.e].getD i 0 < B := by
  intro i
  obtain ⟨h0, h1, h2, h3, h4⟩ := h
  match i with
  | 0 => exact h0
  | 1 => exact h1
  | 2 => exact h2
  | 3 => exact h3
  | 4 => exact h4
  | n + 5 => simpa [List.getD] using hB
/-- All that the loops come to. -/
theorem out_done {x : L5} (hx : x.lt 2251799813947392) {ys : List Nat} (h : OutL [x.a, x.b, x.c, x.d, x.e] (19 * rF [x.a, x.b, x.c, x.d, x.e] 5) ys 5) :
    ∃ y : L5, ys = [y.a, y.b, y.c, y.d, y.e] ∧ y.lt 2251799813685248 ∧ y.val = x.val % 57896044618658097711785492504343953926634992332820282019728792003956564819949 := by
  obtain ⟨x0, x1, x2, x3, x4⟩ := x
  obtain ⟨b0, b1, b2, b3, b4⟩ := hx
  have e := list5 ys h.len
  have f0 := h.low 0 (by omega)
  have f1 := h.low 1 (by omega)
  have f2 := h.low 2 (by omega)
  have f3 := h.low 3 (by omega)
  have f4 := h.low 4 (by omega)
  refine ⟨⟨ys.getD 0 0, ys.getD 1 0, ys.getD 2 0, ys.getD 3 0, ys.getD 4 0⟩, e, ?_, ?_⟩
  · simp only [L5.lt]
    omega
  · exact out_steps b0 b1 b2 b3 b4 rfl rfl rfl rfl rfl rfl rfl rfl rfl rfl f0 f1 f2 f3 f4

end Go.Proofs.YtmiapjmdolecbaaDoor
