/- Bytes and the numbers that they are, digits to any base, small lemmas on lists and bits. No program. Each theorem names its own conditions. -/
import Derived.Test.YtjnnhkodkbhbbaaArrKit
import Derived.Test.YtjnnhkodkbhbbaaDetSteps
import Derived.Laws.ResultCell
namespace Go.Proofs.Ytjnnhkodkbhbbaa
open Go.RowKit
set_option linter.unusedVariables false
set_option linter.unusedSimpArgs false

theorem getD_set_same {zs : List Int} {i : Nat} {z : Int} (h : i < zs.length) : (zs.set i z).getD i 0 = z := by simp [List.getD, h]
theorem getD_set_far {zs : List Int} {i j : Nat} {z : Int} (h : i ≠ j) : (zs.set i z).getD j 0 = zs.getD j 0 := by simp [List.getD, List.getElem?_set_ne h]
theorem all_of_getD {zs : List Int} {n : Nat} {P : Int → Prop} (hl : zs.length = n) (h : ∀ i, i < n → P (zs.getD i 0)) : ∀ z ∈ zs, P z := by
  intro z hz
  obtain ⟨i, hi, rfl⟩ := List.getElem_of_mem hz
  have := h i (by omega)
  rwa [show zs.getD i 0 = zs[i] from by simp [List.getD, hi]] at this
theorem getD_of_all {zs : List Int} {P : Int → Prop} (h : ∀ z ∈ zs, P z) {i : Nat} (hi : i < zs.length) : P (zs.getD i 0) := by
  rw [show zs.getD i 0 = zs[i] from by simp [List.getD, hi]]
  exact h _ (List.getElem_mem _)
/-- The number that bytes are, the lowest first. -/
def leN : List UInt8 → Nat
  | [] => 0
  | b :: r => b.toNat + 256 * leN r
theorem bytes32 (l : List UInt8) (h : l.length = 32) : l = [l.getD 0 0, l.getD 1 0, l.getD 2 0, l.getD 3 0, l.getD 4 0, l.getD 5 0, l.getD 6 0, l.getD 7 0, l.getD 8 0, l.getD 9 0, l.getD 10 0, l.getD 11 0, l.getD 12 0, l.getD 13 0, l.getD 14 0, l.getD 15 0,
    l.getD 16 0, l.getD 17 0, l.getD 18 0, l.getD 19 0, l.getD 20 0, l.getD 21 0, l.getD 22 0, l.getD 23 0, l.getD 24 0, l.getD 25 0, l.getD 26 0, l.getD 27 0, l.getD 28 0, l.getD 29 0, l.getD 30 0, l.getD 31 0] := by
  match l, h with
  | [_, _, _, _, _, _, _, _, _, _, _, _, _, _, _, _, _, _, _, _, _, _, _, _, _, _, _, _, _, _, _, _], _ => rfl
theorem bval_get {l : List UInt8} {i : Nat} (h : i < l.length) : (l.map bval)[i]? = some (.int .u8 ((l.getD i 0).toNat : Int)) := by
  simp [bval, List.getD, h]
/-- A number's bytes, the lowest first. -/
def bytesN : Nat → Nat → List UInt8
  | 0, _ => []
  | k + 1, n => UInt8.ofNat (n % 256) :: bytesN k (n / 256)
theorem bytesN_leN : ∀ (l : List UInt8), bytesN l.length (leN l) = l
  | [] => rfl
  | b :: r => by
    have hb := b.toNat_lt
    have e1 : (b.toNat + 256 * leN r) % 256 = b.toNat := by omega
    have e2 : (b.toNat + 256 * leN r) / 256 = leN r := by omega
    simp only [leN, List.length_cons, bytesN, e1, e2, bytesN_leN r]
    congr 1
    simp
theorem bytesN_length : ∀ (k n : Nat), (bytesN k n).length = k
  | 0, _ => rfl
  | k + 1, n => by simp [bytesN, bytesN_length k]
theorem leN_bytesN : ∀ (k n : Nat), leN (bytesN k n) = n % 256 ^ k
  | 0, n => by simp [bytesN, leN, Nat.mod_one]
  | k + 1, n => by
    have := leN_bytesN k (n / 256)
    have e1 : (UInt8.ofNat (n % 256)).toNat = n % 256 := by
      rw [UInt8.toNat_ofNat']
      omega
    simp only [bytesN, leN, this, e1, Nat.pow_succ]
    rw [Nat.mul_comm (256 ^ k) 256, Nat.mod_mul]
theorem bytesN_append : ∀ (m n x : Nat), bytesN (m + n) x = bytesN m x ++ bytesN n (x / 256 ^ m)
  | 0, n, x => by simp [bytesN]
  | m + 1, n, x => by
    rw [Nat.add_right_comm]
    simp only [bytesN, List.cons_append]
    rw [bytesN_append m n (x / 256), Nat.div_div_eq_div_mul, Nat.pow_succ, Nat.mul_comm 256]
theorem bytesN_mod : ∀ (m x : Nat), bytesN m (x % 256 ^ m) = bytesN m x
  | 0, _ => rfl
  | m + 1, x => by
    have e1 : x % 256 ^ (m + 1) % 256 = x % 256 := Nat.mod_mod_of_dvd _ ⟨256 ^ m, by rw [Nat.pow_succ, Nat.mul_comm]⟩
    have e2 : x % 256 ^ (m + 1) / 256 = x / 256 % 256 ^ m := by rw [Nat.pow_succ, Nat.mul_comm, Nat.mod_mul_right_div_self]
    simp only [bytesN, e1, e2, bytesN_mod m]
theorem leN_lt : ∀ (l : List UInt8), leN l < 256 ^ l.length
  | [] => by simp [leN]
  | b :: r => by
    have hb := b.toNat_lt
    have := leN_lt r
    simp only [leN, List.length_cons, Nat.pow_succ]
    omega
theorem andU1 (n : Nat) : bits .and .u8 (n : Int) 1 = ((n % 2 : Nat) : Int) := by
  have h : (BitVec.ofInt 8 1).toNat = 2 ^ 1 - 1 := by decide
  have key : (BitVec.ofInt 8 (n : Int) &&& BitVec.ofInt 8 1).toNat = ((n : Int) % ((2 ^ 8 : Nat) : Int)).toNat % 2 ^ 1 := by
    rw [BitVec.toNat_and, BitVec.toNat_ofInt, h, Nat.and_two_pow_sub_one_eq_mod]
  show IntKind.u8.wrap ((BitVec.ofInt 8 (n : Int) &&& BitVec.ofInt 8 1).toNat : Nat) = _
  rw [key, IntKind.wrap_u8]
  omega
/-- A number's bit stands in its byte. -/
theorem leN_bit : ∀ (l : List UInt8) (i : Nat), i < 8 * l.length → leN l / 2 ^ i % 2 = (l.getD (i / 8) 0).toNat / 2 ^ (i % 8) % 2
  | [], i, h => by simp at h
  | b :: r, i, h => by
    rcases Nat.lt_or_ge i 8 with h8 | h8
    · have e1 : i / 8 = 0 := by omega
      have e2 : i % 8 = i := by omega
      rw [e1, e2]
      simp only [leN, List.getD_cons_zero]
      generalize leN r = R
      generalize b.toNat = c
      rcases (by omega : i = 0 ∨ i = 1 ∨ i = 2 ∨ i = 3 ∨ i = 4 ∨ i = 5 ∨ i = 6 ∨ i = 7) with rfl | rfl | rfl | rfl | rfl | rfl | rfl | rfl <;> simp only [Nat.reducePow] <;> omega
    · obtain ⟨j, rfl⟩ : ∃ j, i = 8 + j := ⟨i - 8, by omega⟩
      have hb := b.toNat_lt
      have e1 : (8 + j) / 8 = j / 8 + 1 := by omega
      have e2 : (8 + j) % 8 = j % 8 := by omega
      rw [e1, e2, List.getD_cons_succ, ← leN_bit r j (by rw [List.length_cons] at h; omega), Nat.pow_add, ← Nat.div_div_eq_div_mul]
      congr 2
      simp only [leN]
      omega
theorem w64 {a : Nat} (ha : a < 18446744073709551616) : IntKind.u64.wrap (a : Int) = (a : Int) := by rw [IntKind.wrap_u64]; omega
theorem w64m (a : Nat) : IntKind.u64.wrap (a : Int) = ((a % 18446744073709551616 : Nat) : Int) := by rw [IntKind.wrap_u64]; omega
theorem natDiv (a b : Nat) : (a : Int) / (b : Int) = ((a / b : Nat) : Int) := by simp
theorem natMul (a b : Nat) : (a : Int) * (b : Int) = ((a * b : Nat) : Int) := (Int.natCast_mul a b).symm
theorem natAdd (a b : Nat) : (a : Int) + (b : Int) = ((a + b : Nat) : Int) := (Int.natCast_add a b).symm
theorem or64 (a b : Nat) (ha : a < 18446744073709551616) (hb : b < 18446744073709551616) : bits .or .u64 (a : Int) (b : Int) = ((a ||| b : Nat) : Int) := by
  have e1 : (BitVec.ofInt 64 (a : Int)).toNat = a := by rw [BitVec.toNat_ofInt]; omega
  have e2 : (BitVec.ofInt 64 (b : Int)).toNat = b := by rw [BitVec.toNat_ofInt]; omega
  show IntKind.u64.wrap ((BitVec.ofInt 64 (a : Int) ||| BitVec.ofInt 64 (b : Int)).toNat : Nat) = _
  have e3 := (BitVec.ofInt 64 (a : Int) ||| BitVec.ofInt 64 (b : Int)).isLt
  rw [BitVec.toNat_or, e1, e2] at e3 ⊢
  exact w64 e3
/-- High bits and low bits laid together are their sum. -/
theorem or_sum (k x y : Nat) (hx : x < 2 ^ k) : 2 ^ k * y ||| x = 2 ^ k * y + x := (Nat.two_pow_add_eq_or_of_lt hx y).symm
theorem bl_range {w w' : World} {c : Nat} {cs : List Value} {t : TypeId} (h : Blk w c cs t) (hb : Below w.heap.size w w') : w'.rangeAt c 0 cs := (h.same (hb.block _ h.lt)).range
theorem bl_there {w w' : World} {c : Nat} {cs : List Value} {t : TypeId} (h : Blk w c cs t) (hb : Below w.heap.size w w') : w'.there c 0 cs.length := (h.same (hb.block _ h.lt)).there _ (Nat.le_refl _)
theorem bl_blk {w w' : World} {c : Nat} {cs : List Value} {t : TypeId} (h : Blk w c cs t) (hb : Below w.heap.size w w') : Blk w' c cs t := h.same (hb.block _ h.lt)
/-- A small number's bytes. -/
def smL (n : UInt8) : List UInt8 := n :: List.replicate 31 0
theorem smL_length (n : UInt8) : (smL n).length = 32 := by simp [smL]
theorem leN_zeros : ∀ k, leN (List.replicate k 0) = 0
  | 0 => rfl
  | k + 1 => by rw [List.replicate_succ, leN, leN_zeros k]; rfl
theorem leN_smL (n : UInt8) : leN (smL n) = n.toNat := by
  unfold smL
  rw [leN, leN_zeros]
  omega
def zer : List UInt8 := List.replicate 32 0
theorem zer_length : zer.length = 32 := by simp [zer]
theorem leN_zer : leN zer = 0 := leN_zeros 32
def zero32 : List Value := ints .u8 (List.replicate 32 0)
section
variable {P : Program}
theorem result_row_tmp {w : World} {fn : Func} {p u : Tmp} {ty : TypeId} (h : fn.results = #[.cell p ty, .tmp u]) (tmps : Array Value) (c : Nat) (tb : TypeId) (cs : List Value) (d : TypeDesc)
    (hp : tmps.getD p undef = .pointer (some ⟨c, 0, none⟩)) (hb : Blk w c cs tb) (hu : P.underlying ty = some d) (hd : d.isRow = true) (hi : (P.info? ty).map (·.size) = some cs.length) :
    (results fn tmps).run P w = .ok (.tuple #[.agg cs.toArray, tmps.getD u undef]) w := by
  rw [results_cell_tmp h, hp]
  simp only [asAddr, Sem.run_pure, Result.andThen_ok, run_loadVar_mid w c 0 ty cs d hb.range hu hd hi]
end

end Go.Proofs.Ytjnnhkodkbhbbaa
