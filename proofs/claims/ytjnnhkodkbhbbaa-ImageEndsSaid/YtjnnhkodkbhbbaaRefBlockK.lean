/- What the walks of RefBlock need and no function of the document. Each theorem names its own conditions. -/
import Derived.Test.YtjnnhkodkbhbbaaRefQuarterK
import Derived.Test.YtjnnhkodkbhbbaaRefLittleK
import Derived.Test.YtjnnhkodkbhbbaaSigKit
import Derived.Test.YtjnnhkodkbhbbaaNumKit
import Derived.Test.YtjnnhkodkbhbbaaArrKit
namespace Go.Proofs.Ytjnnhkodkbhbbaa
open Go.RowKit
set_option linter.unusedVariables false
set_option linter.unusedSimpArgs false

/-- The state, as far as it is laid: the key's words; the counter and the nonce's. -/
def chaK (key : List UInt8) : Nat → List W32
  | 0 => [0x61707865#32, 0x3320646e#32, 0x79622d32#32, 0x6b206574#32, 0, 0, 0, 0, 0, 0, 0, 0, 0, 0, 0, 0]
  | k + 1 => (chaK key k).set (4 + k) (leW key (4 * k))
def chaN (key : List UInt8) (ctr : W32) (nonce : List UInt8) : Nat → List W32
  | 0 => (chaK key 8).set 12 ctr
  | k + 1 => (chaN key ctr nonce k).set (13 + k) (leW nonce (4 * k))
theorem chaK_length (key : List UInt8) : ∀ k, (chaK key k).length = 16
  | 0 => rfl
  | k + 1 => by rw [chaK, List.length_set, chaK_length key k]
theorem chaN_length (key : List UInt8) (ctr : W32) (nonce : List UInt8) : ∀ k, (chaN key ctr nonce k).length = 16
  | 0 => by rw [chaN, List.length_set, chaK_length]
  | k + 1 => by rw [chaN, List.length_set, chaN_length key ctr nonce k]
theorem chaN_full (key : List UInt8) (ctr : W32) (nonce : List UInt8) : chaN key ctr nonce 3 = chaInit key ctr nonce := rfl
theorem and_mask32 (a : Int) (h1 : -9223372036854775808 ≤ a) (h2 : a ≤ 9223372036854775807) : bits .and .i64 a 4294967295 = a % 4294967296 := by
  have h : (BitVec.ofInt 64 4294967295).toNat = 2 ^ 32 - 1 := by decide
  have key : (BitVec.ofInt 64 a &&& BitVec.ofInt 64 4294967295).toNat = (a % ((2 ^ 64 : Nat) : Int)).toNat % 2 ^ 32 := by
    rw [BitVec.toNat_and, BitVec.toNat_ofInt, h, Nat.and_two_pow_sub_one_eq_mod]
  show IntKind.i64.wrap ((BitVec.ofInt 64 a &&& BitVec.ofInt 64 4294967295).toNat : Nat) = _
  rw [key, IntKind.wrap_i64]
  omega
theorem ctr_word (a : Int) : IntKind.u32.wrap (a % 4294967296) = wi (BitVec.ofInt 32 a) := by
  unfold wi
  rw [BitVec.toNat_ofInt, IntKind.wrap_u32]
  omega
theorem ws_set0 (l : List W32) (i : Nat) (v : W32) (z : Int) (h : z = wi v) : (ints .u32 (ws l)).set i (.int .u32 z) = ints .u32 (ws (l.set i v)) := by
  subst h
  rw [ints_set, ws_set]
theorem set_word {w : World} {S : Nat} {l : List W32} {t : TypeId} (h : Blk w S (ints .u32 (ws l)) t) (i : Nat) (z : Int) (v : W32) (hz : z = wi v) : Blk (w.setCell ⟨S, i, none⟩ (.int .u32 z)) S (ints .u32 (ws (l.set i v))) t := by
  subst hz
  rw [← ws_set]
  exact h.seti i _
theorem word_cell {w : World} {S i : Nat} {l : List W32} {t : TypeId} (h : Blk w S (ints .u32 (ws l)) t) (hi : i < l.length) : w.cell? ⟨S, i, none⟩ = some (.int .u32 (wi (l.getD i 0#32))) := by
  rw [h.cell, ints_get (by rw [ws_length]; exact hi), ws_getD]
theorem cut_arrL {t : TypeId} {n : Nat} {e : TypeId} (ht : Try.prog.underlying t = some (.array n e)) (h : ∀ w, (sizeOf e).run Try.prog w = .ok 1 w) (w : World) (A p : Nat) (hp : p < n) :
    (Instr.sliceAt t (.pointer (some ⟨A, 0, none⟩)) (some (.int .i64 (p : Int))) none none).run Try.prog w = .ok (.slice (some ⟨A, p, none⟩) (n - p) (n - p)) w := by
  have e1 : Try.prog.arrayLen t = n := by unfold Program.arrayLen; rw [ht]
  have e2 : Try.prog.elem t = e := by unfold Program.elem; rw [ht]
  rw [run_sliceAt_array_l w t ⟨A, 0, none⟩ (by rw [e1, e2]; exact ht) .i64 (p : Int) (by omega) (by rw [e1]; omega), e2, h, e1]
  simp [slicedAt, Addr.add, show ¬ n = p by omega]
  exact fun h => h.symm
theorem and_u32_255 (n : Nat) : bits .and .u32 (n : Int) 255 = ((n % 256 : Nat) : Int) := by
  have h : (BitVec.ofInt 32 255).toNat = 2 ^ 8 - 1 := by decide
  have key : (BitVec.ofInt 32 (n : Int) &&& BitVec.ofInt 32 255).toNat = ((n : Int) % ((2 ^ 32 : Nat) : Int)).toNat % 2 ^ 8 := by
    rw [BitVec.toNat_and, BitVec.toNat_ofInt, h, Nat.and_two_pow_sub_one_eq_mod]
  show IntKind.u32.wrap ((BitVec.ofInt 32 (n : Int) &&& BitVec.ofInt 32 255).toNat : Nat) = _
  rw [key, IntKind.wrap_u32]
  omega
theorem word_byte (va : W32) (r : Nat) (y : UInt8) (h : y = UInt8.ofNat (va.toNat / 2 ^ (8 * r) % 256)) : bits .and .u32 (wi va / 2 ^ (8 * r)) 255 % 256 = (y.toNat : Int) := by
  have e : wi va / 2 ^ (8 * r) = ((va.toNat / 2 ^ (8 * r) : Nat) : Int) := by
    unfold wi
    rw [Int.natCast_ediv, Int.natCast_pow]
    rfl
  rw [e, and_u32_255, h]
  have : (UInt8.ofNat (va.toNat / 2 ^ (8 * r) % 256)).toNat = va.toNat / 2 ^ (8 * r) % 256 := UInt8.toNat_ofNat_of_lt' (by show _ < 256; omega)
  rw [this]
  omega
theorem leB_getD (h : List W32) {n i : Nat} (hi : i < n) : (leB h n).getD i 0 = UInt8.ofNat ((h.getD (i / 4) 0#32).toNat / 2 ^ (8 * (i % 4)) % 256) := by
  unfold leB
  rw [List.getD_eq_getElem?_getD, List.getElem?_map, List.getElem?_range hi]
  rfl
theorem far_ext {w w2 : World} {S i : Nat} {v : Value} (h : Ext w w2) (hS : w.heap.size ≤ S) : Ext w (w2.setCell ⟨S, i, none⟩ v) := Below.setCell h hS _

end Go.Proofs.Ytjnnhkodkbhbbaa
