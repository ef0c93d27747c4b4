/- The hash by blocks: a block of its own, what stands behind whole blocks makes no difference, the last blocks, the words laid out. No program. Each theorem names its own conditions. -/
import Derived.Test.YtmadoehajapfhaaDoorShaMix
namespace Go.Proofs.YtmadoehajapfhaaDoor
open Go.RowKit
set_option linter.unusedVariables false
set_option linter.unusedSimpArgs false

theorem beW_cut {m : List UInt8} {s k : Nat} (h : k + 4 ≤ 64) : beW ((m.drop s).take 64) k = beW m (s + k) := by
  have g : ∀ j, j < 64 → ((m.drop s).take 64).getD j 0 = m.getD (s + j) 0 := fun j hj => by
    simp only [List.getD, List.getElem?_take, if_pos hj, List.getElem?_drop]
  unfold beW
  rw [g k (by omega), g (k + 1) (by omega), g (k + 2) (by omega), g (k + 3) (by omega)]
  rfl
theorem wTop_cut (m : List UInt8) (s : Nat) : ∀ k, k ≤ 16 → wTop ((m.drop s).take 64) 0 k = wTop m s k
  | 0, _ => rfl
  | k + 1, h => by
    rw [wTop, wTop, wTop_cut m s k (by omega), Nat.zero_add, beW_cut (by omega)]
theorem wSch_cut (m : List UInt8) (s : Nat) : ∀ n, wSch ((m.drop s).take 64) 0 n = wSch m s n
  | 0 => wTop_cut m s 16 (Nat.le_refl _)
  | n + 1 => by rw [wSch, wSch, wSch_cut m s n]
theorem hRun_mix (m : List UInt8) (n : Nat) : hRun m (n + 1) = mixF (hRun m n) ((m.drop (64 * n)).take 64) := by
  rw [hRun, mixF, wSch_cut]
theorem hRun_front (p q : List UInt8) : ∀ n, 64 * n ≤ p.length → hRun (p ++ q) n = hRun p n
  | 0, _ => rfl
  | n + 1, h => by
    rw [hRun_mix, hRun_mix, hRun_front p q n (by omega)]
    congr 1
    rw [List.drop_append_of_le_length (by omega), List.take_append_of_le_length (by rw [List.length_drop]; omega)]
/-- One more block. -/
theorem hRun_block (p x : List UInt8) (n : Nat) (hp : p.length = 64 * n) (hx : x.length = 64) (q : List UInt8) : hRun (p ++ x ++ q) (n + 1) = mixF (hRun p n) x := by
  rw [hRun_mix, List.append_assoc, hRun_front p (x ++ q) n (by omega), List.drop_append_of_le_length (by omega), ← hp, List.drop_length, List.nil_append, List.take_append_of_le_length (by omega), List.take_of_length_le (by omega)]

theorem ofNat_mod (n : Nat) : UInt8.ofNat (n % 256) = UInt8.ofNat n := by
  apply UInt8.toNat_inj.1
  rw [UInt8.toNat_ofNat', UInt8.toNat_ofNat']
  omega
/-- A word's bytes. -/
def be4 (x : W32) : List UInt8 := [UInt8.ofNat (x.toNat / 16777216), UInt8.ofNat (x.toNat / 65536), UInt8.ofNat (x.toNat / 256), UInt8.ofNat x.toNat]
theorem put4_at (a b : List UInt8) (x0 x1 x2 x3 : UInt8) (x : W32) : put4 (a ++ x0 :: x1 :: x2 :: x3 :: b) a.length x = a ++ be4 x ++ b := by
  unfold put4 be4
  rw [List.set_append_right _ _ (by omega), List.set_append_right _ _ (by omega), List.set_append_right _ _ (by omega), List.set_append_right _ _ (by omega)]
  have e1 : a.length + 1 - a.length = 1 := by omega
  have e2 : a.length + 2 - a.length = 2 := by omega
  have e3 : a.length + 3 - a.length = 3 := by omega
  rw [Nat.sub_self, e1, e2, e3]
  simp
/-- The length's two words. -/
theorem be4_len (n : Nat) (h : n ≤ 1099511627776) : be4 (BitVec.ofNat 32 (n / 536870912)) ++ be4 (BitVec.ofNat 32 (8 * n)) = beB 8 (8 * n) := by
  have e1 : (BitVec.ofNat 32 (n / 536870912)).toNat = n / 536870912 := by rw [BitVec.toNat_ofNat]; omega
  have e2 : (BitVec.ofNat 32 (8 * n)).toNat = 8 * n % 4294967296 := by rw [BitVec.toNat_ofNat]
  have g : ∀ a b : Nat, a % 256 = b % 256 → UInt8.ofNat a = UInt8.ofNat b := fun a b h => by rw [← ofNat_mod a, ← ofNat_mod b, h]
  simp only [be4, beB, e1, e2, List.cons_append, List.nil_append, Nat.reducePow, List.cons.injEq, and_true]
  refine ⟨g _ _ ?_, g _ _ ?_, g _ _ ?_, g _ _ ?_, g _ _ ?_, g _ _ ?_, g _ _ ?_, g _ _ ?_⟩ <;> omega
/-- A last block: what stands, the bit, noughts. -/
def lastB (l : List UInt8) (f : Nat) : List UInt8 := l.take f ++ 128 :: List.replicate (63 - f) 0
theorem lastB_length {l : List UInt8} {f : Nat} (hl : f ≤ l.length) (hf : f < 64) : (lastB l f).length = 64 := by
  simp [lastB]
  omega
theorem rep8 : List.replicate 8 (0 : UInt8) = [0, 0, 0, 0, 0, 0, 0, 0] := rfl
theorem put_len (a : List UInt8) (n : Nat) (ha : a.length = 56) (h : n ≤ 1099511627776) :
    put4 (put4 (a ++ List.replicate 8 0) 56 (BitVec.ofNat 32 (n / 536870912))) 60 (BitVec.ofNat 32 (8 * n)) = a ++ beB 8 (8 * n) := by
  have e1 := put4_at a [0, 0, 0, 0] 0 0 0 0 (BitVec.ofNat 32 (n / 536870912))
  rw [ha] at e1
  rw [rep8, e1]
  have e2 := put4_at (a ++ be4 (BitVec.ofNat 32 (n / 536870912))) [] 0 0 0 0 (BitVec.ofNat 32 (8 * n))
  have e3 : (a ++ be4 (BitVec.ofNat 32 (n / 536870912))).length = 60 := by simp [be4, ha]
  rw [e3] at e2
  rw [e2, List.append_nil, List.append_assoc, be4_len n h]
/-- The hash of what ends within one more block. -/
theorem close_one (p l : List UInt8) (n f : Nat) (hp : p.length = 64 * n + f) (hf : f < 56) (hl : l.length = 64) (hlf : l.take f = p.drop (64 * n)) (hb : p.length ≤ 1099511627776) :
    hRun (padded p) ((p.length + 72) / 64) = mixF (hRun p n) (put4 (put4 (lastB l f) 56 (BitVec.ofNat 32 (p.length / 536870912))) 60 (BitVec.ofNat 32 (8 * p.length))) := by
  have e1 : lastB l f = (l.take f ++ 128 :: List.replicate (55 - f) 0) ++ List.replicate 8 0 := by
    unfold lastB
    rw [show 63 - f = (55 - f) + 8 from by omega, ← List.replicate_append_replicate]
    simp
  rw [e1, put_len _ _ (by simp; omega) hb, hlf]
  have e2 : (p.length + 72) / 64 = n + 1 := by omega
  have e3 : padN p.length = 55 - f := by unfold padN; omega
  have e4 : padded p = p.take (64 * n) ++ (p.drop (64 * n) ++ 128 :: List.replicate (55 - f) 0 ++ beB 8 (8 * p.length)) ++ [] := by
    unfold padded
    rw [e3]
    simp only [List.append_assoc, List.append_nil, List.cons_append, List.nil_append]
    rw [← List.append_assoc, List.take_append_drop]
  have e5 : hRun p n = hRun (p.take (64 * n)) n := by
    have h := hRun_front (p.take (64 * n)) (p.drop (64 * n)) n (by simp; omega)
    rwa [List.take_append_drop] at h
  rw [e2, e4, e5, hRun_block _ _ n (by simp; omega) (by simp [beB_length]; omega)]
/-- The hash of what needs two. -/
theorem close_two (p l : List UInt8) (n f : Nat) (hp : p.length = 64 * n + f) (hf : 56 ≤ f) (hf2 : f < 64) (hl : l.length = 64) (hlf : l.take f = p.drop (64 * n)) (hb : p.length ≤ 1099511627776) :
    hRun (padded p) ((p.length + 72) / 64) = mixF (mixF (hRun p n) (lastB l f)) (put4 (put4 (List.replicate 64 0) 56 (BitVec.ofNat 32 (p.length / 536870912))) 60 (BitVec.ofNat 32 (8 * p.length))) := by
  have e1 : List.replicate 64 (0 : UInt8) = List.replicate 56 0 ++ List.replicate 8 0 := rfl
  rw [e1, put_len _ _ (by simp) hb]
  have e2 : (p.length + 72) / 64 = n + 1 + 1 := by omega
  have e3 : padN p.length = (63 - f) + 56 := by unfold padN; omega
  have e4 : padded p = (p.take (64 * n) ++ lastB l f) ++ (List.replicate 56 0 ++ beB 8 (8 * p.length)) ++ [] := by
    unfold padded lastB
    rw [e3, hlf, ← List.replicate_append_replicate]
    simp only [List.append_assoc, List.append_nil, List.cons_append, List.nil_append]
    exact (congrArg (· ++ 128 :: (List.replicate (63 - f) 0 ++ (List.replicate 56 0 ++ beB 8 (8 * p.length)))) (List.take_append_drop (64 * n) p)).symm.trans (List.append_assoc _ _ _)
  have e5 : hRun p n = hRun (p.take (64 * n)) n := by
    have h := hRun_front (p.take (64 * n)) (p.drop (64 * n)) n (by simp; omega)
    rwa [List.take_append_drop] at h
  have hlb := lastB_length (l := l) (f := f) (by omega) hf2
  have e6 := hRun_block (p.take (64 * n)) (lastB l f) n (by simp; omega) hlb []
  rw [List.append_nil] at e6
  rw [e2, e4, e5, hRun_block _ _ (n + 1) (by rw [List.length_append, hlb]; simp; omega) (by simp [beB_length]), e6]

/-- The first k words, laid out. -/
def outK (h : List W32) : Nat → List UInt8
  | 0 => List.replicate 32 0
  | k + 1 => put4 (outK h k) (4 * k) (h.getD k 0#32)
theorem outK_length (h : List W32) : ∀ k, (outK h k).length = 32
  | 0 => by simp [outK]
  | k + 1 => by rw [outK, put4_length, outK_length h k]
theorem outK_full : ∀ (h : List W32), h.length = 8 → outK h 8 = outB h
  | [a, b, c, d, e, f, g, i], _ => by
    simp only [outK, put4, outB, List.range, List.range.loop, List.map_cons, List.map_nil, ofNat_mod, List.replicate, List.getD_cons_zero, List.getD_cons_succ, List.set_cons_zero, List.set_cons_succ, Nat.reduceMul, Nat.reduceAdd, Nat.reduceDiv, Nat.reduceMod, Nat.reduceSub, Nat.reducePow, Nat.div_one]

end Go.Proofs.YtmadoehajapfhaaDoor
