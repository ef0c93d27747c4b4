/- The hash by blocks of 128 bytes: a block of its own, what stands behind whole blocks makes no difference, the last blocks, the words laid out. No program. Each theorem names its own conditions. -/
import Derived.Test.YtmadoehajapfhaaDoorShbMix
namespace Go.Proofs.YtmadoehajapfhaaDoor
open Go.RowKit
set_option linter.unusedVariables false
set_option linter.unusedSimpArgs false

theorem beQ_cut {m : List UInt8} {s k : Nat} (h : k + 8 ≤ 128) : beQ ((m.drop s).take 128) k = beQ m (s + k) := by
  have g : ∀ j, j < 128 → ((m.drop s).take 128).getD j 0 = m.getD (s + j) 0 := fun j hj => by
    simp only [List.getD, List.getElem?_take, if_pos hj, List.getElem?_drop]
  have g2 : ∀ n, n ≤ 8 → beN ((m.drop s).take 128) k n = beN m (s + k) n := by
    intro n
    induction n with
    | zero => intro _; rfl
    | succ n ih => intro hn; rw [beN, beN, ih (by omega), g (k + n) (by omega), Nat.add_assoc]
  unfold beQ
  rw [g2 8 (Nat.le_refl _)]
theorem qTop_cut (m : List UInt8) (s : Nat) : ∀ k, k ≤ 16 → qTop ((m.drop s).take 128) 0 k = qTop m s k
  | 0, _ => rfl
  | k + 1, h => by
    rw [qTop, qTop, qTop_cut m s k (by omega), Nat.zero_add, beQ_cut (by omega)]
theorem qSch_cut (m : List UInt8) (s : Nat) : ∀ n, qSch ((m.drop s).take 128) 0 n = qSch m s n
  | 0 => qTop_cut m s 16 (Nat.le_refl _)
  | n + 1 => by rw [qSch, qSch, qSch_cut m s n]
theorem gRun_mix (m : List UInt8) (n : Nat) : gRun m (n + 1) = mixFQ (gRun m n) ((m.drop (128 * n)).take 128) := by
  rw [gRun, mixFQ, qSch_cut]
theorem gRun_front (p q : List UInt8) : ∀ n, 128 * n ≤ p.length → gRun (p ++ q) n = gRun p n
  | 0, _ => rfl
  | n + 1, h => by
    rw [gRun_mix, gRun_mix, gRun_front p q n (by omega)]
    congr 1
    rw [List.drop_append_of_le_length (by omega), List.take_append_of_le_length (by rw [List.length_drop]; omega)]
/-- One more block. -/
theorem gRun_block (p x : List UInt8) (n : Nat) (hp : p.length = 128 * n) (hx : x.length = 128) (q : List UInt8) : gRun (p ++ x ++ q) (n + 1) = mixFQ (gRun p n) x := by
  rw [gRun_mix, List.append_assoc, gRun_front p (x ++ q) n (by omega), List.drop_append_of_le_length (by omega), ← hp, List.drop_length, List.nil_append, List.take_append_of_le_length (by omega), List.take_of_length_le (by omega)]

theorem ofNat_modQ (n : Nat) : UInt8.ofNat (n % 256) = UInt8.ofNat n := by
  apply UInt8.toNat_inj.1
  rw [UInt8.toNat_ofNat', UInt8.toNat_ofNat']
  omega
/-- A word's bytes. -/
def be8 (x : Q64) : List UInt8 := [UInt8.ofNat (x.toNat / 72057594037927936), UInt8.ofNat (x.toNat / 281474976710656), UInt8.ofNat (x.toNat / 1099511627776), UInt8.ofNat (x.toNat / 4294967296), UInt8.ofNat (x.toNat / 16777216), UInt8.ofNat (x.toNat / 65536), UInt8.ofNat (x.toNat / 256), UInt8.ofNat x.toNat]
theorem put8_at (a b : List UInt8) (x0 x1 x2 x3 x4 x5 x6 x7 : UInt8) (x : Q64) : put8 (a ++ x0 :: x1 :: x2 :: x3 :: x4 :: x5 :: x6 :: x7 :: b) a.length x = a ++ be8 x ++ b := by
  unfold put8 be8
  rw [List.set_append_right _ _ (by omega), List.set_append_right _ _ (by omega), List.set_append_right _ _ (by omega), List.set_append_right _ _ (by omega), List.set_append_right _ _ (by omega), List.set_append_right _ _ (by omega), List.set_append_right _ _ (by omega), List.set_append_right _ _ (by omega)]
  have e1 : a.length + 1 - a.length = 1 := by omega
  have e2 : a.length + 2 - a.length = 2 := by omega
  have e3 : a.length + 3 - a.length = 3 := by omega
  have e4 : a.length + 4 - a.length = 4 := by omega
  have e5 : a.length + 5 - a.length = 5 := by omega
  have e6 : a.length + 6 - a.length = 6 := by omega
  have e7 : a.length + 7 - a.length = 7 := by omega
  rw [Nat.sub_self, e1, e2, e3, e4, e5, e6, e7]
  simp
/-- The length's sixteen bytes: noughts, and one word. -/
theorem be8_len (n : Nat) (h : n ≤ 1099511627776) : List.replicate 8 0 ++ be8 (BitVec.ofNat 64 (8 * n)) = beB 16 (8 * n) := by
  have e2 : (BitVec.ofNat 64 (8 * n)).toNat = 8 * n := by rw [BitVec.toNat_ofNat]; omega
  have g : ∀ a b : Nat, a % 256 = b % 256 → UInt8.ofNat a = UInt8.ofNat b := fun a b h => by rw [← ofNat_modQ a, ← ofNat_modQ b, h]
  have z : ∀ k : Nat, 8 * n < k → (0 : UInt8) = UInt8.ofNat (8 * n / k % 256) := fun k hk => by rw [Nat.div_eq_of_lt hk]; rfl
  simp only [be8, beB, e2, List.replicate, List.cons_append, List.nil_append, Nat.reducePow, List.cons.injEq, and_true]
  refine ⟨?_, ?_, ?_, ?_, ?_, ?_, ?_, ?_, ?_, ?_, ?_, ?_, ?_, ?_, ?_, ?_⟩ <;> first | exact g _ _ (by omega) | exact z _ (by omega)
/-- A last block: what stands, the bit, noughts. -/
def lastBQ (l : List UInt8) (f : Nat) : List UInt8 := l.take f ++ 128 :: List.replicate (127 - f) 0
theorem lastBQ_length {l : List UInt8} {f : Nat} (hl : f ≤ l.length) (hf : f < 128) : (lastBQ l f).length = 128 := by
  simp [lastBQ]
  omega
theorem rep8Q : List.replicate 8 (0 : UInt8) = [0, 0, 0, 0, 0, 0, 0, 0] := rfl
theorem put_lenQ (a : List UInt8) (n : Nat) (ha : a.length = 112) (h : n ≤ 1099511627776) : put8 (a ++ List.replicate 16 0) 120 (BitVec.ofNat 64 (8 * n)) = a ++ beB 16 (8 * n) := by
  have e1 := put8_at (a ++ List.replicate 8 0) [] 0 0 0 0 0 0 0 0 (BitVec.ofNat 64 (8 * n))
  have e3 : (a ++ List.replicate 8 (0 : UInt8)).length = 120 := by simp [ha]
  rw [e3] at e1
  rw [← be8_len n h, show (16 : Nat) = 8 + 8 from rfl, ← List.replicate_append_replicate, ← List.append_assoc, rep8Q]
  rw [rep8Q] at e1
  rw [e1, List.append_nil, List.append_assoc]
/-- The hash of what ends within one more block. -/
theorem close_oneQ (p l : List UInt8) (n f : Nat) (hp : p.length = 128 * n + f) (hf : f < 112) (hl : l.length = 128) (hlf : l.take f = p.drop (128 * n)) (hb : p.length ≤ 1099511627776) :
    gRun (paddedQ p) ((p.length + 144) / 128) = mixFQ (gRun p n) (put8 (lastBQ l f) 120 (BitVec.ofNat 64 (8 * p.length))) := by
  have e1 : lastBQ l f = (l.take f ++ 128 :: List.replicate (111 - f) 0) ++ List.replicate 16 0 := by
    unfold lastBQ
    rw [show 127 - f = (111 - f) + 16 from by omega, ← List.replicate_append_replicate]
    simp
  rw [e1, put_lenQ _ _ (by simp; omega) hb, hlf]
  have e2 : (p.length + 144) / 128 = n + 1 := by omega
  have e3 : padQ p.length = 111 - f := by unfold padQ; omega
  have e4 : paddedQ p = p.take (128 * n) ++ (p.drop (128 * n) ++ 128 :: List.replicate (111 - f) 0 ++ beB 16 (8 * p.length)) ++ [] := by
    unfold paddedQ
    rw [e3]
    simp only [List.append_assoc, List.append_nil, List.cons_append, List.nil_append]
    rw [← List.append_assoc, List.take_append_drop]
  have e5 : gRun p n = gRun (p.take (128 * n)) n := by
    have h := gRun_front (p.take (128 * n)) (p.drop (128 * n)) n (by simp; omega)
    rwa [List.take_append_drop] at h
  rw [e2, e4, e5, gRun_block _ _ n (by simp; omega) (by simp [beB_length]; omega)]
/-- The hash of what needs two. -/
theorem close_twoQ (p l : List UInt8) (n f : Nat) (hp : p.length = 128 * n + f) (hf : 112 ≤ f) (hf2 : f < 128) (hl : l.length = 128) (hlf : l.take f = p.drop (128 * n)) (hb : p.length ≤ 1099511627776) :
    gRun (paddedQ p) ((p.length + 144) / 128) = mixFQ (mixFQ (gRun p n) (lastBQ l f)) (put8 (List.replicate 128 0) 120 (BitVec.ofNat 64 (8 * p.length))) := by
  have e1 : List.replicate 128 (0 : UInt8) = List.replicate 112 0 ++ List.replicate 16 0 := by rw [List.replicate_append_replicate]
  rw [e1, put_lenQ _ _ List.length_replicate hb]
  have e2 : (p.length + 144) / 128 = n + 1 + 1 := by omega
  have e3 : padQ p.length = (127 - f) + 112 := by unfold padQ; omega
  have e4 : paddedQ p = (p.take (128 * n) ++ lastBQ l f) ++ (List.replicate 112 0 ++ beB 16 (8 * p.length)) ++ [] := by
    unfold paddedQ lastBQ
    rw [e3, hlf, ← List.replicate_append_replicate]
    simp only [List.append_assoc, List.append_nil, List.cons_append, List.nil_append]
    exact (congrArg (· ++ 128 :: (List.replicate (127 - f) 0 ++ (List.replicate 112 0 ++ beB 16 (8 * p.length)))) (List.take_append_drop (128 * n) p)).symm.trans (List.append_assoc _ _ _)
  have e5 : gRun p n = gRun (p.take (128 * n)) n := by
    have h := gRun_front (p.take (128 * n)) (p.drop (128 * n)) n (by simp; omega)
    rwa [List.take_append_drop] at h
  have hlb := lastBQ_length (l := l) (f := f) (by omega) hf2
  have e6 := gRun_block (p.take (128 * n)) (lastBQ l f) n (by simp; omega) hlb []
  rw [List.append_nil] at e6
  rw [e2, e4, e5, gRun_block _ _ (n + 1) (by rw [List.length_append, hlb]; simp; omega) (by rw [List.length_append, List.length_replicate, beB_length]), e6]

/-- The first k words, laid out. -/
def outKQ (h : List Q64) : Nat → List UInt8
  | 0 => List.replicate 64 0
  | k + 1 => put8 (outKQ h k) (8 * k) (h.getD k 0#64)
theorem outKQ_length (h : List Q64) : ∀ k, (outKQ h k).length = 64
  | 0 => by simp [outKQ]
  | k + 1 => by rw [outKQ, put8_length, outKQ_length h k]
/-- The byte i of the words. -/
def byQ (h : List Q64) (i : Nat) : UInt8 := UInt8.ofNat ((h.getD (i / 8) 0#64).toNat / 2 ^ (56 - 8 * (i % 8)) % 256)
theorem byQ_eq (h : List Q64) (k j : Nat) (hj : j < 8) : byQ h (8 * k + j) = UInt8.ofNat ((h.getD k 0#64).toNat / 2 ^ (56 - 8 * j)) := by
  unfold byQ
  rw [show (8 * k + j) / 8 = k from by omega, show (8 * k + j) % 8 = j from by omega, ofNat_modQ]
theorem put8_be (a b : List UInt8) (x : Q64) (hb : 8 ≤ b.length) : put8 (a ++ b) a.length x = a ++ be8 x ++ b.drop 8 := by
  match b, hb with
  | x0 :: x1 :: x2 :: x3 :: x4 :: x5 :: x6 :: x7 :: b, _ => rw [put8_at]; rfl
theorem outKQ_eq (h : List Q64) : ∀ k, k ≤ 8 → outKQ h k = (List.range (8 * k)).map (byQ h) ++ List.replicate (64 - 8 * k) 0
  | 0, _ => by simp [outKQ]
  | k + 1, hk => by
    have e := put8_be ((List.range (8 * k)).map (byQ h)) (List.replicate (64 - 8 * k) 0) (h.getD k 0#64) (by rw [List.length_replicate]; omega)
    rw [List.length_map, List.length_range] at e
    rw [outKQ, outKQ_eq h k (by omega), e, List.drop_replicate, show 64 - 8 * k - 8 = 64 - 8 * (k + 1) from by omega]
    congr 1
    rw [show 8 * (k + 1) = 8 * k + 1 + 1 + 1 + 1 + 1 + 1 + 1 + 1 from by omega]
    simp only [List.range_succ, List.map_append, List.map_cons, List.map_nil, List.append_assoc, List.cons_append, List.nil_append]
    congr 1
    unfold be8
    have b0 := byQ_eq h k 0 (by omega)
    have b1 := byQ_eq h k 1 (by omega)
    have b2 := byQ_eq h k 2 (by omega)
    have b3 := byQ_eq h k 3 (by omega)
    have b4 := byQ_eq h k 4 (by omega)
    have b5 := byQ_eq h k 5 (by omega)
    have b6 := byQ_eq h k 6 (by omega)
    have b7 := byQ_eq h k 7 (by omega)
    simp only [Nat.add_assoc, Nat.reduceAdd, Nat.add_zero] at b0 b1 b2 b3 b4 b5 b6 b7 ⊢
    rw [b0, b1, b2, b3, b4, b5, b6, b7]
    simp only [Nat.reduceMul, Nat.reduceSub, Nat.reducePow, Nat.div_one]
theorem outKQ_full (h : List Q64) (_ : h.length = 8) : outKQ h 8 = outQ h := by
  rw [outKQ_eq h 8 (by omega)]
  simp only [Nat.reduceMul, Nat.sub_self, List.replicate_zero, List.append_nil]
  rfl

end Go.Proofs.YtmadoehajapfhaaDoor
