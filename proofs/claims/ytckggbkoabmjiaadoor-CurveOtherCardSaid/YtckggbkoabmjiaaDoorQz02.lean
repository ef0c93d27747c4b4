/- Texts that belong together, one behind the other. -/
import Derived.Laws.ResultCell
import Derived.Deep.MidRow
import Derived.WalkKit
import Derived.WalkSpells
import Derived.WalkLawsBesides
import Derived.Lib.Hide
import Derived.Deep.QuietTactic
import Derived.BigQuiet
import Derived.Deep.RegionHeld3
import Derived.Deep.AppendLies
import Derived.OneCell
import Derived.Deep.Quiet
import Derived.OrdersHeld
import Derived.Deep.RegionHeld
import Derived.ChangeKeysEq
import Derived.KernelRfl
import Derived.Laws.Tables
import Derived.Great.BuildSlice
import Derived.ProofKit
import Derived.Deep.CutRange
import Derived.LaidMore
import Derived.OpenShut
import Derived.Stop.Joined
import Derived.SevenTiedAt
import Derived.Deep.Slices
import Derived.Laws.Cover2
import Derived.Deep.RegionWith
import Derived.Test.YtckggbkoabmjiaaDoorRows
import Derived.Laws.Entries
import Derived.StillTailTactics
import Derived.ScopeJumps
import Derived.Control
import Derived.WalkMore
import Derived.Lib.AppendZeros
import Derived.Test.YtckggbkoabmjiaaDoorQz01
namespace Go.Proofs.YtckggbkoabmjiaaDoor
set_option linter.unusedVariables false
set_option linter.unusedSimpArgs false
open Go.RowKit
def nq (x : Int) : List UInt8 := bytesN 32 (x % qQ).toNat
theorem nq_length (x : Int) : (nq x).length = 32 := bytesN_length _ _
theorem pow_mul28 (s : Nat) (h : s ≤ 28) : (2 : Nat) ^ s * 2 ^ (28 - s) = 268435456 := by
 rw [← Nat.pow_add, Nat.add_sub_cancel' h]
theorem byte_of_limbs {y : List Int} {v : Int} (h : Fin9 y v) (v0 : 0 ≤ v) {i p s : Nat} (hi : i < 32) (hp : p = 8 * i / 28) (hs : s = 8 * i % 28) :
  IntKind.u8.wrap (bits .or .i64 (y.getD p 0 / 2 ^ s) (y.getD (p + 1) 0 * 2 ^ (28 - s))) = (((bytesN 32 v.toNat).getD i 0).toNat : Int) := by
 obtain ⟨h1, h2, h3, h4, h5⟩ := h
 have hp8 : p ≤ 8 := by omega
 have s28 : s < 28 := by omega
 have hd := gV_div (B := 268435456) (by omega) (zs := y) (d := p) (by omega) (fun j hj => h3 j (by omega))
 have c1 : y.drop p = y.getD p 0 :: y.getD (p + 1) 0 :: y.drop (p + 2) := by
  rw [List.drop_eq_getElem_cons (by omega), List.drop_eq_getElem_cons (by omega : p + 1 < y.length), getD_eq (by omega), getD_eq (by omega)]
 rw [c1, h2] at hd
 simp only [gV] at hd
 generalize gV 268435456 (y.drop (p + 2)) = R at hd
 have hN : 0 ≤ y.getD (p + 1) 0 ∧ y.getD (p + 1) 0 ≤ 268435456 := by
  rcases (by omega : p + 1 < 8 ∨ p + 1 = 8 ∨ 8 < p + 1) with g | g | g
  ·have := h3 _ g; omega
  ·rw [g]; exact h4
  ·rw [h5 _ g]; omega
 have hP : 0 ≤ y.getD p 0 ∧ y.getD p 0 ≤ 268435456 ∧ (y.getD p 0 < 268435456 ∨ y.getD (p + 1) 0 = 0) := by
  rcases (by omega : p < 8 ∨ p = 8) with g | g
  ·have := h3 _ g; omega
  ·rw [g]; exact ⟨h4.1, h4.2, Or.inr (h5 _ (by omega))⟩
 generalize y.getD p 0 = P at *
 generalize y.getD (p + 1) 0 = N at *
 obtain ⟨a, rfl⟩ : ∃ a : Nat, P = a := ⟨P.toNat, by omega⟩
 obtain ⟨b, rfl⟩ : ∃ b : Nat, N = b := ⟨N.toNat, by omega⟩
 have k28 := pow_mul28 s (by omega)
 have kp1 : 0 < 2 ^ s := Nat.pow_pos (by omega)
 have kp2 : 0 < 2 ^ (28 - s) := Nat.pow_pos (by omega)
 have kle : 2 ^ (28 - s) ≤ 268435456 := by rw [← k28]; exact Nat.le_mul_of_pos_left _ kp1
 have e1 : (a : Int) / 2 ^ s = ((a / 2 ^ s : Nat) : Int) := by simp
 have e2 : (b : Int) * 2 ^ (28 - s) = ((2 ^ (28 - s) * b : Nat) : Int) := by
  rw [Int.natCast_mul, Int.mul_comm]
  simp
 have hor : a / 2 ^ s ||| 2 ^ (28 - s) * b = a / 2 ^ s + 2 ^ (28 - s) * b := by
  rcases hP.2.2 with g | g
  ·have ha : a / 2 ^ s < 2 ^ (28 - s) := by
    rw [Nat.div_lt_iff_lt_mul kp1, Nat.mul_comm, k28]
    omega
   rw [Nat.or_comm, or_sum (28 - s) _ _ ha]
   omega
  ·have : b = 0 := by omega
   subst this
   simp
 have hb2 : 2 ^ (28 - s) * b ≤ 268435456 * 268435456 := Nat.mul_le_mul kle (by omega)
 have ha2 : a / 2 ^ s ≤ a := Nat.div_le_self _ _
 rw [e1, e2, or_i64 _ _ (by omega) (by omega), hor, bytesN_getD 32 _ i hi, IntKind.wrap_u8]
 have e3 : (v.toNat / 256 ^ i % 256 : Nat) = (v / 256 ^ i % 256).toNat := by
  obtain ⟨n, rfl⟩ : ∃ n : Nat, v = n := ⟨v.toNat, by omega⟩
  have e : ((256 : Int) ^ i) = ((256 ^ i : Nat) : Int) := by simp
  rw [e, Int.toNat_natCast, ← Int.natCast_ediv]
  omega
 have e4 : (256 : Int) ^ i = 268435456 ^ p * 2 ^ s := by rw [hp, hs]; exact (pow_split i).symm
 have e5 : v / 256 ^ i = ((a / 2 ^ s + 2 ^ (28 - s) * b : Nat) : Int) + 256 * (1048576 * 2 ^ (28 - s) * R) := by
  rw [e4, ← Int.ediv_ediv_of_nonneg (Int.le_of_lt (Int.pow_pos (by omega))), hd]
  have e6 : (268435456 : Int) = 2 ^ s * 2 ^ (28 - s) := by rw [← Int.pow_add, Nat.add_sub_cancel' (by omega)]; decide
  have e7 : (a : Int) + 268435456 * ((b : Int) + 268435456 * R) = (a : Int) + 2 ^ s * (2 ^ (28 - s) * ((b : Int) + 268435456 * R)) := by
   rw [← Int.mul_assoc, ← e6]
  rw [e7, Int.add_mul_ediv_left _ _ (Int.ne_of_gt (Int.pow_pos (by omega)))]
  rw [e1]
  have e8 : ((2 ^ (28 - s) : Nat) : Int) = 2 ^ (28 - s) := by simp
  rw [Int.natCast_add, Int.natCast_mul, e8]
  generalize (2 : Int) ^ (28 - s) = Z
  generalize ((a / 2 ^ s : Nat) : Int) = u
  grind
 rw [e3, e5]
 generalize (1048576 : Int) * 2 ^ (28 - s) * R = Z
 generalize (a / 2 ^ s + 2 ^ (28 - s) * b : Nat) = S
 omega
def aLim (x y : List Int) : Nat → List Int
 | 0 => x
 | k + 1 => (aLim x y k).set k ((aLim x y k).getD k 0 + y.getD k 0)
theorem aLim_length (x y : List Int) : ∀ k, (aLim x y k).length = x.length
 | 0 => rfl
 | k + 1 => by simp [aLim, aLim_length x y k]
theorem aLim_far (x y : List Int) : ∀ k j, k ≤ j → (aLim x y k).getD j 0 = x.getD j 0
 | 0, _, _ => rfl
 | k + 1, j, h => by
  simp only [aLim]
  rw [getD_set_far (by omega)]
  exact aLim_far x y k j (by omega)
theorem aLim_in (x y : List Int) : ∀ k j, k ≤ x.length → j < k → (aLim x y k).getD j 0 = x.getD j 0 + y.getD j 0
 | 0, j, _, h => by omega
 | k + 1, j, hn, h => by
  simp only [aLim]
  by_cases e : j = k
  ·subst e
   rw [getD_set_same (by rw [aLim_length]; omega), aLim_far x y j j (by omega)]
  ·rw [getD_set_far (by omega)]
   exact aLim_in x y k j (by omega) (by omega)
theorem aLim_val (B : Int) (x y : List Int) : ∀ k, k ≤ x.length → k ≤ y.length → gV B (aLim x y k) = gV B x + gV B (y.take k)
 | 0, _, _ => by simp [aLim, gV]
 | k + 1, hx, hy => by
  simp only [aLim]
  rw [gV_set _ _ _ _ (by rw [aLim_length]; omega), aLim_val B x y k (by omega) (by omega), gV_take_succ _ y k (by omega)]
  generalize (aLim x y k).getD k 0 = a
  generalize B ^ k = Y
  generalize gV B (y.take k) = T
  generalize y.getD k 0 = t
  grind
def mRow (p x y : List Int) (i : Nat) : Nat → List Int
 | 0 => p
 | j + 1 => (mRow p x y i j).set (i + j) ((mRow p x y i j).getD (i + j) 0 + x.getD i 0 * y.getD j 0)
def mAll (x y : List Int) : Nat → List Int
 | 0 => List.replicate 19 0
 | i + 1 => mRow (mAll x y i) x y i 10
theorem mRow_length (p x y : List Int) (i : Nat) : ∀ j, (mRow p x y i j).length = p.length
 | 0 => rfl
 | j + 1 => by simp [mRow, mRow_length p x y i j]
theorem mAll_length (x y : List Int) : ∀ i, (mAll x y i).length = 19
 | 0 => by simp [mAll]
 | i + 1 => by rw [mAll, mRow_length, mAll_length x y i]
theorem mRow_far (p x y : List Int) (i : Nat) : ∀ j k, i + j ≤ k → (mRow p x y i j).getD k 0 = p.getD k 0
 | 0, _, _ => rfl
 | j + 1, k, h => by
  simp only [mRow]
  rw [getD_set_far (by omega)]
  exact mRow_far p x y i j k (by omega)
theorem mul_range {a b M : Int} (h1 : 0 ≤ a) (h2 : a ≤ M) (h3 : 0 ≤ b) (h4 : b ≤ M) : 0 ≤ a * b ∧ a * b ≤ M * M :=
 ⟨Int.mul_nonneg h1 h3, Int.mul_le_mul h2 h4 h3 (by omega)⟩
theorem mRow_range {p x y : List Int} {i : Nat} {C : Int} (hi : i < 10) (hp : p.length = 19) (hC : ∀ k, 0 ≤ p.getD k 0 ∧ p.getD k 0 ≤ C) (hx : 0 ≤ x.getD i 0 ∧ x.getD i 0 ≤ 268435456) (hy : ∀ j, 0 ≤ y.getD j 0 ∧ y.getD j 0 ≤ 268435456) :
  ∀ j, j ≤ 10 → ∀ k, 0 ≤ (mRow p x y i j).getD k 0 ∧ (mRow p x y i j).getD k 0 ≤ C + 72057594037927936
 | 0, _, k => by have := hC k; simp only [mRow]; omega
 | j + 1, hj, k => by
  have ih := mRow_range hi hp hC hx hy j (by omega) k
  have hm := mul_range hx.1 hx.2 (hy j).1 (hy j).2
  simp only [mRow]
  by_cases e : i + j = k
  ·subst e
   rw [getD_set_same (by rw [mRow_length]; omega), mRow_far p x y i j _ (by omega)]
   have := hC (i + j)
   omega
  ·rw [getD_set_far e]
   exact ih
theorem mAll_range {x y : List Int} (hx : ∀ j, 0 ≤ x.getD j 0 ∧ x.getD j 0 ≤ 268435456) (hy : ∀ j, 0 ≤ y.getD j 0 ∧ y.getD j 0 ≤ 268435456) : ∀ i, i ≤ 10 → ∀ k, 0 ≤ (mAll x y i).getD k 0 ∧ (mAll x y i).getD k 0 ≤ (i : Int) * 72057594037927936
 | 0, _, k => by
  simp only [mAll, List.getD, List.getElem?_replicate]
  split <;> simp
 | i + 1, hi, k => by
  have := mRow_range (C := (i : Int) * 72057594037927936) (by omega) (mAll_length x y i) (mAll_range hx hy i (by omega)) (hx i) hy 10 (by omega) k
  simp only [mAll]
  omega
theorem mRow_val (p x y : List Int) (i : Nat) (hi : i < 10) (hp : p.length = 19) (hy : y.length = 19) : ∀ j, j ≤ 10 → gV 268435456 (mRow p x y i j) = gV 268435456 p + x.getD i 0 * 268435456 ^ i * gV 268435456 (y.take j)
 | 0, _ => by simp [mRow, gV]
 | j + 1, hj => by
  simp only [mRow]
  rw [gV_set _ _ _ _ (by rw [mRow_length]; omega), mRow_val p x y i hi hp hy j (by omega), gV_take_succ _ y j (by omega), Int.pow_add]
  generalize (mRow p x y i j).getD (i + j) 0 = a
  generalize (268435456 : Int) ^ i = X
  generalize (268435456 : Int) ^ j = Y
  generalize gV 268435456 (y.take j) = T
  generalize y.getD j 0 = t
  generalize x.getD i 0 = u
  grind
theorem mAll_val (x y : List Int) (hx : x.length = 19) (hy : y.length = 19) : ∀ i, i ≤ 10 → gV 268435456 (mAll x y i) = gV 268435456 (x.take i) * gV 268435456 (y.take 10)
 | 0, _ => by simp [mAll, gV_zeros, gV]
 | i + 1, hi => by
  simp only [mAll]
  rw [mRow_val _ _ _ _ (by omega) (mAll_length x y i) hy 10 (by omega), mAll_val x y hx hy i (by omega), gV_take_succ _ x i (by omega)]
  generalize (268435456 : Int) ^ i = X
  generalize gV 268435456 (y.take 10) = T
  generalize gV 268435456 (x.take i) = S
  generalize x.getD i 0 = u
  grind
theorem Can.range {y : List Int} {v : Int} (h : Can y v) : ∀ j, 0 ≤ y.getD j 0 ∧ y.getD j 0 < 268435456 := by
 intro j
 rcases (by omega : j < 18 ∨ j = 18 ∨ 18 < j) with g | g | g
 ·exact h.low j g
 ·rw [g]; have := h.top; omega
 ·rw [getD_out (by have := h.len; omega)]; omega
theorem Can.ten {y : List Int} {v : Int} (h : Can y v) (hv : v < 268435456 ^ 10) (v0 : 0 ≤ v) : gV 268435456 (y.take 10) = v := by
 have hc := gV_cut 268435456 y 10 (by have := h.len; omega)
 have hd := gV_div (B := 268435456) (by omega) (zs := y) (d := 10) (by have := h.len; omega) (fun j hj => h.low j (by omega))
 rw [h.val, Int.ediv_eq_zero_of_lt v0 hv] at hd
 rw [← hd, h.val] at hc
 omega
theorem leN_ten (l : List UInt8) (h : l.length = 32) : (leN l : Int) < 268435456 ^ 10 := by
 have h1 := leN_lt l
 rw [h] at h1
 have h2 : ((256 ^ 32 : Nat) : Int) < 268435456 ^ 10 := by decide +kernel
 exact Int.lt_trans (Int.ofNat_lt.2 h1) h2
theorem leN_prod (l m : List UInt8) (hl : l.length = 32) (hm : m.length = 32) : (leN l : Int) * leN m < hQ := by
 have h1 := leN_lt l
 have h2 := leN_lt m
 rw [hl] at h1
 rw [hm] at h2
 have h3 : leN l * leN m < 256 ^ 32 * 256 ^ 32 := Nat.mul_lt_mul'' h1 h2
 have h4 : ((256 ^ 32 * 256 ^ 32 : Nat) : Int) = hQ := by decide +kernel
 rw [← h4, ← Int.natCast_mul]
 exact Int.ofNat_lt.2 h3
theorem leN_summ (l m : List UInt8) (hl : l.length = 32) (hm : m.length = 32) : (leN l : Int) + leN m < hQ := by
 have h1 := leN_ten l hl
 have h2 := leN_ten m hm
 have h4 : (268435456 : Int) ^ 10 + 268435456 ^ 10 < hQ := by decide +kernel
 omega
theorem nq_val (x : Int) : ((leN (nq x) : Nat) : Int) = x % qQ := by
 have h0 : 0 ≤ x % qQ := Int.emod_nonneg x (by decide +kernel)
 have h1 : x % qQ < qQ := Int.emod_lt_of_pos x (by decide +kernel)
 have hp : qQ < ((256 ^ 32 : Nat) : Int) := by decide +kernel
 unfold nq
 rw [leN_bytesN, Nat.mod_eq_of_lt, Int.toNat_of_nonneg h0]
 have : ((x % qQ).toNat : Int) < ((256 ^ 32 : Nat) : Int) := by
  rw [Int.toNat_of_nonneg h0]
  exact Int.lt_trans h1 hp
 exact Int.ofNat_lt.1 this
theorem nq_self (l : List UInt8) (hl : l.length = 32) : nq (leN l : Nat) = l ↔ (leN l : Int) < qQ := by
 have hq : 0 < qQ := qQ_pos
 constructor
 ·intro h
  have := nq_val (leN l : Nat)
  rw [h] at this
  rw [this]
  exact Int.emod_lt_of_pos _ hq
 ·intro h
  unfold nq
  rw [Int.emod_eq_of_lt (by omega) h, Int.toNat_natCast, ← hl]
  exact bytesN_leN l
def lessB (l : List UInt8) : Bool := decide ((leN l : Int) < qQ)
theorem lessB_eq (l : List UInt8) (hl : l.length = 32) : decide (nq (leN l : Nat) = l) = lessB l := by
 unfold lessB
 rw [Bool.eq_iff_iff, decide_eq_true_iff, decide_eq_true_iff]
 exact nq_self l hl
theorem lessB_nq (x : Int) : lessB (nq x) = true := by
 unfold lessB
 rw [decide_eq_true_iff, nq_val]
 exact Int.emod_lt_of_pos _ qQ_pos
theorem qB_q : ((qB : Nat) : Int) = qQ := by decide +kernel
theorem leN_nq (x : Nat) : leN (nq (x : Int)) = x % qB := by
 have h := nq_val (x : Int)
 rw [← qB_q] at h
 omega
def encB (P : Pt) : List UInt8 := bytesN 32 (enc P)
theorem encB_length (P : Pt) : (encB P).length = 32 := bytesN_length _ _
theorem leN_encB (P : Pt) : leN (encB P) = enc P := by
 unfold encB
 rw [leN_bytesN, Nat.mod_eq_of_lt (Nat.lt_of_lt_of_eq (enc_lt P) (by decide +kernel))]
theorem encB_inj {P Q : Pt} (h : encB P = encB Q) : P = Q := enc_inj (by rw [← leN_encB, ← leN_encB, h])
def secA (s : List UInt8) : List UInt8 := clampB ((sha512 s).take 32)
def secH (s : List UInt8) : List UInt8 := (sha512 s).drop 32
def wideB (m : List UInt8) : List UInt8 := nq (leN (sha512 m) : Nat)
theorem wideB_length (m : List UInt8) : (wideB m).length = 32 := nq_length _
def edPub (s : List UInt8) : List UInt8 := encB (pmul (leN (secA s)) bP)
theorem edPub_length (s : List UInt8) : (edPub s).length = 32 := encB_length _
def edNum (s m : List UInt8) : List UInt8 := wideB (secH s ++ m)
def edR (s m : List UInt8) : List UInt8 := encB (pmul (leN (edNum s m)) bP)
theorem edR_length (s m : List UInt8) : (edR s m).length = 32 := encB_length _
def edS (s m : List UInt8) : List UInt8 := nq ((leN (edNum s m) : Nat) + (leN (nq ((leN (wideB (edR s m ++ (edPub s ++ m))) : Nat) * (leN (secA s) : Nat))) : Nat))
theorem edS_length (s m : List UInt8) : (edS s m).length = 32 := nq_length _
def edSign (s m : List UInt8) : List UInt8 := edR s m ++ edS s m
theorem edSign_length (s m : List UInt8) : (edSign s m).length = 64 := by
 unfold edSign
 rw [List.length_append, edR_length, edS_length]
def edMay (n : List UInt8) : Prop := ∃ P, encB P = n
def edVer (key g m : List UInt8) : Prop := lessB (g.drop 32) = true ∧ ∃ A R, encB A = key ∧ encB R = g.take 32 ∧ pmul (leN (g.drop 32)) bP = padd R (pmul (leN (wideB (g.take 32 ++ (key ++ m)))) A)
theorem edVer_of {key g m : List UInt8} {A R : Pt} (hA : encB A = key) (hR : encB R = g.take 32) : edVer key g m ↔ lessB (g.drop 32) = true ∧ pmul (leN (g.drop 32)) bP = padd R (pmul (leN (wideB (g.take 32 ++ (key ++ m)))) A) := by
 constructor
 ·rintro ⟨h1, A', R', h2, h3, h4⟩
  obtain rfl := encB_inj (h2.trans hA.symm)
  obtain rfl := encB_inj (h3.trans hR.symm)
  exact ⟨h1, h4⟩
 ·rintro ⟨h1, h4⟩
  exact ⟨h1, A, R, hA, hR, h4⟩
theorem sign_take (s m : List UInt8) : (edSign s m).take 32 = edR s m := by
 unfold edSign
 rw [List.take_append_of_le_length (by rw [edR_length]; omega), List.take_of_length_le (by rw [edR_length]; omega)]
theorem sign_drop (s m : List UInt8) : (edSign s m).drop 32 = edS s m := by
 unfold edSign
 rw [List.drop_append, List.drop_eq_nil_of_le (by rw [edR_length]; omega), List.nil_append, edR_length, Nat.sub_self, List.drop_zero]
theorem leN_edS (s m : List UInt8) : leN (edS s m) = (leN (edNum s m) + leN (wideB (edR s m ++ (edPub s ++ m))) * leN (secA s)) % qB := by
 unfold edS
 rw [← Int.natCast_mul, leN_nq, ← Int.natCast_add, leN_nq, Nat.add_mod_mod]
theorem ver_sign (s m : List UInt8) : edVer (edPub s) (edSign s m) m := by
 rw [edVer_of (A := pmul (leN (secA s)) bP) (R := pmul (leN (edNum s m)) bP) (show encB _ = edPub s from rfl) (by rw [sign_take]; rfl), sign_take, sign_drop]
 refine ⟨lessB_nq _, ?_⟩
 rw [leN_edS]
 exact sign_holds _ _ _
theorem may_pub (s : List UInt8) : edMay (edPub s) := ⟨_, rfl⟩
theorem ver_great {key g m : List UInt8} (h : lessB (g.drop 32) = false) : ¬ edVer key g m := by
 rintro ⟨h1, _⟩
 rw [h] at h1
 exact absurd h1 (by decide)
theorem getD_set_self (l : List UInt8) (i : Nat) (v : UInt8) (h : i < l.length) : (l.set i v).getD i 0 = v := by
 rw [List.getD_eq_getElem?_getD, List.getElem?_set_self h]
 rfl
theorem y_zero_sq {P : Pt} (hy : P.y = 0) : P.x * P.x = -1 := by
 have h := P.on
 unfold On at h
 rw [hy, Fin.mul_zero, Fin.mul_zero, Fin.mul_zero, Fin.add_zero] at h
 have e : P.x * P.x = 0 - (0 - P.x * P.x) := by clear h hy; grind
 rw [e, h]
 decide +kernel
theorem y_zero_two {P : Pt} (hy : P.y = 0) : padd P P = ⟨0, -1, by unfold On; decide +kernel⟩ := by
 have hx := y_zero_sq hy
 refine (padd_of ?_ ?_).symm
 ·show (0 : Fp) * _ = P.x * P.y + P.x * P.y
  rw [hy, Fin.zero_mul, Fin.mul_zero, Fin.add_zero]
 ·show (-1 : Fp) * (1 - dF * (P.x * P.x * (P.y * P.y))) = P.y * P.y + P.x * P.x
  rw [hx, hy, Fin.mul_zero, Fin.mul_zero, Fin.mul_zero]
  decide +kernel
theorem y_zero_four {P : Pt} (hy : P.y = 0) : pmul 4 P = pzero := by
 have e2 : pmul (1 + 1) P = padd P P := by rw [pmul_add, pmul_one]
 have e4 : pmul ((1 + 1) + (1 + 1)) P = padd (padd P P) (padd P P) := by rw [pmul_add, e2]
 refine Eq.trans e4 ?_
 rw [y_zero_two hy, ← qP_two, qP_four]
theorem no_sig_core {k a : Nat} {R : Pt} (e2 : enc R = 0) (h : pmul 0 bP = padd R (pmul k (pmul a bP))) : False := by
 rw [pmul_zero, ← pmul_mul] at h
 have hy : R.y = 0 := by
  apply Fin.ext
  rw [← enc_y R, e2]
  rfl
 have h0 := order_four (y_zero_four hy) _ h.symm
 rw [h0] at hy
 exact absurd hy (by decide +kernel)
theorem noughts_drop : leN ((List.replicate 64 (0 : UInt8)).drop 32) = 0 := by decide +kernel
theorem noughts_take : leN ((List.replicate 64 (0 : UInt8)).take 32) = 0 := by decide +kernel
theorem no_sig_any {g : List UInt8} (e1 : leN (g.drop 32) = 0) (e2 : leN (g.take 32) = 0) (s m : List UInt8) : ¬ edVer (edPub s) g m := by
 rintro ⟨_, A, R, hA, hR, h⟩
 have hA2 : A = pmul (leN (secA s)) bP := encB_inj hA
 have e3 : enc R = 0 := by rw [← leN_encB, hR, e2]
 rw [hA2, e1] at h
 exact no_sig_core e3 h
theorem no_sig (s m : List UInt8) : ¬ edVer (edPub s) (List.replicate 64 0) m := no_sig_any noughts_drop noughts_take s m
theorem may_above {l : List UInt8} (h : pN ≤ leN l % 2 ^ 255) : ¬ edMay l := by
 rintro ⟨P, rfl⟩
 rw [leN_encB, enc_y] at h
 have := P.y.isLt
 omega
noncomputable def mayB (n : List UInt8) : Bool := @decide (edMay n) (Classical.propDecidable _)
noncomputable def verB (key g m : List UInt8) : Bool := @decide (edVer key g m) (Classical.propDecidable _)
theorem mayB_true {n : List UInt8} (h : edMay n) : mayB n = true := @decide_eq_true _ (Classical.propDecidable _) h
theorem mayB_false {n : List UInt8} (h : ¬ edMay n) : mayB n = false := @decide_eq_false _ (Classical.propDecidable _) h
theorem verB_true {k g m : List UInt8} (h : edVer k g m) : verB k g m = true := @decide_eq_true _ (Classical.propDecidable _) h
theorem verB_false {k g m : List UInt8} (h : ¬ edVer k g m) : verB k g m = false := @decide_eq_false _ (Classical.propDecidable _) h
theorem is_x {s : ES} {P : Pt} (h : s.is P) : s.x * fi s.z = P.x := by
 obtain ⟨h0, h1, h2, h3⟩ := h
 rw [h1, Fin.mul_assoc, f_inv h0, Fin.mul_one]
theorem is_y {s : ES} {P : Pt} (h : s.is P) : s.y * fi s.z = P.y := by
 obtain ⟨h0, h1, h2, h3⟩ := h
 rw [h2, Fin.mul_assoc, f_inv h0, Fin.mul_one]
theorem leN_set : ∀ (l : List UInt8) (i : Nat) (z : UInt8), i < l.length → leN (l.set i z) + 256 ^ i * (l.getD i 0).toNat = leN l + 256 ^ i * z.toNat
 | [], i, z, h => by simp at h
 | a :: l, 0, z, h => by
  simp only [List.set_cons_zero, leN, List.getD_cons_zero, Nat.pow_zero, Nat.one_mul]
  omega
 | a :: l, i + 1, z, h => by
  have ih := leN_set l i z (by simpa using h)
  simp only [List.set_cons_succ, leN, List.getD_cons_succ, Nat.pow_succ]
  have e1 : 256 ^ i * 256 * (l.getD i 0).toNat = 256 * (256 ^ i * (l.getD i 0).toNat) := by rw [Nat.mul_comm (256 ^ i) 256, Nat.mul_assoc]
  have e2 : 256 ^ i * 256 * z.toNat = 256 * (256 ^ i * z.toNat) := by rw [Nat.mul_comm (256 ^ i) 256, Nat.mul_assoc]
  rw [e1, e2]
  omega
theorem u8_or128 (b : UInt8) (h : b.toNat < 128) : (b ||| 128).toNat = b.toNat + 128 := by
 have hh : ∀ n : Fin 128, ((UInt8.ofNat n.val) ||| 128).toNat = n.val + 128 := by decide +kernel
 have := hh ⟨b.toNat, h⟩
 simpa using this
theorem set_high {f : Fp} : (nbF f).set 31 ((nbF f).getD 31 0 ||| 128) = bytesN 32 (f.val + 2 ^ 255) := by
 have hl := nbF_length f
 have h1 := leN_set (nbF f) 31 ((nbF f).getD 31 0 ||| 128) (by omega)
 rw [u8_or128 _ (nbF_top f)] at h1
 have h2 : leN (nbF f) = f.val := by
  unfold nbF
  rw [leN_bytesN, Nat.mod_eq_of_lt (Nat.lt_trans f.isLt (by decide +kernel))]
 have e : (256 : Nat) ^ 31 * 128 = 2 ^ 255 := by decide +kernel
 rw [Nat.mul_add, e, h2] at h1
 have h3 : leN ((nbF f).set 31 ((nbF f).getD 31 0 ||| 128)) = f.val + 2 ^ 255 := by omega
 have h4 := bytesN_leN ((nbF f).set 31 ((nbF f).getD 31 0 ||| 128))
 rw [h3, List.length_set, hl] at h4
 exact h4.symm
theorem nbF_odd (f : Fp) : ((nbF f).getD 0 0).toNat % 2 = f.val % 2 := by
 unfold nbF
 rw [bytesN_getD 32 f.val 0 (by omega)]
 omega
theorem enc_odd {P : Pt} (h : P.x.val % 2 = 1) : (nbF P.y).set 31 ((nbF P.y).getD 31 0 ||| 128) = encB P := by
 rw [set_high]
 unfold encB enc
 rw [h, Nat.mul_one]
theorem enc_even {P : Pt} (h : P.x.val % 2 = 0) : (nbF P.y).set 31 ((nbF P.y).getD 31 0 ||| 0) = encB P := by
 rw [UInt8.or_zero]
 have e : (nbF P.y).set 31 ((nbF P.y).getD 31 0) = nbF P.y := by
  have := mask_id (nbF_length P.y) (nbF_top P.y)
  unfold maskB at this
  rwa [u8_mask _ (nbF_top P.y)] at this
 rw [e]
 unfold encB enc
 rw [h, Nat.mul_zero, Nat.add_zero]
 rfl
def yB (n : List UInt8) : List UInt8 := maskB n
def bitN (n : List UInt8) : Nat := (n.getD 31 0).toNat / 128
theorem bitN_lt (n : List UInt8) : bitN n < 2 := by
 have := (n.getD 31 0).toNat_lt
 unfold bitN
 omega
theorem u8_and127 (b : UInt8) : (b &&& 127).toNat + 128 * (b.toNat / 128) = b.toNat := by
 have hh : ∀ n : Fin 256, ((UInt8.ofNat n.val) &&& 127).toNat + 128 * (n.val / 128) = n.val := by decide +kernel
 have := hh ⟨b.toNat, b.toNat_lt⟩
 simpa using this
theorem leN_y {n : List UInt8} (h : n.length = 32) : leN n = leN (yB n) + 2 ^ 255 * bitN n := by
 have h1 := leN_set n 31 (n.getD 31 0 &&& 127) (by omega)
 have h2 := u8_and127 (n.getD 31 0)
 have e : (256 : Nat) ^ 31 * 128 = 2 ^ 255 := by decide +kernel
 unfold yB maskB bitN
 rw [← e, Nat.mul_assoc]
 rw [← h2, Nat.mul_add] at h1
 omega
theorem leN_yB_lt {n : List UInt8} (h : n.length = 32) : leN (yB n) < 2 ^ 255 := by
 refine leN_top (maskB_length h) ?_
 unfold yB maskB
 rw [getD_set_self _ 31 _ (by omega)]
 have hh : ∀ m : Fin 256, ((UInt8.ofNat m.val) &&& 127).toNat < 128 := by decide +kernel
 have := hh ⟨(n.getD 31 0).toNat, (n.getD 31 0).toNat_lt⟩
 simpa using this
theorem may_no_y {n : List UInt8} (h : n.length = 32) (hp : pN ≤ leN (yB n)) : ¬ edMay n := by
 refine may_above ?_
 rw [leN_y h, Nat.add_mul_mod_self_left, Nat.mod_eq_of_lt (leN_yB_lt h)]
 exact hp
theorem fp_y {n : List UInt8} (hp : leN (yB n) < pN) : (fp ((leN (yB n) : Nat) : Int)).val = leN (yB n) := by
 rw [fp_val]
 have e : pP = ((pN : Nat) : Int) := by decide +kernel
 rw [e, ← Int.natCast_emod, Int.toNat_natCast, Nat.mod_eq_of_lt hp]
theorem may_no_root {n : List UInt8} (h : n.length = 32) (hp : leN (yB n) < pN) (hr : ∀ x : Fp, x * x ≠ rad (fp ((leN (yB n) : Nat) : Int))) : ¬ edMay n := by
 rintro ⟨P, rfl⟩
 refine no_point (y := fp ((leN (yB (encB P)) : Nat) : Int)) (bitN_lt (encB P)) (fun x hx => absurd hx (hr x)) P ?_
 rw [fp_y hp, ← leN_y h, leN_encB]
theorem may_no_bit {n : List UInt8} (h : n.length = 32) (hp : leN (yB n) < pN) (hb : bitN n = 1) (hr : rad (fp ((leN (yB n) : Nat) : Int)) = 0) : ¬ edMay n := by
 rintro ⟨P, rfl⟩
 refine no_point (y := fp ((leN (yB (encB P)) : Nat) : Int)) (bitN_lt (encB P)) (fun x hx => ⟨?_, hb⟩) P ?_
 ·rw [hr] at hx
  rcases f_dom hx with h | h <;> exact h
 ·rw [fp_y hp, ← leN_y h, leN_encB]
theorem read_enc {n : List UInt8} (h : n.length = 32) (hp : leN (yB n) < pN) {x : Fp} (hx : x * x = rad (fp ((leN (yB n) : Nat) : Int))) (h0 : ¬ (x = 0 ∧ bitN n = 1)) : encB (readP x (fp ((leN (yB n) : Nat) : Int)) (bitN n) hx) = n := by
 unfold encB
 rw [readP_enc hx (bitN_lt n) h0, fp_y hp, ← leN_y h]
 have := bytesN_leN n
 rwa [h] at this
def ES.dbl (p : ES) : ES :=
 let x := p.x * p.x
 let y := p.y * p.y
 let both := (p.x + p.y) * (p.x + p.y)
 let more := y + x
 let less := y - x
 let z := p.z * p.z + p.z * p.z
 ⟨(both - more) * (z - less), more * less, less * (z - less), (both - more) * more⟩
def ES.neg (p : ES) : ES := ⟨0 - p.x, p.y, p.z, 0 - p.t⟩
def pkF (s : Bool) (f g : Fp) : Fp := if s then g else f
def ES.pk (s : Bool) (p q : ES) : ES := ⟨pkF s p.x q.x, pkF s p.y q.y, pkF s p.z q.z, pkF s p.t q.t⟩
theorem ES.pk_true (p q : ES) : ES.pk true p q = q := rfl
theorem ES.pk_false (p q : ES) : ES.pk false p q = p := rfl
theorem ES.is.neg {p : ES} {P : Pt} (hp : p.is P) : p.neg.is (pneg P) := by
 obtain ⟨hz, hx, hy, ht⟩ := hp
 refine ⟨hz, ?_, hy, ?_⟩
 ·show 0 - p.x = -P.x * p.z
  rw [hx]
  clear hx hy ht hz
  grind
 ·show 0 - p.t = -P.x * P.y * p.z
  rw [ht]
  clear hx hy ht hz
  grind
theorem crvdbl_core {u v z d x3 y3 : Fp} (hon : v * v - u * u = 1 + d * (u * u * (v * v))) (hx : x3 * (1 + d * (u * u * (v * v))) = u * v + u * v) (hy : y3 * (1 - d * (u * u * (v * v))) = v * v + u * u) :
  let x := u * z * (u * z)
  let y := v * z * (v * z)
  let both := (u * z + v * z) * (u * z + v * z)
  let more := y + x
  let less := y - x
  let e := z * z + z * z
  (both - more) = x3 * less ∧ more = y3 * (e - less) ∧ less = z * z * (1 + d * (u * u * (v * v))) ∧ (e - less) = z * z * (1 - d * (u * u * (v * v))) := by
 intro x y both more less e
 have hl : less = z * z * (1 + d * (u * u * (v * v))) := by
  show v * z * (v * z) - u * z * (u * z) = _
  refine lin (z * z) hon ?_
  clear hon hx hy
  grind
 have hm : e - less = z * z * (1 - d * (u * u * (v * v))) := by
  show z * z + z * z - less = _
  rw [hl]
  clear hon hx hy hl
  grind
 refine ⟨?_, ?_, hl, hm⟩
 ·rw [hl]
  have r : x3 * (z * z * (1 + d * (u * u * (v * v)))) = z * z * (x3 * (1 + d * (u * u * (v * v)))) := by clear hon hx hy hl hm; grind
  rw [r, hx]
  show (u * z + v * z) * (u * z + v * z) - (v * z * (v * z) + u * z * (u * z)) = _
  clear hon hx hy hl hm r
  grind
 ·rw [hm]
  have r : y3 * (z * z * (1 - d * (u * u * (v * v)))) = z * z * (y3 * (1 - d * (u * u * (v * v)))) := by clear hon hx hy hl hm; grind
  rw [r, hy]
  show v * z * (v * z) + u * z * (u * z) = _
  clear hon hx hy hl hm r
  grind
theorem ext_dbl {P : Pt} {X Y Z T : Fp} (h : PX P X Y Z T) :
  let x := X * X
  let y := Y * Y
  let both := (X + Y) * (X + Y)
  let more := y + x
  let less := y - x
  let z := Z * Z + Z * Z
  PX (padd P P) ((both - more) * (z - less)) (more * less) (less * (z - less)) ((both - more) * more) := by
 obtain ⟨hz, hx, hy, ht⟩ := h
 subst hx hy ht
 intro x y both more less z
 have hon := P.on
 unfold On at hon
 have px := padd_x P P
 have py := padd_y P P
 obtain ⟨k1, k2, k3, k4⟩ := crvdbl_core (z := Z) hon px py
 have n1 : less ≠ 0 := by
  show P.y * Z * (P.y * Z) - P.x * Z * (P.x * Z) ≠ 0
  rw [k3]
  exact f_mul_ne (f_mul_ne hz hz) (on_plus P.on P.on)
 have n2 : z - less ≠ 0 := by
  show Z * Z + Z * Z - (P.y * Z * (P.y * Z) - P.x * Z * (P.x * Z)) ≠ 0
  rw [k4]
  exact f_mul_ne (f_mul_ne hz hz) (on_minus P.on P.on)
 have m1 : both - more = (padd P P).x * less := k1
 have m2 : more = (padd P P).y * (z - less) := k2
 clear k1 k2 k3 k4 px py hon
 unfold PX
 generalize (padd P P).x = a at *
 generalize (padd P P).y = b at *
 generalize both - more = h at *
 generalize hmo : more = i at *
 generalize z - less = f at *
 generalize hle : less = g at *
 clear hmo hle
 clear x y both more less z
 subst m1 m2
 refine ⟨f_mul_ne n1 n2, ?_, ?_, ?_⟩
 ·clear n1 n2 hz; grind
 ·clear n1 n2 hz; grind
 ·clear n1 n2 hz; grind
theorem ES.is.dbl {p : ES} {P : Pt} (hp : p.is P) : p.dbl.is (padd P P) := ext_dbl hp
def crun (p : ES) (n : Nat) : Nat → ES
 | 0 => esZero
 | t + 1 => ES.pk (n.testBit (254 - t)) (crun p n t).dbl ((crun p n t).dbl.sum p)
theorem shr_step (n m : Nat) : n >>> m = 2 * (n >>> (m + 1)) + (n.testBit m).toNat := by
 rw [Nat.shiftRight_succ, Nat.testBit_eq_decide_div_mod_eq, ← Nat.shiftRight_eq_div_pow]
 generalize n >>> m = k
 by_cases h : k % 2 = 1
 ·rw [decide_eq_true h]
  show k = 2 * (k / 2) + 1
  omega
 ·rw [decide_eq_false h]
  show k = 2 * (k / 2) + 0
  omega
theorem shr_top {n m : Nat} (h : n < 2 ^ m) : n >>> m = 0 := by
 rw [Nat.shiftRight_eq_div_pow]
 exact Nat.div_eq_of_lt h
theorem crun_is {p : ES} {P : Pt} (hp : p.is P) {n : Nat} (hn : n < 2 ^ 255) : ∀ t, t ≤ 255 → (crun p n t).is (pmul (n >>> (255 - t)) P)
 | 0, _ => by
  rw [Nat.sub_zero, shr_top hn]
  exact esZero_is
 | t + 1, h => by
  have ih := crun_is hp hn t (by omega)
  have e1 : 255 - (t + 1) = 254 - t := by omega
  have e2 : 255 - t = 254 - t + 1 := by omega
  rw [e2] at ih
  rw [e1, shr_step]
  have hd := ih.dbl
  rw [← pmul_two] at hd
  show (ES.pk (n.testBit (254 - t)) (crun p n t).dbl ((crun p n t).dbl.sum p)).is _
  cases hb : n.testBit (254 - t)
  ·rw [ES.pk_false]; exact hd
  ·rw [ES.pk_true]; exact hd.sum hp
theorem crun_full {p : ES} {P : Pt} (hp : p.is P) {n : Nat} (hn : n < 2 ^ 255) : (crun p n 255).is (pmul n P) := by
 have := crun_is hp hn 255 (Nat.le_refl _)
 rwa [Nat.sub_self, Nat.shiftRight_zero] at this
def tstep (p q r : ES) (a b : Bool) : ES := if a then (if b then r.sum (p.sum q) else r.sum p) else (if b then r.sum q else r)
def trun (p q : ES) (m n : Nat) : Nat → ES
 | 0 => esZero
 | t + 1 => tstep p q (trun p q m n t).dbl (m.testBit (254 - t)) (n.testBit (254 - t))
theorem trun_is {p q : ES} {P Q : Pt} (hp : p.is P) (hq : q.is Q) {m n : Nat} (hm : m < 2 ^ 255) (hn : n < 2 ^ 255) : ∀ t, t ≤ 255 → (trun p q m n t).is (padd (pmul (m >>> (255 - t)) P) (pmul (n >>> (255 - t)) Q))
 | 0, _ => by
  rw [Nat.sub_zero, shr_top hn, shr_top hm, pmul_zero, pmul_zero, padd_zero]
  exact esZero_is
 | t + 1, h => by
  have ih := trun_is hp hq hm hn t (by omega)
  have e1 : 255 - (t + 1) = 254 - t := by omega
  have e2 : 255 - t = 254 - t + 1 := by omega
  rw [e2] at ih
  rw [e1, shr_step m, shr_step n]
  have hd := ih.dbl
  have hd2 : (trun p q m n t).dbl.is (padd (pmul (2 * (m >>> (254 - t + 1))) P) (pmul (2 * (n >>> (254 - t + 1))) Q)) := by
   rw [pmul_two, pmul_two]
   generalize pmul (m >>> (254 - t + 1)) P = A at *
   generalize pmul (n >>> (254 - t + 1)) Q = B at *
   have e : padd (padd A A) (padd B B) = padd (padd A B) (padd A B) := by
    rw [padd_assoc, padd_assoc A B, padd_left_comm A B B]
   rw [e]
   exact hd
  clear hd ih
  show (tstep p q (trun p q m n t).dbl (m.testBit (254 - t)) (n.testBit (254 - t))).is _
  generalize (trun p q m n t).dbl = r at *
  generalize 2 * (m >>> (254 - t + 1)) = a at *
  generalize 2 * (n >>> (254 - t + 1)) = b at *
  cases m.testBit (254 - t) <;> cases n.testBit (254 - t)
  ·exact hd2
  ·have h1 := hd2.sum hq
   rw [padd_assoc, ← pmul_succ] at h1
   exact h1
  ·have h1 := hd2.sum hp
   rw [padd_comm, ← padd_assoc, padd_comm P, ← pmul_succ] at h1
   exact h1
  ·have h1 := hd2.sum (hp.sum hq)
   have e : padd (padd (pmul a P) (pmul b Q)) (padd P Q) = padd (pmul (a + 1) P) (pmul (b + 1) Q) := by
    rw [pmul_succ, pmul_succ, padd_assoc, padd_assoc, padd_left_comm (pmul b Q)]
   rw [e] at h1
   exact h1
theorem trun_full {p q : ES} {P Q : Pt} (hp : p.is P) (hq : q.is Q) {m n : Nat} (hm : m < 2 ^ 255) (hn : n < 2 ^ 255) : (trun p q m n 255).is (padd (pmul m P) (pmul n Q)) := by
 have := trun_is hp hq hm hn 255 (Nat.le_refl _)
 rwa [Nat.sub_self, Nat.shiftRight_zero, Nat.shiftRight_zero] at this
def encS (s : ES) : List UInt8 := (nbF (s.y * fi s.z)).set 31 ((nbF (s.y * fi s.z)).getD 31 0 ||| ((nbF (s.x * fi s.z)).getD 0 0 <<< 7))
theorem u8_shl7 (b : UInt8) : b <<< 7 = if b.toNat % 2 = 1 then 128 else 0 := by
 have hh : ∀ n : Fin 256, (UInt8.ofNat n.val) <<< 7 = if n.val % 2 = 1 then 128 else 0 := by decide +kernel
 have := hh ⟨b.toNat, b.toNat_lt⟩
 simpa using this
theorem encS_is {s : ES} {P : Pt} (h : s.is P) : encS s = encB P := by
 unfold encS
 rw [is_x h, is_y h, u8_shl7, nbF_odd]
 by_cases hp : P.x.val % 2 = 1
 ·rw [if_pos hp]
  exact enc_odd hp
 ·rw [if_neg hp]
  exact enc_even (by omega)
theorem encS_length (s : ES) : (encS s).length = 32 := by
 unfold encS
 rw [List.length_set, nbF_length]
noncomputable def decE (n : List UInt8) : ES := @dite _ (edMay n) (Classical.propDecidable _) (fun h => (Classical.choose h).es) (fun _ => ⟨0, 0, 0, 0⟩)
theorem decE_enc (P : Pt) : decE (encB P) = P.es := by
 have h : edMay (encB P) := ⟨P, rfl⟩
 have e := encB_inj (Classical.choose_spec h)
 unfold decE
 rw [dif_pos h, e]
theorem decE_not {n : List UInt8} (h : ¬ edMay n) : decE n = ⟨0, 0, 0, 0⟩ := by
 unfold decE
 rw [dif_neg h]
theorem decE_of {n : List UInt8} {P : Pt} (h : encB P = n) : decE n = P.es := by rw [← h, decE_enc]
theorem pneg_pzero : pneg pzero = pzero := (pneg_of (by rw [padd_zero])).symm
theorem pneg_padd (P Q : Pt) : pneg (padd P Q) = padd (pneg P) (pneg Q) := by
 refine (pneg_of ?_).symm
 rw [padd_assoc, padd_left_comm Q, padd_neg, padd_zero, padd_neg]
theorem pmul_neg (P : Pt) : ∀ n, pmul n (pneg P) = pneg (pmul n P)
 | 0 => by rw [pmul_zero, pmul_zero, pneg_pzero]
 | n + 1 => by rw [pmul_succ, pmul_succ, pmul_neg P n, pneg_padd]
theorem padd_move {X Y R : Pt} : padd X (pneg Y) = R ↔ X = padd R Y := by
 constructor
 ·rintro rfl
  rw [padd_assoc, padd_comm (pneg Y), padd_neg, padd_zero]
 ·rintro rfl
  rw [padd_assoc, padd_neg, padd_zero]
theorem ver_code {key g m : List UInt8} {A : Pt} (hA : encB A = key) :
  edVer key g m ↔ lessB (g.drop 32) = true ∧ encB (padd (pmul (leN (g.drop 32)) bP) (pmul (leN (wideB (g.take 32 ++ (key ++ m)))) (pneg A))) = g.take 32 := by
 constructor
 ·rintro ⟨h1, A', R, h2, h3, h4⟩
  obtain rfl := encB_inj (h2.trans hA.symm)
  refine ⟨h1, ?_⟩
  rw [pmul_neg, padd_move.2 h4, h3]
 ·rintro ⟨h1, h2⟩
  refine ⟨h1, A, _, hA, h2, ?_⟩
  rw [pmul_neg]
  exact padd_move.1 rfl
theorem ver_no_key {key g m : List UInt8} (h : ¬ edMay key) : ¬ edVer key g m := by
 rintro ⟨_, A, R, hA, _⟩
 exact h ⟨A, hA⟩
def F32 (l : List UInt8) (f : Fp) : Prop := l.length = 32 ∧ fp (leN l) = f
theorem leN_nbF (f : Fp) : leN (nbF f) = f.val := by
 have h2 := leN_bytesN 32 f.val
 have h3 : f.val < 256 ^ 32 := Nat.lt_trans f.isLt (by decide +kernel)
 rw [Nat.mod_eq_of_lt h3] at h2
 exact h2
theorem F32.nb (f : Fp) : F32 (nbF f) f := ⟨nbF_length f, by rw [leN_nbF, fp_self]⟩
def pkL (s : Bool) (a b : List UInt8) : List UInt8 := if s then b else a
theorem nb_nbF (x : Int) : numP x = .agg ((nbF (fp x)).map bval).toArray := rfl
theorem nbF_inj {f g : Fp} (h : nbF f = nbF g) : f = g := by
 have h1 := congrArg leN h
 rw [leN_nbF, leN_nbF] at h1
 exact Fin.ext h1
section
section
variable {P : Program} {ops : Array Oper} {Q : Exit → Act → World → Prop} {md : Region.Mode} {t : Nat} {C : World → Prop} {D : Act → Prop}
theorem det_loadk {o : Oper} {rest : List Oper} {a : Act} (ty : TypeId) (x : Operand) (c k : Nat) (cs : List Value) (d : TypeDesc) (hw : Region.wanted o (yielded ops a.tmps) = true) (ho : o.op = .load ty x)
  (hx : a.eval x = .pointer (some ⟨c, k, none⟩)) (hC : ∀ w, C w → w.rangeAt c k cs) (hu : P.underlying ty = some d) (hd : d.isRow = true) (hi : (P.info? ty).map (·.size) = some cs.length)
  (next : wpDet P ops C D rest (a.put o.dst (.agg cs.toArray))) : wpDet P ops C D (o :: rest) a := by
 rcases yieldsIf_load_mid (S := C) hw ty x ho c k hx cs d hC hu hd hi with ⟨_, h⟩ | ⟨h, _⟩
 ·exact det_val _ hw h next
 ·rw [hw] at h; cases h
theorem det_fieldk {o : Oper} {rest : List Oper} {a : Act} (ty : TypeId) (x : Operand) (c f i j : Nat) (hw : Region.wanted o (yielded ops a.tmps) = true) (ho : o.op = .fieldAddr ty x f) (hx : a.eval x = .pointer (some ⟨c, i, none⟩))
  (hr : ∀ w, (Instr.fieldAt ty (.pointer (some ⟨c, i, none⟩)) f).run P w = .ok (.pointer (some ⟨c, j, none⟩)) w)
  (next : wpDet P ops C D rest (a.put o.dst (.pointer (some ⟨c, j, none⟩)))) : wpDet P ops C D (o :: rest) a :=
 det_val _ hw (fun w _ => by unfold execOp; simp only [ho, hx, Sem.run_bind, hr, Result.andThen_ok, Sem.run_pure]) next
theorem det_build {o : Oper} {rest : List Oper} {a : Act} (ty : TypeId) (parts : Array (Nat × Operand)) (vs : Array (Nat × Value)) (v : Value) (hw : Region.wanted o (yielded ops a.tmps) = true) (ho : o.op = .build ty parts)
  (hp : parts.map (fun (i, x) => (i, a.eval x)) = vs) (hr : ∀ w, (Instr.build ty vs).run P w = .ok v w)
  (next : wpDet P ops C D rest (a.put o.dst v)) : wpDet P ops C D (o :: rest) a :=
 det_val v hw (fun w _ => by
  subst hp
  unfold execOp
  simp only [ho, Sem.run_bind, hr, Result.andThen_ok, Sem.run_pure]) next
theorem det_eqi {o : Oper} {rest : List Oper} {a : Act} (k : IntKind) (ty rt : TypeId) (x y : Operand) (b c : Int) (r : Bool) (hw : Region.wanted o (yielded ops a.tmps) = true) (ho : o.op = .binOp .eql ty x y rt) (hx : a.eval x = .int k b) (hy : a.eval y = .int k c) (hr : decide (b = c) = r)
  (next : wpDet P ops C D rest (a.put o.dst (.bool r))) : wpDet P ops C D (o :: rest) a :=
 det_val _ hw (fun w _ => by
  subst hr
  unfold execOp
  simp only [ho, hx, hy]
  simp [eqGuard, binOp, Op.intCmp, Result.andThen]
  try rw [Bool.eq_iff_iff]; simp) next
end
theorem rng_lo {w : World} {c o : Nat} {a b : List Value} (h : w.rangeAt c o (a ++ b)) : w.rangeAt c o a := fun j v hj => by
 have hjl : j < a.length := by
  rcases Nat.lt_or_ge j a.length with h' | h'
  ·exact h'
  ·rw [List.getElem?_eq_none h'] at hj; cases hj
 exact h j v (by rw [List.getElem?_append_left hjl]; exact hj)
theorem rng_hi {w : World} {c o m k : Nat} {a b : List Value} (h : w.rangeAt c o (a ++ b)) (hm : a.length = m) (hk : o + m = k) : w.rangeAt c k b := fun j v hj => by
 have e := h (m + j) v (by rw [List.getElem?_append_right (by omega), ← hm, Nat.add_sub_cancel_left]; exact hj)
 rw [← Nat.add_assoc, hk] at e
 exact e
end
section
section
variable {P : Program} {ops : Array Oper} {Q : Exit → Act → World → Prop} {md : Region.Mode} {t : Nat} {C : World → Prop} {D : Act → Prop}
theorem boxes5 (w : World) (a b c d e : List Value) (s t u v y : TypeId) :
  let w5 := ((((w.alloc (.cells a.toArray s)).alloc (.cells b.toArray t)).alloc (.cells c.toArray u)).alloc (.cells d.toArray v)).alloc (.cells e.toArray y)
  Blk w5 w.heap.size a s ∧ Blk w5 (w.heap.size + 1) b t ∧ Blk w5 (w.heap.size + 1 + 1) c u ∧ Blk w5 (w.heap.size + 1 + 1 + 1) d v ∧ Blk w5 (w.heap.size + 1 + 1 + 1 + 1) e y ∧ Below w.heap.size w w5 := by
 obtain ⟨h1, h2, h3, h4, h5⟩ := boxes4 w a b c d s t u v
 refine ⟨h1.alloc _, h2.alloc _, h3.alloc _, h4.alloc _, ?_, h5.alloc (by simp; omega) _⟩
 have := Blk.made ((((w.alloc (.cells a.toArray s)).alloc (.cells b.toArray t)).alloc (.cells c.toArray u)).alloc (.cells d.toArray v)) e y
 simpa using this
def ok3 (md : Region.Mode) (ops : Array Oper) (t : Nat) (listed : Array Bool) (k : Nat) : Bool :=
 (Region.ready md ops listed == [k, k + 1, k + 2]) &&
 (doneB t listed == false) &&
 (Region.ready md ops (listed.setIfInBounds k true) == [k + 1, k + 2]) &&
 (doneB t (listed.setIfInBounds k true) == false) &&
 (Region.ready md ops (listed.setIfInBounds (k + 1) true) == [k, k + 2]) &&
 (doneB t (listed.setIfInBounds (k + 1) true) == false) &&
 (Region.ready md ops (listed.setIfInBounds (k + 2) true) == [k, k + 1]) &&
 (doneB t (listed.setIfInBounds (k + 2) true) == false) &&
 (Region.ready md ops ((listed.setIfInBounds k true).setIfInBounds (k + 1) true) == [k + 2]) &&
 (doneB t ((listed.setIfInBounds k true).setIfInBounds (k + 1) true) == false) &&
 (Region.ready md ops ((listed.setIfInBounds k true).setIfInBounds (k + 2) true) == [k + 1]) &&
 (doneB t ((listed.setIfInBounds k true).setIfInBounds (k + 2) true) == false) &&
 (Region.ready md ops ((listed.setIfInBounds (k + 1) true).setIfInBounds (k + 2) true) == [k]) &&
 (doneB t ((listed.setIfInBounds (k + 1) true).setIfInBounds (k + 2) true) == false) &&
 (Region.ready md ops (((listed.setIfInBounds k true).setIfInBounds (k + 1) true).setIfInBounds (k + 2) true) == [k + 3]) &&
 (doneB t (((listed.setIfInBounds k true).setIfInBounds (k + 1) true).setIfInBounds (k + 2) true) == true) &&
 (Region.ready md ops ((((listed.setIfInBounds k true).setIfInBounds (k + 1) true).setIfInBounds (k + 2) true).setIfInBounds (k + 3) true) == [k + 4]) &&
 (Region.ready md ops (((((listed.setIfInBounds k true).setIfInBounds (k + 1) true).setIfInBounds (k + 2) true).setIfInBounds (k + 3) true).setIfInBounds (k + 4) true) == [k + 5]) &&
 (Region.ready md ops ((((((listed.setIfInBounds k true).setIfInBounds (k + 1) true).setIfInBounds (k + 2) true).setIfInBounds (k + 3) true).setIfInBounds (k + 4) true).setIfInBounds (k + 5) true) == [])
theorem set3_comm (l : Array Bool) {i j : Nat} (h : i ≠ j) : (l.setIfInBounds i true).setIfInBounds j true = (l.setIfInBounds j true).setIfInBounds i true := Array.setIfInBounds_comm _ _ h
theorem end_var3 {k : Nat} {o1 o2 o3 o4 o5 o6 : Oper} {listed : Array Bool} {a : Act} {w : World} (ty : TypeId) (d1 d2 d3 : Nat) (y1 y2 y3 : Operand) (zs vs1 vs2 vs3 : List Value)
  (hk1 : ops[k]? = some o1) (hk2 : ops[k + 1]? = some o2) (hk3 : ops[k + 2]? = some o3) (hk4 : ops[k + 3]? = some o4) (hk5 : ops[k + 4]? = some o5) (hk6 : ops[k + 5]? = some o6) (hok : ok3 md ops t listed k = true)
  (hg1 : o1.guard = none) (hg2 : o2.guard = none) (hg3 : o3.guard = none) (hg4 : o4.guard = none) (hg5 : o5.guard = none) (hg6 : o6.guard = none)
  (ho1 : o1.op = .alloc ty) (ho2 : o2.op = .alloc ty) (ho3 : o3.op = .alloc ty) (hd1 : o1.dst = some d1) (hd2 : o2.dst = some d2) (hd3 : o3.dst = some d3) (h12 : d1 ≠ d2) (h13 : d1 ≠ d3) (h23 : d2 ≠ d3)
  (hz : ∀ w, (zeroValue ty).run P w = .ok (.agg zs.toArray) w) (ho4 : o4.op = .store ty (.tmp d1) y1) (ho5 : o5.op = .store ty (.tmp d2) y2) (ho6 : o6.op = .store ty (.tmp d3) y3) (hn4 : o4.dst = none) (hn5 : o5.dst = none) (hn6 : o6.dst = none)
  (hs1 : d1 < a.tmps.size) (hs2 : d2 < a.tmps.size) (hs3 : d3 < a.tmps.size)
  (hy1 : ∀ p q r, (((a.put (some d1) (.pointer (some ⟨p, 0, none⟩))).put (some d2) (.pointer (some ⟨q, 0, none⟩))).put (some d3) (.pointer (some ⟨r, 0, none⟩))).eval y1 = .agg vs1.toArray) (hy2 : ∀ p q r, (((a.put (some d1) (.pointer (some ⟨p, 0, none⟩))).put (some d2) (.pointer (some ⟨q, 0, none⟩))).put (some d3) (.pointer (some ⟨r, 0, none⟩))).eval y2 = .agg vs2.toArray) (hy3 : ∀ p q r, (((a.put (some d1) (.pointer (some ⟨p, 0, none⟩))).put (some d2) (.pointer (some ⟨q, 0, none⟩))).put (some d3) (.pointer (some ⟨r, 0, none⟩))).eval y3 = .agg vs3.toArray)
  (hl1 : vs1.length = zs.length) (hl2 : vs2.length = zs.length) (hl3 : vs3.length = zs.length) (hi1 : (P.info? ty).map (·.size) = some vs1.length) (hi2 : (P.info? ty).map (·.size) = some vs2.length) (hi3 : (P.info? ty).map (·.size) = some vs3.length)
  (h1 : ∀ v ∈ vs1, v.oneCell' = true) (h2 : ∀ v ∈ vs2, v.oneCell' = true) (h3 : ∀ v ∈ vs3, v.oneCell' = true)
  (h : ∀ p q r w', p ≠ q → p ≠ r → q ≠ r → w.heap.size ≤ p → w.heap.size ≤ q → w.heap.size ≤ r → Blk w' p vs1 ty → Blk w' q vs2 ty → Blk w' r vs3 ty → Ext w w' → Q .normal (((a.put (some d1) (.pointer (some ⟨p, 0, none⟩))).put (some d2) (.pointer (some ⟨q, 0, none⟩))).put (some d3) (.pointer (some ⟨r, 0, none⟩))) w') :
  wpAnyB P md ops Q t 6 listed a w.drew := by
 unfold ok3 at hok
 simp only [Bool.and_eq_true, beq_iff_eq] at hok
 obtain ⟨⟨⟨⟨⟨⟨⟨⟨⟨⟨⟨⟨⟨⟨⟨⟨⟨⟨c0, c1⟩, c2⟩, c3⟩, c4⟩, c5⟩, c6⟩, c7⟩, c8⟩, c9⟩, c10⟩, c11⟩, c12⟩, c13⟩, c14⟩, c15⟩, c16⟩, c17⟩, c18⟩ := hok
 have tail : ∀ p q r w', Blk w' p zs ty → Blk w' q zs ty → Blk w' r zs ty → p ≠ q → p ≠ r → q ≠ r → w.heap.size ≤ p → w.heap.size ≤ q → w.heap.size ≤ r → Ext w w' →
   wpAny P md ops Q 3 (((listed.setIfInBounds k true).setIfInBounds (k + 1) true).setIfInBounds (k + 2) true) (((a.put (some d1) (.pointer (some ⟨p, 0, none⟩))).put (some d2) (.pointer (some ⟨q, 0, none⟩))).put (some d3) (.pointer (some ⟨r, 0, none⟩))) w' := by
  intro p q r w' b1 b2 b3 hpq hpr hqr hp hq hr he
  refine ⟨fun h0 => (by rw [c14] at h0; cases h0), fun i hi => ?_⟩
  rw [c14] at hi
  obtain rfl : i = k + 3 := by simpa using hi
  unfold wpOp
  simp only [hk4, Region.wanted, hg4, if_true]
  left
  refine wp_store_blk ty (.tmp d1) y1 ho4 p vs1 (by simp [Act.eval, Act.put, hs1, h12, h13, Ne.symm h12, Ne.symm h13]) (hy1 p q r) ty zs b1 hl1 hi1 h1 fun w2 s1 g1 => ?_
  rw [hn4]
  refine ⟨fun h0 => (by rw [c16] at h0; cases h0), fun j hj => ?_⟩
  rw [c16] at hj
  obtain rfl : j = k + 4 := by simpa using hj
  unfold wpOp
  simp only [hk5, Region.wanted, hg5, if_true]
  left
  refine wp_store_blk ty (.tmp d2) y2 ho5 q vs2 (by simp [Act.eval, Act.put, hs2, h23, Ne.symm h23]) (hy2 p q r) ty zs (b2.grown g1 (by simpa using hpq)) hl2 hi2 h2 fun w3 s2 g2 => ?_
  rw [hn5]
  refine ⟨fun h0 => (by rw [c17] at h0; cases h0), fun j hj => ?_⟩
  rw [c17] at hj
  obtain rfl : j = k + 5 := by simpa using hj
  unfold wpOp
  simp only [hk6, Region.wanted, hg6, if_true]
  left
  refine wp_store_blk ty (.tmp d3) y3 ho6 r vs3 (by simp [Act.eval, Act.put, hs3]) (hy3 p q r) ty zs ((b3.grown g1 (by simpa using hpr)).grown g2 (by simpa using hqr)) hl3 hi3 h3 fun w4 s3 g3 => ?_
  rw [hn6]
  refine ⟨c18, h p q r w4 hpq hpr hqr hp hq hr ((s1.grown g2 (by simpa using fun e => hpq e.symm)).grown g3 (by simpa using fun e => hpr e.symm)) (s2.grown g3 (by simpa using fun e => hqr e.symm)) s3 (ext_grown (ext_grown (ext_grown he g1 hp) g2 hq) g3 hr)⟩
 refine ⟨fun h0 => (by rw [c1] at h0; cases h0), fun _ w1 hw1 => ⟨by rw [c0]; simp, fun i hi => ?_⟩⟩
 rw [c0] at hi
 have he1 : Ext w w1 := (Ext.drew w).trans hw1
 simp only [List.mem_cons, List.not_mem_nil, or_false] at hi
 rcases hi with hi | hi | hi
 ·rw [hi]
  unfold wpOp
  simp only [hk1, Region.wanted, hg1, if_true]
  left
  unfold Oper.wp
  rw [run_alloc_zero ho1 hz]
  simp only [Oper.upon, hd1]
  refine ⟨Ext.alloc _ _, fun h0 => (by rw [c3] at h0; cases h0), fun _ w2 hw2 => ⟨by rw [c2]; simp, fun j hj => ?_⟩⟩
  rw [c2] at hj
  simp only [List.mem_cons, List.not_mem_nil, or_false] at hj
  have hb1 : Blk w2 w1.heap.size zs ty := ext_blk (Blk.made w1 zs ty) hw2
  rcases hj with hj | hj
  ·rw [hj]
   unfold wpOp
   simp only [hk2, Region.wanted, hg2, if_true]
   left
   unfold Oper.wp
   rw [run_alloc_zero ho2 hz]
   simp only [Oper.upon, hd2]
   refine ⟨Ext.alloc _ _, fun h0 => (by rw [c9] at h0; cases h0), fun _ w3 hw3 => ⟨by rw [c8]; simp, fun x hx => ?_⟩⟩
   rw [c8] at hx
   rw [show x = k + 2 by simpa using hx]
   have hb2 : Blk w3 w2.heap.size zs ty := ext_blk (Blk.made w2 zs ty) hw3
   unfold wpOp
   simp only [hk3, Region.wanted, hg3, if_true]
   left
   unfold Oper.wp
   rw [run_alloc_zero ho3 hz]
   simp only [Oper.upon, hd3]
   refine ⟨Ext.alloc _ _, fun _ w4 hw4 => ?_, fun h0 => (by rw [c15] at h0; cases h0)⟩
   have q1 : w1.heap.size < w2.heap.size := hb1.lt
   have q2 : w2.heap.size < w3.heap.size := hb2.lt
   have s1 : w.heap.size ≤ w1.heap.size := he1.size
   have s2 : w.heap.size ≤ w2.heap.size := by omega
   have s3 : w.heap.size ≤ w3.heap.size := by omega
   exact tail _ _ _ w4 (ext_blk (ext_blk (ext_blk (ext_blk hb1 (Ext.alloc w2 _)) hw3) (Ext.alloc w3 _)) hw4) (ext_blk (ext_blk hb2 (Ext.alloc w3 _)) hw4) (ext_blk (Blk.made w3 zs ty) hw4) (by omega) (by omega) (by omega) s1 s2 s3 (((((he1.trans (Ext.alloc _ _)).trans hw2).trans (Ext.alloc _ _)).trans hw3).trans ((Ext.alloc _ _).trans hw4))
  ·rw [hj]
   unfold wpOp
   simp only [hk3, Region.wanted, hg3, if_true]
   left
   unfold Oper.wp
   rw [run_alloc_zero ho3 hz]
   simp only [Oper.upon, hd3]
   refine ⟨Ext.alloc _ _, fun h0 => (by rw [c11] at h0; cases h0), fun _ w3 hw3 => ⟨by rw [c10]; simp, fun x hx => ?_⟩⟩
   rw [c10] at hx
   rw [show x = k + 1 by simpa using hx]
   have hb2 : Blk w3 w2.heap.size zs ty := ext_blk (Blk.made w2 zs ty) hw3
   unfold wpOp
   simp only [hk2, Region.wanted, hg2, if_true]
   left
   unfold Oper.wp
   rw [run_alloc_zero ho2 hz]
   simp only [Oper.upon, hd2]
   rw [set3_comm (listed.setIfInBounds k true) (by omega : k + 2 ≠ k + 1)]
   have ea : (((a.put (some d1) (.pointer (some ⟨w1.heap.size, 0, none⟩))).put (some d3) (.pointer (some ⟨w2.heap.size, 0, none⟩))).put (some d2) (.pointer (some ⟨w3.heap.size, 0, none⟩))) = (((a.put (some d1) (.pointer (some ⟨w1.heap.size, 0, none⟩))).put (some d2) (.pointer (some ⟨w3.heap.size, 0, none⟩))).put (some d3) (.pointer (some ⟨w2.heap.size, 0, none⟩))) := by
    rw [Act.put_comm (a.put (some d1) (.pointer (some ⟨w1.heap.size, 0, none⟩))) (x := some d3) (y := some d2) (.pointer (some ⟨w2.heap.size, 0, none⟩)) (.pointer (some ⟨w3.heap.size, 0, none⟩)) (fun d hd he => by have e1 := Option.some.inj hd; have e2 := Option.some.inj he; exact h23 (e2.trans e1.symm))]
   rw [ea]
   refine ⟨Ext.alloc _ _, fun _ w4 hw4 => ?_, fun h0 => (by rw [c15] at h0; cases h0)⟩
   have q1 : w1.heap.size < w2.heap.size := hb1.lt
   have q2 : w2.heap.size < w3.heap.size := hb2.lt
   have s1 : w.heap.size ≤ w1.heap.size := he1.size
   have s2 : w.heap.size ≤ w2.heap.size := by omega
   have s3 : w.heap.size ≤ w3.heap.size := by omega
   exact tail _ _ _ w4 (ext_blk (ext_blk (ext_blk (ext_blk hb1 (Ext.alloc w2 _)) hw3) (Ext.alloc w3 _)) hw4) (ext_blk (Blk.made w3 zs ty) hw4) (ext_blk (ext_blk hb2 (Ext.alloc w3 _)) hw4) (by omega) (by omega) (by omega) s1 s3 s2 (((((he1.trans (Ext.alloc _ _)).trans hw2).trans (Ext.alloc _ _)).trans hw3).trans ((Ext.alloc _ _).trans hw4))
 ·rw [hi]
  unfold wpOp
  simp only [hk2, Region.wanted, hg2, if_true]
  left
  unfold Oper.wp
  rw [run_alloc_zero ho2 hz]
  simp only [Oper.upon, hd2]
  refine ⟨Ext.alloc _ _, fun h0 => (by rw [c5] at h0; cases h0), fun _ w2 hw2 => ⟨by rw [c4]; simp, fun j hj => ?_⟩⟩
  rw [c4] at hj
  simp only [List.mem_cons, List.not_mem_nil, or_false] at hj
  have hb1 : Blk w2 w1.heap.size zs ty := ext_blk (Blk.made w1 zs ty) hw2
  rcases hj with hj | hj
  ·rw [hj]
   unfold wpOp
   simp only [hk1, Region.wanted, hg1, if_true]
   left
   unfold Oper.wp
   rw [run_alloc_zero ho1 hz]
   simp only [Oper.upon, hd1]
   rw [set3_comm listed (by omega : k + 1 ≠ k)]
   refine ⟨Ext.alloc _ _, fun h0 => (by rw [c9] at h0; cases h0), fun _ w3 hw3 => ⟨by rw [c8]; simp, fun x hx => ?_⟩⟩
   rw [c8] at hx
   rw [show x = k + 2 by simpa using hx]
   have hb2 : Blk w3 w2.heap.size zs ty := ext_blk (Blk.made w2 zs ty) hw3
   unfold wpOp
   simp only [hk3, Region.wanted, hg3, if_true]
   left
   unfold Oper.wp
   rw [run_alloc_zero ho3 hz]
   simp only [Oper.upon, hd3]
   have ea : (((a.put (some d2) (.pointer (some ⟨w1.heap.size, 0, none⟩))).put (some d1) (.pointer (some ⟨w2.heap.size, 0, none⟩))).put (some d3) (.pointer (some ⟨w3.heap.size, 0, none⟩))) = (((a.put (some d1) (.pointer (some ⟨w2.heap.size, 0, none⟩))).put (some d2) (.pointer (some ⟨w1.heap.size, 0, none⟩))).put (some d3) (.pointer (some ⟨w3.heap.size, 0, none⟩))) := by
    rw [Act.put_comm a (x := some d2) (y := some d1) (.pointer (some ⟨w1.heap.size, 0, none⟩)) (.pointer (some ⟨w2.heap.size, 0, none⟩)) (fun d hd he => by have e1 := Option.some.inj hd; have e2 := Option.some.inj he; exact h12 (e2.trans e1.symm))]
   rw [ea]
   refine ⟨Ext.alloc _ _, fun _ w4 hw4 => ?_, fun h0 => (by rw [c15] at h0; cases h0)⟩
   have q1 : w1.heap.size < w2.heap.size := hb1.lt
   have q2 : w2.heap.size < w3.heap.size := hb2.lt
   have s1 : w.heap.size ≤ w1.heap.size := he1.size
   have s2 : w.heap.size ≤ w2.heap.size := by omega
   have s3 : w.heap.size ≤ w3.heap.size := by omega
   exact tail _ _ _ w4 (ext_blk (ext_blk hb2 (Ext.alloc w3 _)) hw4) (ext_blk (ext_blk (ext_blk (ext_blk hb1 (Ext.alloc w2 _)) hw3) (Ext.alloc w3 _)) hw4) (ext_blk (Blk.made w3 zs ty) hw4) (by omega) (by omega) (by omega) s2 s1 s3 (((((he1.trans (Ext.alloc _ _)).trans hw2).trans (Ext.alloc _ _)).trans hw3).trans ((Ext.alloc _ _).trans hw4))
  ·rw [hj]
   unfold wpOp
   simp only [hk3, Region.wanted, hg3, if_true]
   left
   unfold Oper.wp
   rw [run_alloc_zero ho3 hz]
   simp only [Oper.upon, hd3]
   refine ⟨Ext.alloc _ _, fun h0 => (by rw [c13] at h0; cases h0), fun _ w3 hw3 => ⟨by rw [c12]; simp, fun x hx => ?_⟩⟩
   rw [c12] at hx
   rw [show x = k by simpa using hx]
   have hb2 : Blk w3 w2.heap.size zs ty := ext_blk (Blk.made w2 zs ty) hw3
   unfold wpOp
   simp only [hk1, Region.wanted, hg1, if_true]
   left
   unfold Oper.wp
   rw [run_alloc_zero ho1 hz]
   simp only [Oper.upon, hd1]
   rw [set3_comm (listed.setIfInBounds (k + 1) true) (by omega : k + 2 ≠ k)]
   rw [set3_comm listed (by omega : k + 1 ≠ k)]
   have ea : (((a.put (some d2) (.pointer (some ⟨w1.heap.size, 0, none⟩))).put (some d3) (.pointer (some ⟨w2.heap.size, 0, none⟩))).put (some d1) (.pointer (some ⟨w3.heap.size, 0, none⟩))) = (((a.put (some d1) (.pointer (some ⟨w3.heap.size, 0, none⟩))).put (some d2) (.pointer (some ⟨w1.heap.size, 0, none⟩))).put (some d3) (.pointer (some ⟨w2.heap.size, 0, none⟩))) := by
    rw [Act.put_comm (a.put (some d2) (.pointer (some ⟨w1.heap.size, 0, none⟩))) (x := some d3) (y := some d1) (.pointer (some ⟨w2.heap.size, 0, none⟩)) (.pointer (some ⟨w3.heap.size, 0, none⟩)) (fun d hd he => by have e1 := Option.some.inj hd; have e2 := Option.some.inj he; exact h13 (e2.trans e1.symm))]
    rw [Act.put_comm a (x := some d2) (y := some d1) (.pointer (some ⟨w1.heap.size, 0, none⟩)) (.pointer (some ⟨w3.heap.size, 0, none⟩)) (fun d hd he => by have e1 := Option.some.inj hd; have e2 := Option.some.inj he; exact h12 (e2.trans e1.symm))]
   rw [ea]
   refine ⟨Ext.alloc _ _, fun _ w4 hw4 => ?_, fun h0 => (by rw [c15] at h0; cases h0)⟩
   have q1 : w1.heap.size < w2.heap.size := hb1.lt
   have q2 : w2.heap.size < w3.heap.size := hb2.lt
   have s1 : w.heap.size ≤ w1.heap.size := he1.size
   have s2 : w.heap.size ≤ w2.heap.size := by omega
   have s3 : w.heap.size ≤ w3.heap.size := by omega
   exact tail _ _ _ w4 (ext_blk (Blk.made w3 zs ty) hw4) (ext_blk (ext_blk (ext_blk (ext_blk hb1 (Ext.alloc w2 _)) hw3) (Ext.alloc w3 _)) hw4) (ext_blk (ext_blk hb2 (Ext.alloc w3 _)) hw4) (by omega) (by omega) (by omega) s3 s1 s2 (((((he1.trans (Ext.alloc _ _)).trans hw2).trans (Ext.alloc _ _)).trans hw3).trans ((Ext.alloc _ _).trans hw4))
 ·rw [hi]
  unfold wpOp
  simp only [hk3, Region.wanted, hg3, if_true]
  left
  unfold Oper.wp
  rw [run_alloc_zero ho3 hz]
  simp only [Oper.upon, hd3]
  refine ⟨Ext.alloc _ _, fun h0 => (by rw [c7] at h0; cases h0), fun _ w2 hw2 => ⟨by rw [c6]; simp, fun j hj => ?_⟩⟩
  rw [c6] at hj
  simp only [List.mem_cons, List.not_mem_nil, or_false] at hj
  have hb1 : Blk w2 w1.heap.size zs ty := ext_blk (Blk.made w1 zs ty) hw2
  rcases hj with hj | hj
  ·rw [hj]
   unfold wpOp
   simp only [hk1, Region.wanted, hg1, if_true]
   left
   unfold Oper.wp
   rw [run_alloc_zero ho1 hz]
   simp only [Oper.upon, hd1]
   rw [set3_comm listed (by omega : k + 2 ≠ k)]
   refine ⟨Ext.alloc _ _, fun h0 => (by rw [c11] at h0; cases h0), fun _ w3 hw3 => ⟨by rw [c10]; simp, fun x hx => ?_⟩⟩
   rw [c10] at hx
   rw [show x = k + 1 by simpa using hx]
   have hb2 : Blk w3 w2.heap.size zs ty := ext_blk (Blk.made w2 zs ty) hw3
   unfold wpOp
   simp only [hk2, Region.wanted, hg2, if_true]
   left
   unfold Oper.wp
   rw [run_alloc_zero ho2 hz]
   simp only [Oper.upon, hd2]
   rw [set3_comm (listed.setIfInBounds k true) (by omega : k + 2 ≠ k + 1)]
   have ea : (((a.put (some d3) (.pointer (some ⟨w1.heap.size, 0, none⟩))).put (some d1) (.pointer (some ⟨w2.heap.size, 0, none⟩))).put (some d2) (.pointer (some ⟨w3.heap.size, 0, none⟩))) = (((a.put (some d1) (.pointer (some ⟨w2.heap.size, 0, none⟩))).put (some d2) (.pointer (some ⟨w3.heap.size, 0, none⟩))).put (some d3) (.pointer (some ⟨w1.heap.size, 0, none⟩))) := by
    rw [Act.put_comm a (x := some d3) (y := some d1) (.pointer (some ⟨w1.heap.size, 0, none⟩)) (.pointer (some ⟨w2.heap.size, 0, none⟩)) (fun d hd he => by have e1 := Option.some.inj hd; have e2 := Option.some.inj he; exact h13 (e2.trans e1.symm))]
    rw [Act.put_comm (a.put (some d1) (.pointer (some ⟨w2.heap.size, 0, none⟩))) (x := some d3) (y := some d2) (.pointer (some ⟨w1.heap.size, 0, none⟩)) (.pointer (some ⟨w3.heap.size, 0, none⟩)) (fun d hd he => by have e1 := Option.some.inj hd; have e2 := Option.some.inj he; exact h23 (e2.trans e1.symm))]
   rw [ea]
   refine ⟨Ext.alloc _ _, fun _ w4 hw4 => ?_, fun h0 => (by rw [c15] at h0; cases h0)⟩
   have q1 : w1.heap.size < w2.heap.size := hb1.lt
   have q2 : w2.heap.size < w3.heap.size := hb2.lt
   have s1 : w.heap.size ≤ w1.heap.size := he1.size
   have s2 : w.heap.size ≤ w2.heap.size := by omega
   have s3 : w.heap.size ≤ w3.heap.size := by omega
   exact tail _ _ _ w4 (ext_blk (ext_blk hb2 (Ext.alloc w3 _)) hw4) (ext_blk (Blk.made w3 zs ty) hw4) (ext_blk (ext_blk (ext_blk (ext_blk hb1 (Ext.alloc w2 _)) hw3) (Ext.alloc w3 _)) hw4) (by omega) (by omega) (by omega) s2 s3 s1 (((((he1.trans (Ext.alloc _ _)).trans hw2).trans (Ext.alloc _ _)).trans hw3).trans ((Ext.alloc _ _).trans hw4))
  ·rw [hj]
   unfold wpOp
   simp only [hk2, Region.wanted, hg2, if_true]
   left
   unfold Oper.wp
   rw [run_alloc_zero ho2 hz]
   simp only [Oper.upon, hd2]
   rw [set3_comm listed (by omega : k + 2 ≠ k + 1)]
   refine ⟨Ext.alloc _ _, fun h0 => (by rw [c13] at h0; cases h0), fun _ w3 hw3 => ⟨by rw [c12]; simp, fun x hx => ?_⟩⟩
   rw [c12] at hx
   rw [show x = k by simpa using hx]
   have hb2 : Blk w3 w2.heap.size zs ty := ext_blk (Blk.made w2 zs ty) hw3
   unfold wpOp
   simp only [hk1, Region.wanted, hg1, if_true]
   left
   unfold Oper.wp
   rw [run_alloc_zero ho1 hz]
   simp only [Oper.upon, hd1]
   rw [set3_comm (listed.setIfInBounds (k + 1) true) (by omega : k + 2 ≠ k)]
   rw [set3_comm listed (by omega : k + 1 ≠ k)]
   have ea : (((a.put (some d3) (.pointer (some ⟨w1.heap.size, 0, none⟩))).put (some d2) (.pointer (some ⟨w2.heap.size, 0, none⟩))).put (some d1) (.pointer (some ⟨w3.heap.size, 0, none⟩))) = (((a.put (some d1) (.pointer (some ⟨w3.heap.size, 0, none⟩))).put (some d2) (.pointer (some ⟨w2.heap.size, 0, none⟩))).put (some d3) (.pointer (some ⟨w1.heap.size, 0, none⟩))) := by
    rw [Act.put_comm (a.put (some d3) (.pointer (some ⟨w1.heap.size, 0, none⟩))) (x := some d2) (y := some d1) (.pointer (some ⟨w2.heap.size, 0, none⟩)) (.pointer (some ⟨w3.heap.size, 0, none⟩)) (fun d hd he => by have e1 := Option.some.inj hd; have e2 := Option.some.inj he; exact h12 (e2.trans e1.symm))]
    rw [Act.put_comm a (x := some d3) (y := some d1) (.pointer (some ⟨w1.heap.size, 0, none⟩)) (.pointer (some ⟨w3.heap.size, 0, none⟩)) (fun d hd he => by have e1 := Option.some.inj hd; have e2 := Option.some.inj he; exact h13 (e2.trans e1.symm))]
    rw [Act.put_comm (a.put (some d1) (.pointer (some ⟨w3.heap.size, 0, none⟩))) (x := some d3) (y := some d2) (.pointer (some ⟨w1.heap.size, 0, none⟩)) (.pointer (some ⟨w2.heap.size, 0, none⟩)) (fun d hd he => by have e1 := Option.some.inj hd; have e2 := Option.some.inj he; exact h23 (e2.trans e1.symm))]
   rw [ea]
   refine ⟨Ext.alloc _ _, fun _ w4 hw4 => ?_, fun h0 => (by rw [c15] at h0; cases h0)⟩
   have q1 : w1.heap.size < w2.heap.size := hb1.lt
   have q2 : w2.heap.size < w3.heap.size := hb2.lt
   have s1 : w.heap.size ≤ w1.heap.size := he1.size
   have s2 : w.heap.size ≤ w2.heap.size := by omega
   have s3 : w.heap.size ≤ w3.heap.size := by omega
   exact tail _ _ _ w4 (ext_blk (Blk.made w3 zs ty) hw4) (ext_blk (ext_blk hb2 (Ext.alloc w3 _)) hw4) (ext_blk (ext_blk (ext_blk (ext_blk hb1 (Ext.alloc w2 _)) hw3) (Ext.alloc w3 _)) hw4) (by omega) (by omega) (by omega) s3 s2 s1 (((((he1.trans (Ext.alloc _ _)).trans hw2).trans (Ext.alloc _ _)).trans hw3).trans ((Ext.alloc _ _).trans hw4))
end
end
def ptF (s : ES) : List Value := (nbF s.x).map bval ++ ((nbF s.y).map bval ++ ((nbF s.z).map bval ++ (nbF s.t).map bval))
theorem nbv_length (f : Fp) : ((nbF f).map bval).length = 32 := by rw [List.length_map, nbF_length]
theorem ptF_length (s : ES) : (ptF s).length = 128 := by simp [ptF, nbF_length]
theorem ptF_one (s : ES) : ∀ v ∈ ptF s, v.oneCell' = true := by
 intro v hv
 simp only [ptF, List.mem_append] at hv
 rcases hv with h | h | h | h <;> exact bval_one _ v h
theorem Tryd.arr47 : (Tryd.prog.info? 47).map (·.size) = some 128 := by kernel_rfl
theorem ptF_size (s : ES) : (Tryd.prog.info? 47).map (·.size) = some (ptF s).length := by rw [ptF_length]; exact Tryd.arr47
theorem fill_q {place : Nat → Option (Nat × Nat)} (p0 : place 0 = some (0, 32)) (p1 : place 1 = some (32, 32)) (p2 : place 2 = some (64, 32)) (p3 : place 3 = some (96, 32)) (zero : Array Value) (hz : zero.size = 128) {a b c d : List Value} (ha : a.length = 32) (hb : b.length = 32) (hc : c.length = 32) (hd : d.length = 32) :
  Instr.fill place zero [(0, .agg a.toArray), (1, .agg b.toArray), (2, .agg c.toArray), (3, .agg d.toArray)] = some (a ++ (b ++ (c ++ d))).toArray := by
 obtain ⟨l, hl⟩ : ∃ l : List Value, zero = l.toArray ∧ l.length = 128 := ⟨zero.toList, by simp, by simpa using hz⟩
 obtain ⟨rfl, hl⟩ := hl
 have e0 : l = [] ++ (l.take 32 ++ ((l.drop 32).take 32 ++ ((l.drop 64).take 32 ++ l.drop 96))) := by
  rw [List.nil_append]
  have h3 : (l.drop 64).take 32 ++ l.drop 96 = l.drop 64 := by rw [show l.drop 96 = (l.drop 64).drop 32 by rw [List.drop_drop], List.take_append_drop]
  have h2 : (l.drop 32).take 32 ++ l.drop 64 = l.drop 32 := by rw [show l.drop 64 = (l.drop 32).drop 32 by rw [List.drop_drop], List.take_append_drop]
  rw [h3, h2, List.take_append_drop]
 have l0 : (l.take 32).length = 32 := by simp [hl]
 have l1 : ((l.drop 32).take 32).length = 32 := by simp [hl]
 have l2 : ((l.drop 64).take 32).length = 32 := by simp [hl]
 have l3 : (l.drop 96).length = 32 := by simp [hl]
 generalize l.take 32 = q0 at *
 generalize (l.drop 32).take 32 = q1 at *
 generalize (l.drop 64).take 32 = q2 at *
 generalize l.drop 96 = q3 at *
 rw [e0, fill_lay (off := 0) (n := 32) p0 rfl l0 ha]
 rw [show ([] : List Value) ++ (a ++ (q1 ++ (q2 ++ q3))) = a ++ (q1 ++ (q2 ++ q3)) from rfl, fill_lay (off := 32) (n := 32) p1 ha l1 hb]
 rw [show a ++ (b ++ (q2 ++ q3)) = (a ++ b) ++ (q2 ++ q3) by simp, fill_lay (off := 64) (n := 32) p2 (by simp [ha, hb]) l2 hc]
 rw [show (a ++ b) ++ (c ++ q3) = (a ++ b ++ c) ++ (q3 ++ []) by simp, fill_lay (off := 96) (n := 32) p3 (by simp [ha, hb, hc]) l3 hd]
 rw [Instr.fill]
 simp
theorem build_ptF (s : ES) (w : World) : (Instr.build 47 #[(0, .agg ((nbF s.x).map bval).toArray), (1, .agg ((nbF s.y).map bval).toArray), (2, .agg ((nbF s.z).map bval).toArray), (3, .agg ((nbF s.t).map bval).toArray)]).run Tryd.prog w = .ok (.agg (ptF s).toArray) w := by
 refine run_build w _ _ _ ?_
 have e := fill_q (place := fun i => (#[(0, 32), (32, 32), (64, 32), (96, 32)] : Array (Nat × Nat))[i]?) rfl rfl rfl rfl (ints .u8 (List.replicate 128 0)).toArray (by simp [ints_length]) (nbv_length s.x) (nbv_length s.y) (nbv_length s.z) (nbv_length s.t)
 refine Eq.trans ?_ e
 kernel_rfl
theorem nbF_zero : nbF 0 = zer := by decide +kernel
theorem nbF_one : nbF 1 = smL 1 := by decide +kernel
theorem build_nbz (w : World) : (Instr.build 23 #[]).run Tryd.prog w = .ok (.agg ((nbF 0).map bval).toArray) w := by rw [nbF_zero]; exact build_zer w
theorem build_nbo (w : World) : (Instr.build 23 #[(0, .int .u8 1)]).run Tryd.prog w = .ok (.agg ((nbF 1).map bval).toArray) w := by rw [nbF_one]; exact build_one w
theorem nbF_four : nbF 4 = smL 4 := by decide +kernel
theorem nbF_five : nbF 5 = smL 5 := by decide +kernel
theorem build_nb4 (w : World) : (Instr.build 23 #[(0, .int .u8 4)]).run Tryd.prog w = .ok (.agg ((nbF 4).map bval).toArray) w := by
 rw [nbF_four]
 simp [Instr.build, Tryd.zeroValue23]
 rfl
theorem build_nb5 (w : World) : (Instr.build 23 #[(0, .int .u8 5)]).run Tryd.prog w = .ok (.agg ((nbF 5).map bval).toArray) w := by
 rw [nbF_five]
 simp [Instr.build, Tryd.zeroValue23]
 rfl
theorem ptF_x {w : World} {c o : Nat} {s : ES} (h : w.rangeAt c o (ptF s)) : w.rangeAt c o ((nbF s.x).map bval) := rng_lo h
theorem ptF_y {w : World} {c o k : Nat} {s : ES} (h : w.rangeAt c o (ptF s)) (hk : o + 32 = k) : w.rangeAt c k ((nbF s.y).map bval) := rng_lo (rng_hi h (nbv_length _) hk)
theorem ptF_z {w : World} {c o k : Nat} {s : ES} (h : w.rangeAt c o (ptF s)) (hk : o + 64 = k) : w.rangeAt c k ((nbF s.z).map bval) := rng_lo (rng_hi (rng_hi h (nbv_length _) rfl) (nbv_length _) (by omega))
theorem ptF_t {w : World} {c o k : Nat} {s : ES} (h : w.rangeAt c o (ptF s)) (hk : o + 96 = k) : w.rangeAt c k ((nbF s.t).map bval) := rng_hi (rng_hi (rng_hi h (nbv_length _) rfl) (nbv_length _) rfl) (nbv_length _) (by omega)
def zq : List Value := ints .u8 (List.replicate 128 0)
theorem zq_length : zq.length = 128 := by simp [zq, ints_length]
theorem pkL_nbF (b : Bool) (f g : Fp) : pkL b (nbF f) (nbF g) = nbF (pkF b f g) := by cases b <;> rfl
theorem ptF_none : ptF ⟨0, 0, 0, 0⟩ = zq := by
 unfold ptF
 simp only [nbF_zero]
 rfl
theorem build_none (w : World) : (Instr.build 47 #[]).run Tryd.prog w = .ok (.agg (ptF ⟨0, 0, 0, 0⟩).toArray) w := by
 rw [ptF_none]
 refine run_build w _ _ _ ?_
 kernel_rfl
theorem build_esz (w : World) : (Instr.build 47 #[(1, .agg ((nbF 1).map bval).toArray), (2, .agg ((nbF 1).map bval).toArray)]).run Tryd.prog w = .ok (.agg (ptF esZero).toArray) w := by
 have e1 : ptF esZero = zer.map bval ++ ((smL 1).map bval ++ ((smL 1).map bval ++ zer.map bval)) := by
  show (nbF 0).map bval ++ ((nbF 1).map bval ++ ((nbF 1).map bval ++ (nbF 0).map bval)) = _
  rw [nbF_zero, nbF_one]
 rw [e1, nbF_one]
 refine run_build w _ _ _ ?_
 kernel_rfl
def GlobC (w : World) : Prop := w.rangeAt 2 0 ((nbF dF).map bval)
theorem nbd_cons : ∃ v vs, (nbF dF).map bval = v :: vs := by
 cases h : (nbF dF).map bval with
 | nil => have := nbv_length dF; rw [h] at this; simp at this
 | cons v vs => exact ⟨v, vs, rfl⟩
theorem GlobC.ext {w w' : World} (h : GlobC w) (hb : Ext w w') : GlobC w' := by
 obtain ⟨v, vs, e⟩ := nbd_cons
 unfold GlobC at h ⊢
 rw [e] at h ⊢
 exact glob_ext h hb
theorem csum_eq (p q : ES) : (⟨((p.y + p.x) * (q.y + q.x) - (p.y - p.x) * (q.y - q.x)) * (p.z * q.z + p.z * q.z - (dF * (p.t * q.t) + dF * (p.t * q.t))), ((p.y + p.x) * (q.y + q.x) + (p.y - p.x) * (q.y - q.x)) * (p.z * q.z + p.z * q.z + (dF * (p.t * q.t) + dF * (p.t * q.t))), (p.z * q.z + p.z * q.z + (dF * (p.t * q.t) + dF * (p.t * q.t))) * (p.z * q.z + p.z * q.z - (dF * (p.t * q.t) + dF * (p.t * q.t))), ((p.y + p.x) * (q.y + q.x) - (p.y - p.x) * (q.y - q.x)) * ((p.y + p.x) * (q.y + q.x) + (p.y - p.x) * (q.y - q.x))⟩ : ES) = p.sum q := by
 have e : dF * (p.t * q.t) + dF * (p.t * q.t) = p.t * q.t * (dF + dF) := by generalize dF = d at *; grind
 rw [e]
 unfold ES.sum
 simp only
 congr 1
 exact Fin.mul_comm _ _
def overE (x bx y b : Fp) : ES := ⟨x * b, y * bx, bx * b, x * y⟩
section
def rootR (x : Int) : Int := if nb (x ^ pE * x ^ pE) = nb x then x ^ pE else x ^ pE * sm1
def rootB (x : Int) : Bool := decide (nb (rootR x * rootR x) = nb x)
def rootN (x : Int) : List UInt8 :=
 if rootB x then (if (decide (((nb (rootR x)).getD 0 0).toNat % 2 = 1)) then (nb (((leN zer : Nat) : Int) - ((leN (nb (rootR x)) : Nat) : Int))) else (nb (rootR x))) else zer
theorem rootB_true {x : Int} (h : nb (rootR x * rootR x) = nb x) : rootB x = true := decide_eq_true h
theorem rootB_false {x : Int} (h : ¬ nb (rootR x * rootR x) = nb x) : rootB x = false := decide_eq_false h
theorem rootN_true {x : Int} (h : nb (rootR x * rootR x) = nb x) : (if (decide (((nb (rootR x)).getD 0 0).toNat % 2 = 1)) then (nb (((leN zer : Nat) : Int) - ((leN (nb (rootR x)) : Nat) : Int))) else (nb (rootR x))) = rootN x := by
 unfold rootN
 rw [rootB_true h]
 rfl
theorem rootN_false {x : Int} (h : ¬ nb (rootR x * rootR x) = nb x) : rootN x = zer := by
 unfold rootN
 rw [rootB_false h]
 rfl
theorem rootB_true2 {x r : Int} (e : r = rootR x) (h : nb (r * r) = nb x) : rootB x = true := by subst e; exact rootB_true h
theorem rootB_false2 {x r : Int} (e : r = rootR x) (h : ¬ nb (r * r) = nb x) : rootB x = false := by subst e; exact rootB_false h
theorem rootN_true2 {x r : Int} (e : r = rootR x) (h : nb (r * r) = nb x) : (if (decide (((nb r).getD 0 0).toNat % 2 = 1)) then (nb (((leN zer : Nat) : Int) - ((leN (nb r) : Nat) : Int))) else (nb r)) = rootN x := by subst e; exact rootN_true h
theorem rootN_false2 {x r : Int} (e : r = rootR x) (h : ¬ nb (r * r) = nb x) : rootN x = zer := by subst e; exact rootN_false h
theorem pick_length (b : Bool) (x y : Int) : (if b then (nb x) else (nb y)).length = 32 := by cases b <;> exact nb_length _
theorem rootN_length (x : Int) : (rootN x).length = 32 := by
 unfold rootN
 cases rootB x
 ·exact zer_length
 ·exact pick_length _ _ _
theorem zer_zero32 : zer.map bval = zero32 := by
 unfold zero32 zer ints
 rw [List.map_replicate, List.map_replicate]
 rfl
theorem rootN_size (x : Int) : (Tryd.prog.info? 23).map (·.size) = some ((rootN x).map bval).length := by rw [List.length_map, rootN_length]; exact Tryd.arr23
theorem pick_size (b : Bool) (x y : Int) : (Tryd.prog.info? 23).map (·.size) = some ((if b then (nb x) else (nb y)).map bval).length := by rw [List.length_map, pick_length]; exact Tryd.arr23
theorem pick_len (b : Bool) (x y : Int) : ((if b then (nb x) else (nb y)).map bval).length = zero32.length := by rw [List.length_map, pick_length]; rfl
section
variable {P : Program}
theorem byte_odd {o : Oper} {a : Act} {ty rt : TypeId} {x y : Operand} {w : World} (n : Nat) (ho : o.op = .binOp .eql ty x y rt) (hx : a.eval x = .int .u8 ((n % 2 : Nat) : Int)) (hy : a.eval y = .int .u8 1) :
  (execOp a.eval o).run P w = .ok (.value (.bool (decide (n % 2 = 1)))) w := by
 have h : (((n % 2 : Nat) : Int) == 1) = decide (n % 2 = 1) := by
  rw [Bool.eq_iff_iff, beq_iff_eq, decide_eq_true_iff]
  omega
 unfold execOp
 simp only [ho, hx, hy]
 rw [← h]
 rfl
end
end
theorem Tryd.info5 : (Tryd.prog.info? 5).map (fun i => (i.zero, i.size, i.bytes)) = some (some (.int .u8 0), 1, 1) := by kernel_rfl
theorem Tryd.arr85 : (Tryd.prog.info? 85).map (·.size) = some 19 := by kernel_rfl
theorem mask28 (a : Int) (h1 : -9223372036854775808 ≤ a) (h2 : a ≤ 9223372036854775807) : bits .and .i64 a 268435455 = a % 268435456 := by
 have h : (BitVec.ofInt 64 268435455).toNat = 2 ^ 28 - 1 := by decide
 have key : (BitVec.ofInt 64 a &&& BitVec.ofInt 64 268435455).toNat = (a % ((2 ^ 64 : Nat) : Int)).toNat % 2 ^ 28 := by
  rw [BitVec.toNat_and, BitVec.toNat_ofInt, h, Nat.and_two_pow_sub_one_eq_mod]
 show IntKind.i64.wrap ((BitVec.ofInt 64 a &&& BitVec.ofInt 64 268435455).toNat : Nat) = _
 rw [key, IntKind.wrap_i64]
 omega
theorem cRun_length (x : List Int) (f : Nat) : ∀ n, (cRun x f n).length = x.length
 | 0 => rfl
 | n + 1 => by simp [cRun, cStep, cRun_length x f n]
set_option maxHeartbeats 2000000 in
theorem scl_carried_any (x : List Int) (f n : Nat) (fi ti : Int) (B : Int) (hl : x.length = 19) (hn : f + n ≤ 18) (hf : fi = (f : Int)) (ht : ti = ((f + n : Nat) : Int)) (h0 : 0 ≤ B) (h1 : B ≤ 2305843009213693952) (hB : ∀ j, f ≤ j → j ≤ f + n → -B ≤ x.getD j 0 ∧ x.getD j 0 ≤ B) (w : World) :
  Calls Tryd.prog 96 #[.agg (ints .i64 x).toArray, .int .i64 fi, .int .i64 ti] w fun e w' => e = .returned (.agg (ints .i64 (cRun x f n)).toArray) ∧ Below w.heap.size w w' := by
 subst hf; subst ht
 have HR : ∀ k, k ≤ n → CR x (cRun x f k) f k B := fun k hk => cRun_spec x f B h0 k (by omega) (fun j g1 g2 => hB j g1 (by omega))
 have HCR := Lib.hid HR
 have HXB := Lib.hid hB
 have HL := Lib.hid hl
 have HB := Lib.hid (boxes2 w (ints .i64 x) (ints .i64 (List.replicate 19 0)) 85 85)
 clear HR hB hl
 go_enter Tryd.func96, Tryd.ntmps96
 go_wp2_with fail
 change Code.wp _ _ _ _ ((w.alloc (.cells (ints .i64 x).toArray 85)).alloc (.cells (ints .i64 (List.replicate 19 0)).toArray 85))
 generalize (w.alloc (.cells (ints .i64 x).toArray 85)).alloc (.cells (ints .i64 (List.replicate 19 0)).toArray 85) = w0 at *
 obtain ⟨b1, b2, b3⟩ := HB.out
 obtain ⟨A, hA⟩ : ∃ A, A = w.heap.size := ⟨_, rfl⟩
 rw [← hA] at b1 b2 ⊢
 have hA2 : w.heap.size ≤ A := by omega
 have H1 := Lib.hid b1
 have H2 := Lib.hid b2
 have H3 := Lib.hid b3
 clear b1 b2 b3 hA HB
 go_loopw [7] (fun i wr => ∃ (k : Nat), k ≤ n ∧ i = .int .i64 ((f + k : Nat) : Int) ∧ Blk wr A (ints .i64 (cRun x f k)) 85 ∧ Blk wr (A + 1) (ints .i64 (List.replicate 19 0)) 85 ∧ Below w.heap.size w wr) (fun i _ => f + n - (intOf i).toNat)
 case atStart => exact ⟨0, by omega, rfl, H1.out, H2.out, H3.out⟩
 case round =>
  clear H1 H2 H3
  obtain ⟨k, hk, rfl, hb1, hb2, hbel⟩ := hrel
  have i0' : (0 : Int) ≤ ((f + k : Nat) : Int) := Int.natCast_nonneg _
  have hlen := cRun_length x f k
  rw [HL.out] at hlen
  by_cases hlt : k < n
  ·obtain ⟨c1, c2, c3, c4, c5, c6⟩ := HCR.out k hk
   have i1 : ((f + k : Nat) : Int) < ((f + n : Nat) : Int) := by omega
   have i2 : ((f + k : Nat) : Int) + 1 < 19 := by omega
   have i3 : ((f + k : Nat) : Int) < 19 := by omega
   have e1 := hb1.cell (f + k)
   rw [ints_get (by omega)] at e1
   have e2 := hb1.cell (f + k + 1)
   rw [ints_get (by omega)] at e2
   have f1 := hb1.free (f + k)
   have f2 := hb1.free (f + k + 1)
   have g2 := c6 (f + k + 1) (by omega)
   have g3 := HXB.out (f + k + 1) (by omega) (by omega)
   rw [← g2] at g3
   have hst : cRun x f (k + 1) = ((cRun x f k).set (f + k + 1) ((cRun x f k).getD (f + k + 1) 0 + (cRun x f k).getD (f + k) 0 / 268435456)).set (f + k) ((cRun x f k).getD (f + k) 0 % 268435456) := rfl
   have HST := Lib.hid hst
   clear c1 c2 c3 c4 c6 g2 hst
   generalize (cRun x f k).getD (f + k) 0 = a at *
   generalize (cRun x f k).getD (f + k + 1) 0 = b at *
   have hm := mask28 a (by omega) (by omega)
   have H1 := Lib.hid hb1
   have H2 := Lib.hid hb2
   have H3 := Lib.hid hbel
   clear hb1 hb2 hbel hlen
   generalize hfk : f + k = i at *
   have W1 : Hid (wrap64 (b + a / 268435456) = b + a / 268435456) := Lib.hid (by rw [← IntWalk.i64_left]; exact IntWalk.i64_in _ (by omega))
   have s1 : (0 : Int) ≤ (i : Int) + 1 := by omega
   go_wp2_with fail
   go_region
   go_wp2_with fail
   go_roundw
   case rel =>
    refine ⟨k + 1, by omega, ?_, ?_, (H2.out.far (by simp) _).far (by simp) _, ((H3.out.setCell hA2 _).setCell hA2 _).drew⟩
    ·rw [← Nat.add_assoc, hfk]
     go_num
    ·rw [HST.out, ← ints_set, ← ints_set]
     exact (H1.out.set (i + 1) _).set i _
   case measure => simp [intOf]; omega
  ·have hk' : k = n := by omega
   subst hk'
   have HB1 := Lib.hid hb1
   have HB2 := Lib.hid hb2
   have HBE := Lib.hid hbel
   have hi1 : Hid ((Tryd.prog.info? 85).map (·.size) = some (ints .i64 (cRun x f k)).length) := Lib.hid (by rw [ints_length, hlen]; exact Tryd.arr85)
   have hl1 : Hid ((ints .i64 (cRun x f k)).length = (ints .i64 (List.replicate 19 0)).length) := Lib.hid (by rw [ints_length, ints_length, hlen]; rfl)
   clear hb1 hb2 hbel hlen
   go_wp2_with (first | (refine wpList_load_blk rfl _ _ rfl A rfl _ _ _ _ HB1.out Tryd.underlying85 hi1.out ?_) | (refine wpList_store_blk rfl _ _ _ rfl (A + 1) _ rfl rfl _ _ HB2.out hl1.out hi1.out (ints_one _ _) ?_; intro w5 hb5 hg5))
   exact bodyPost_ret (v := .agg (ints .i64 (cRun x f k)).toArray) (result_row (by rfl) _ (A + 1) _ _ _ (by rfl) hb5 Tryd.underlying85 rfl hi1.out) rfl ⟨rfl, ext_grown HBE.out hg5 (by omega)⟩
def GlobT (w : World) : Prop := w.rangeAt 8 0 (ints .i64 TAIL)
theorem GlobT.ext {w w' : World} (h : GlobT w) (hb : Ext w w') : GlobT w' := glob_ext h hb
theorem Tryd.arr141 : (Tryd.prog.info? 141).map (·.size) = some 5 := by kernel_rfl
theorem tail_index (m : Nat) (hm : m < 5) (w : World) : (Instr.index 141 (.agg (ints .i64 TAIL).toArray) (.int .i64 (m : Int))).run Tryd.prog w = .ok (.int .i64 (TAIL.getD m 0)) w := by
 rcases (by omega : m = 0 ∨ m = 1 ∨ m = 2 ∨ m = 3 ∨ m = 4) with rfl | rfl | rfl | rfl | rfl <;> kernel_rfl
theorem sgn_shift (a : Int) (h1 : -1 ≤ a) (h2 : a ≤ 268435456) : ∃ ng : Int, a / 9223372036854775808 = ng ∧ ∀ t : Int, 0 ≤ t → t ≤ 268435456 → bits .and .i64 ng t = (if a < 0 then 1 else 0) * t := by
 by_cases h : a < 0
 ·refine ⟨-1, by omega, fun t t0 t1 => ?_⟩
  have e : BitVec.ofInt 64 (-1) = BitVec.allOnes 64 := by decide
  show IntKind.i64.wrap ((BitVec.ofInt 64 (-1) &&& BitVec.ofInt 64 t).toNat : Nat) = _
  rw [e, BitVec.allOnes_and, BitVec.toNat_ofInt, IntKind.wrap_i64, if_pos h]
  omega
 ·refine ⟨0, by omega, fun t t0 t1 => ?_⟩
  have e : BitVec.ofInt 64 0 = 0#64 := by decide
  show IntKind.i64.wrap ((BitVec.ofInt 64 0 &&& BitVec.ofInt 64 t).toNat : Nat) = _
  rw [e, BitVec.zero_and, if_neg h]
  simp [IntKind.wrap_i64]
set_option maxRecDepth 100000 in
set_option maxHeartbeats 4000000 in
theorem rest_any (x : List Int) (v : Int) (w : World) (h : RI x 18 v) (hG : GlobT w) :
  Calls Tryd.prog 97 #[.agg (ints .i64 x).toArray] w fun e w' => e = .returned (.agg (ints .i64 (restF x)).toArray) ∧ Below w.heap.size w w' := by
 have HRI := Lib.hid (fun n hn => rRun_RI h n hn)
 have HG := Lib.hid hG
 have HL := Lib.hid h.len
 have HB := Lib.hid (boxes2 w (ints .i64 x) (ints .i64 (List.replicate 19 0)) 85 85)
 have HTI : Hid ((Tryd.prog.info? 141).map (·.size) = some (ints .i64 TAIL).length) := Lib.hid (by rw [ints_length]; exact Tryd.arr141)
 clear h hG
 go_enter Tryd.func97, Tryd.ntmps97
 go_wp2_with fail
 change Code.wp _ _ _ _ ((w.alloc (.cells (ints .i64 x).toArray 85)).alloc (.cells (ints .i64 (List.replicate 19 0)).toArray 85))
 generalize (w.alloc (.cells (ints .i64 x).toArray 85)).alloc (.cells (ints .i64 (List.replicate 19 0)).toArray 85) = w0 at *
 obtain ⟨b1, b2, b3⟩ := HB.out
 obtain ⟨A, hA⟩ : ∃ A, A = w.heap.size := ⟨_, rfl⟩
 rw [← hA] at b1 b2 ⊢
 have hA2 : w.heap.size ≤ A := by omega
 have H1 := Lib.hid b1
 have H2 := Lib.hid b2
 have H3 : Hid (Ext w w0) := Lib.hid b3
 clear b1 b2 b3 hA HB
 go_loopw [3] (fun i wr => ∃ (n : Nat), n ≤ 10 ∧ i = .int .i64 (18 - (n : Int)) ∧ Blk wr A (ints .i64 (scl_rRun x n)) 85 ∧ Blk wr (A + 1) (ints .i64 (List.replicate 19 0)) 85 ∧ Ext w wr) (fun i _ => (intOf i).toNat)
 case atStart => exact ⟨0, by omega, rfl, H1.out, H2.out, H3.out⟩
 case round =>
  clear H1 H2 H3
  obtain ⟨n, hn, rfl, hb1, hb2, hbel⟩ := hrel
  by_cases hlt : n < 10
  ·have hi : ∃ i : Nat, i = 18 - n := ⟨_, rfl⟩
   obtain ⟨i, hi⟩ := hi
   have hii : (18 : Int) - (n : Int) = (i : Int) := by omega
   have i9 : (9 : Int) ≤ (i : Int) := by omega
   have i18 : (i : Int) ≤ 18 := by omega
   have j9 : 9 ≤ i := by omega
   have j18 : i ≤ 18 := by omega
   have hri := HRI.out n (by omega)
   rw [← hi] at hri
   have hst : scl_rRun x (n + 1) = rStep (scl_rRun x n) i := by rw [hi]; rfl
   rw [hii]
   generalize scl_rRun x n = y at *
   have HRS := Lib.hid hri
   have HST := Lib.hid hst
   have HYL := Lib.hid hri.len
   have HII := Lib.hid hii
   have HIN := Lib.hid hi
   have H1 := Lib.hid hb1
   have H2 := Lib.hid hb2
   have H3 := Lib.hid hbel
   have HGR : Hid (wr.rangeAt 8 0 (ints .i64 TAIL)) := Lib.hid (HG.out.ext hbel)
   clear hri hst hb1 hb2 hbel hii hi
   go_wp2_with (refine wpList_load_mid rfl _ _ rfl 8 0 rfl (ints .i64 TAIL) _ HGR.out Tryd.underlying141 rfl HTI.out ?_)
   obtain ⟨wo, rfl⟩ : ∃ wo : World, wo = wr := ⟨_, rfl⟩
   go_loopw [14] (fun j wr => ∃ (m : Nat), m ≤ 5 ∧ j = .int .i64 m ∧ Blk wr A (ints .i64 (scl_tRun y i m)) 85 ∧ Blk wr (A + 1) (ints .i64 (List.replicate 19 0)) 85 ∧ Ext w wr) (fun j _ => 5 - (intOf j).toNat)
   case atStart => exact ⟨0, by omega, rfl, H1.out, H2.out, H3.out⟩
   case round =>
    clear H1 H2 H3 HGR
    obtain ⟨m, hm, rfl, hb1, hb2, hbel⟩ := hrel
    have m0 : (0 : Int) ≤ (m : Int) := Int.natCast_nonneg _
    have hlen := tRun_length y i m
    rw [HYL.out] at hlen
    by_cases hlm : m < 5
    ·have m1 : (m : Int) < 5 := by omega
     have HIX := tail_index m hlm
     have e1 := hb1.cell (i - 9 + m)
     rw [ints_get (by omega)] at e1
     have e2 := hb1.cell i
     rw [ints_get (by omega)] at e2
     have f1 := hb1.free (i - 9 + m)
     have hst : scl_tRun y i (m + 1) = (scl_tRun y i m).set (i - 9 + m) ((scl_tRun y i m).getD (i - 9 + m) 0 - (scl_tRun y i m).getD i 0 * TAIL.getD m 0) := rfl
     have HST2 := Lib.hid hst
     have q1 := HRS.out.here
     rw [← tRun_top y i j9 m (by omega)] at q1
     have q2 := HRS.out.low (i - 9 + m) (by omega)
     rw [← tRun_far y i m (i - 9 + m) (by omega)] at q2
     have q3 := TAIL_getD m
     generalize (scl_tRun y i m).getD (i - 9 + m) 0 = a at *
     generalize (scl_tRun y i m).getD i 0 = u at *
     generalize TAIL.getD m 0 = t at *
     have p1 : -268435456 ≤ u * t ∧ u * t ≤ 72057594037927936 := by
      constructor
      ·rcases Int.le_total 0 u with g2 | g2
       ·have := Int.mul_nonneg g2 q3.1
        omega
       ·have e1 : u = 0 ∨ u = -1 := by omega
        rcases e1 with rfl | rfl <;> omega
      ·rcases Int.le_total 0 u with g2 | g2
       ·exact Int.le_trans (Int.mul_le_mul q1.2 (show t ≤ 268435456 by omega) q3.1 (by omega)) (by omega)
       ·have : u * t ≤ 0 := Int.mul_nonpos_of_nonpos_of_nonneg g2 q3.1
        omega
     have W1 : Hid (wrap64 (u * t) = u * t) := Lib.hid (by rw [← IntWalk.i64_left]; exact IntWalk.i64_in _ (by omega))
     have W2 : Hid (wrap64 (a - u * t) = a - u * t) := Lib.hid (by rw [← IntWalk.i64_left]; exact IntWalk.i64_in _ (by omega))
     obtain ⟨p, hp⟩ : ∃ p : Nat, p = i - 9 + m := ⟨_, rfl⟩
     rw [← hp] at e1 f1
     have hpp : (i : Int) - 9 + (m : Int) = (p : Int) := by omega
     have p19 : (p : Int) < 19 := by omega
     have HP := Lib.hid hp
     have H1 := Lib.hid hb1
     have H2 := Lib.hid hb2
     have H3 := Lib.hid hbel
     clear hst hp hb1 hb2 hbel hlen
     go_wp2_with fail
     go_region
     go_wp2_with fail
     go_roundw
     case rel =>
      refine ⟨m + 1, by omega, by go_num, ?_, (H2.out.far (by simp) _).drewN 1, (Below.setCell H3.out hA2 _).drew⟩
      rw [HST2.out, ← HP.out, ← ints_set]
      exact (H1.out.set p _).drewN 1
     case measure => simp [intOf]; omega
    ·have hm5 : m = 5 := by omega
     subst hm5
     have f1 := hb1.free i
     have e1 := hb1.cell i
     rw [ints_get (by omega)] at e1
     generalize (scl_tRun y i 5).getD i 0 = u at e1
     have hpt := HRS.out.part j9 j18
     have HCA := Lib.hid (fun w => scl_carried_any ((scl_tRun y i 5).set i 0) (i - 9) 8 ((i : Int) - 9) ((i : Int) - 1) 1152921504606846976 (by simp [hlen]) (by omega) (by omega) (by omega) (by omega) (by omega) (fun j _ hj => hpt.1 j (by omega)) w)
     have hb1' := hb1.set i (.int .i64 0)
     rw [ints_set] at hb1'
     have hb2' := hb2.far (a := ⟨A, i, none⟩) (by simp) (.int .i64 0)
     have hbel' : Ext w (wr.setCell ⟨A, i, none⟩ (.int .i64 0)) := Below.setCell hbel hA2 _
     have hi1 : Hid ((Tryd.prog.info? 85).map (·.size) = some (ints .i64 ((scl_tRun y i 5).set i 0)).length) := Lib.hid (by rw [ints_length, List.length_set, hlen]; exact Tryd.arr85)
     have H1 := Lib.hid hb1'
     have H2 := Lib.hid hb2'
     have H3 := Lib.hid hbel'
     have HLN := Lib.hid hlen
     clear hb1 hb2 hbel hb1' hb2' hbel' hpt hlen
     go_wp2_with (refine wpList_load_blk rfl _ _ rfl A rfl _ _ _ _ H1.out Tryd.underlying85 hi1.out ?_)
     refine (HCA.out _).mono ?_
     rintro e w5 ⟨rfl, hb5⟩
     have H1 := Lib.hid (ext_blk H1.out hb5)
     have H2 := Lib.hid (ext_blk H2.out hb5)
     have H3 := Lib.hid (H3.out.trans hb5)
     have hi2 : Hid ((Tryd.prog.info? 85).map (·.size) = some (ints .i64 (cRun ((scl_tRun y i 5).set i 0) (i - 9) 8)).length) := Lib.hid (by rw [ints_length, cRun_length, List.length_set, HLN.out]; exact Tryd.arr85)
     have hl2 : Hid ((ints .i64 (cRun ((scl_tRun y i 5).set i 0) (i - 9) 8)).length = (ints .i64 ((scl_tRun y i 5).set i 0)).length) := Lib.hid (by rw [ints_length, ints_length, cRun_length])
     clear hb5 HCA
     go_wp2_with (refine wpList_store_blk rfl _ _ _ rfl A _ rfl rfl _ _ H1.out hl2.out hi2.out (ints_one _ _) ?_; intro w6 hb6 hg6)
     go_roundw
     case rel =>
      refine ⟨n + 1, by omega, ?_, ?_, H2.out.grown hg6 (by simp), ext_grown H3.out hg6 hA2⟩
      ·have := HII.out
       rw [show (i : Int) - 1 = 18 - ((n + 1 : Nat) : Int) from by omega]
      ·rw [HST.out]
       exact hb6
     case measure => simp [intOf]; omega
  ·have hn10 : n = 10 := by omega
   subst hn10
   have hri := HRI.out 10 (by omega)
   have hrf : restF x = cRun (addQ (scl_rRun x 10)) 0 8 := rfl
   generalize scl_rRun x 10 = y at *
   obtain ⟨ng, hng, hand⟩ := sgn_shift (y.getD 8 0) (hri.here.1) (hri.here.2)
   change ∀ t : Int, _ → _ → _ = sgn y * t at hand
   have hs01 := sgn_01 y
   have hadd := addQ_range hri
   have had : addQ y = (aRun y (sgn y) 5).set 8 ((aRun y (sgn y) 5).getD 8 0 + sgn y * 268435456) := rfl
   have e8 := hb1.cell 8
   have hlen := hri.len
   rw [ints_get (by omega)] at e8
   have HRS : Hid (RI y 8 v) := Lib.hid hri
   have HAND := Lib.hid hand
   have HADD := Lib.hid hadd
   have HAD := Lib.hid had
   have HRF := Lib.hid hrf
   have HYL := Lib.hid hlen
   have HS := Lib.hid hs01
   generalize sgn y = s at *
   have H1 := Lib.hid hb1
   have H2 := Lib.hid hb2
   have H3 := Lib.hid hbel
   have HGR : Hid (wr.rangeAt 8 0 (ints .i64 TAIL)) := Lib.hid (HG.out.ext hbel)
   clear hri hb1 hb2 hbel hrf had hadd hand hlen hs01
   generalize y.getD 8 0 = y8 at *
   go_wp2_with (refine wpList_load_mid rfl _ _ rfl 8 0 rfl (ints .i64 TAIL) _ HGR.out Tryd.underlying141 rfl HTI.out ?_)
   clear e8 hng
   obtain ⟨wo, rfl⟩ : ∃ wo : World, wo = wr := ⟨_, rfl⟩
   go_loopw [44] (fun j wr => ∃ (m : Nat), m ≤ 5 ∧ j = .int .i64 m ∧ Blk wr A (ints .i64 (aRun y s m)) 85 ∧ Blk wr (A + 1) (ints .i64 (List.replicate 19 0)) 85 ∧ Ext w wr) (fun j _ => 5 - (intOf j).toNat)
   case atStart => exact ⟨0, by omega, rfl, H1.out, H2.out, H3.out⟩
   case round =>
    clear H1 H2 H3 HGR
    obtain ⟨m, hm, rfl, hb1, hb2, hbel⟩ := hrel
    have m0 : (0 : Int) ≤ (m : Int) := Int.natCast_nonneg _
    have hlen := aRun_length y s m
    rw [HYL.out] at hlen
    by_cases hlm : m < 5
    ·have m1 : (m : Int) < 5 := by omega
     have m19 : (m : Int) < 19 := by omega
     have HIX := tail_index m hlm
     have e1 := hb1.cell m
     rw [ints_get (by omega)] at e1
     have f1 := hb1.free m
     have hst : aRun y s (m + 1) = (aRun y s m).set m ((aRun y s m).getD m 0 + s * TAIL.getD m 0) := rfl
     have q3 := TAIL_getD m
     have HAN := HAND.out (TAIL.getD m 0) q3.1 (by omega)
     have q2 := HRS.out.low m (by omega)
     rw [← aRun_far y s m m (Nat.le_refl _)] at q2
     have q4 : 0 ≤ s * TAIL.getD m 0 ∧ s * TAIL.getD m 0 < 268435456 := by rcases HS.out with h | h <;> rw [h] <;> omega
     have HST2 := Lib.hid hst
     generalize (aRun y s m).getD m 0 = a at *
     generalize s * TAIL.getD m 0 = st at *
     generalize TAIL.getD m 0 = t at *
     have H1 := Lib.hid hb1
     have H2 := Lib.hid hb2
     have H3 := Lib.hid hbel
     clear hst hb1 hb2 hbel hlen q3
     go_wp2_with fail
     go_roundw
     case rel =>
      refine ⟨m + 1, by omega, by go_num, ?_, H2.out.far (by simp) _, Below.setCell H3.out hA2 _⟩
      rw [HST2.out, ← ints_set]
      exact H1.out.set m _
     case measure => simp [intOf]; omega
    ·have hm5 : m = 5 := by omega
     subst hm5
     have f8 := hb1.free 8
     have e8 := hb1.cell 8
     rw [ints_get (by omega)] at e8
     have q8 := HRS.out.here
     rw [← aRun_far y s 5 8 (by omega)] at q8
     have HAN := HAND.out 268435456 (by omega) (by omega)
     have q4 : 0 ≤ s * 268435456 ∧ s * 268435456 ≤ 268435456 := by rcases HS.out with h | h <;> rw [h] <;> omega
     have hal : (addQ y).length = 19 := HADD.out.1
     have HCA := Lib.hid (fun w => scl_carried_any (addQ y) 0 8 0 8 1152921504606846976 hal (by omega) rfl rfl (by omega) (by omega) (fun j _ hj => HADD.out.2.1 j (by omega)) w)
     have hb1' := hb1.set 8 (.int .i64 ((aRun y s 5).getD 8 0 + s * 268435456))
     rw [ints_set, ← HAD.out] at hb1'
     have hb2' := hb2.far (a := ⟨A, 8, none⟩) (by simp) (.int .i64 ((aRun y s 5).getD 8 0 + s * 268435456))
     have hbel' : Ext w (wr.setCell ⟨A, 8, none⟩ (.int .i64 ((aRun y s 5).getD 8 0 + s * 268435456))) := Below.setCell hbel hA2 _
     generalize (aRun y s 5).getD 8 0 = a8 at *
     generalize s * 268435456 = st at *
     have hi1 : Hid ((Tryd.prog.info? 85).map (·.size) = some (ints .i64 (addQ y)).length) := Lib.hid (by rw [ints_length, hal]; exact Tryd.arr85)
     have H1 := Lib.hid hb1'
     have H2 := Lib.hid hb2'
     have H3 := Lib.hid hbel'
     have HLN := Lib.hid hal
     clear hb1 hb2 hbel hb1' hb2' hbel' hlen hal
     go_wp2_with (refine wpList_load_blk rfl _ _ rfl A rfl _ _ _ _ H1.out Tryd.underlying85 hi1.out ?_)
     refine (HCA.out _).mono ?_
     rintro e w5 ⟨rfl, hb5⟩
     have H2 := Lib.hid (ext_blk H2.out hb5)
     have H3 := Lib.hid (H3.out.trans hb5)
     have hi2 : Hid ((Tryd.prog.info? 85).map (·.size) = some (ints .i64 (cRun (addQ y) 0 8)).length) := Lib.hid (by rw [ints_length, cRun_length, HLN.out]; exact Tryd.arr85)
     have hl2 : Hid ((ints .i64 (cRun (addQ y) 0 8)).length = (ints .i64 (List.replicate 19 0)).length) := Lib.hid (by rw [ints_length, ints_length, cRun_length, HLN.out]; rfl)
     clear hb5 HCA
     go_wp2_with (refine wpList_store_blk rfl _ _ _ rfl (A + 1) _ rfl rfl _ _ H2.out hl2.out hi2.out (ints_one _ _) ?_; intro w6 hb6 hg6)
     exact bodyPost_ret (v := .agg (ints .i64 (cRun (addQ y) 0 8)).toArray) (result_row (by rfl) _ (A + 1) _ _ _ (by rfl) hb6 Tryd.underlying85 rfl hi2.out) rfl ⟨by rw [HRF.out], ext_grown H3.out hg6 (by omega)⟩
theorem gTail : Tryd.prog.globalNamed "portcullis/scalar.tail" = some 8 := by kernel_rfl
theorem tTail : (Tryd.prog.globals[8]?).map (·.type) = some 141 := by kernel_rfl
theorem dTail : (Rows.laid_portcullis_scalar_tail : DataW Unit) = .agg (TAIL.map fun z => .lit (.int .i64 z)) := rfl
theorem globT_of {W : World} {L : List (String × DataW Unit)} (hp : (L.all fun x => x.2.handleName?.isNone) = true) (h : laidMetH Tryd.prog L W) (hm : ("portcullis/scalar.tail", Rows.laid_portcullis_scalar_tail) ∈ L) : GlobT W :=
 range_of_laid hp h hm dTail gTail tTail Tryd.underlying141 Tryd.underlying2 (by kernel_rfl) rfl
theorem and_u64_63 (n : Nat) (h1 : 0 < n) (h2 : n < 64) : bits .and .u64 (IntKind.u64.wrap (-(n : Int))) 63 = ((64 - n : Nat) : Int) := by
 have h : (BitVec.ofInt 64 63).toNat = 2 ^ 6 - 1 := by decide
 have key : (BitVec.ofInt 64 (IntKind.u64.wrap (-(n : Int))) &&& BitVec.ofInt 64 63).toNat = ((IntKind.u64.wrap (-(n : Int))) % ((2 ^ 64 : Nat) : Int)).toNat % 2 ^ 6 := by
  rw [BitVec.toNat_and, BitVec.toNat_ofInt, h, Nat.and_two_pow_sub_one_eq_mod]
 show IntKind.u64.wrap ((BitVec.ofInt 64 (IntKind.u64.wrap (-(n : Int))) &&& BitVec.ofInt 64 63).toNat : Nat) = _
 rw [key, IntKind.wrap_u64, IntKind.wrap_u64]
 omega
theorem qi_rotlQ (a : Q64) (n : Nat) : bits .or .u64 (IntKind.u64.wrap (qi a * 2 ^ (64 - n))) (qi a / 2 ^ n) = qi (rotq a n) := by
 rw [qi_shr, qi_shl, qi_or, BitVec.or_comm]
 rfl
set_option maxHeartbeats 1000000 in
theorem rotl_anyQ (x : Q64) (n : Nat) (h1 : 0 < n) (h2 : n < 64) (w : World) : Calls Tryd.prog 115 #[.int .u64 (qi x), .int .i64 (-(n : Int))] w fun e w' => e = .returned (.int .u64 (qi (rotq x n))) ∧ w = w' := by
 have HX := Lib.hid (qi_rotlQ x n)
 have hr := qi_range x
 have ha := and_u64_63 n h1 h2
 have n0 : 64 - ((64 - n : Nat) : Int) = (n : Int) := by omega
 have n1 : ((64 - n : Nat) : Int) < 64 := by omega
 generalize qi x = z at *
 generalize 64 - n = m at *
 have hw : IntKind.u64.wrap (64 - (m : Int)) = (n : Int) := by rw [n0, IntKind.wrap_u64]; omega
 go_enter Tryd.func115, Tryd.ntmps115
 go_wp2_with fail
 go_ret
 exact ⟨congrArg (fun v => Ending.returned (.int .u64 v)) (by rw [← HX.out, IntKind.wrap_u64]), rfl⟩
set_option maxHeartbeats 1000000 in
theorem turned_anyQ (x : Q64) (n : Nat) (h1 : 0 < n) (h2 : n < 64) (w : World) : Calls Tryd.prog 112 #[.int .u64 (qi x), .int .i64 (n : Int)] w fun e w' => e = .returned (.int .u64 (qi (rotq x n))) ∧ w = w' := by
 have HR := Lib.hid (rotl_anyQ x n h1 h2 w)
 generalize qi x = z at *
 generalize qi (rotq x n) = r at *
 have hw : IntKind.i64.wrap (-(n : Int)) = -(n : Int) := IntWalk.i64_in _ (by omega)
 go_enter Tryd.func112, Tryd.ntmps112
 go_wp2_with fail
 refine HR.out.mono ?_
 rintro e w' ⟨rfl, rfl⟩
 go_wp2_with fail
 go_ret
 exact ⟨rfl, rfl⟩
set_option maxHeartbeats 1000000 in
theorem sum_anyQ (x : Q64) (a b c : Nat) (a1 : 0 < a) (a2 : a < 64) (b1 : 0 < b) (b2 : b < 64) (c1 : 0 < c) (c2 : c < 64) (w : World) :
  Calls Tryd.prog 103 #[.int .u64 (qi x), .int .i64 (a : Int), .int .i64 (b : Int), .int .i64 (c : Int)] w fun e w' => e = .returned (.int .u64 (qi (rotq x a ^^^ rotq x b ^^^ rotq x c))) ∧ w = w' := by
 have HA := Lib.hid (fun w => turned_anyQ x a a1 a2 w)
 have HB := Lib.hid (fun w => turned_anyQ x b b1 b2 w)
 have HC := Lib.hid (fun w => turned_anyQ x c c1 c2 w)
 have hx : qi (rotq x a ^^^ rotq x b ^^^ rotq x c) = bits .xor .u64 (bits .xor .u64 (qi (rotq x a)) (qi (rotq x b))) (qi (rotq x c)) := by rw [qi_xor, qi_xor]
 rw [hx]
 generalize qi x = z at *
 generalize qi (rotq x a) = ra at *
 generalize qi (rotq x b) = rb at *
 generalize qi (rotq x c) = rc at *
 clear hx
 go_enter Tryd.func103, Tryd.ntmps103
 go_wp2_with fail
 refine (HA.out _).mono ?_
 rintro e w' ⟨rfl, rfl⟩
 go_wp2_with fail
 refine (HB.out _).mono ?_
 rintro e w' ⟨rfl, rfl⟩
 go_wp2_with fail
 refine (HC.out _).mono ?_
 rintro e w' ⟨rfl, rfl⟩
 go_wp2_with fail
 go_ret
 exact ⟨rfl, rfl⟩
theorem sum_extQ (x : Q64) (a b c : Nat) (a1 : 0 < a) (a2 : a < 64) (b1 : 0 < b) (b2 : b < 64) (c1 : 0 < c) (c2 : c < 64) (w : World) :
  Calls Tryd.prog 103 #[.int .u64 (qi x), .int .i64 (a : Int), .int .i64 (b : Int), .int .i64 (c : Int)] w fun e w' => e = .returned (.int .u64 (qi (rotq x a ^^^ rotq x b ^^^ rotq x c))) ∧ Below w.heap.size w w' :=
 (sum_anyQ x a b c a1 a2 b1 b2 c1 c2 w).mono fun _ _ h => ⟨h.1, by obtain ⟨_, rfl⟩ := h; exact Below.refl _ _⟩
section
section
variable {P : Program} {ops : Array Oper} {C : World → Prop} {D : Act → Prop}
theorem det_conv {o : Oper} {rest : List Oper} {a : Act} (src dst : TypeId) (x : Operand) (k k' : IntKind) (n r : Int) (hw : Region.wanted o (yielded ops a.tmps) = true) (ho : o.op = .convert src dst x) (hx : a.eval x = .int k n)
  (hs : (P.underlying src).isSome = true) (hd : P.underlying dst = some (.int k')) (hr : k'.wrap n = r) (next : wpDet P ops C D rest (a.put o.dst (.int k' r))) : wpDet P ops C D (o :: rest) a :=
 det_val _ hw (fun w _ => by
  obtain ⟨u, hu⟩ := Option.isSome_iff_exists.1 hs
  have h : (convert src dst (.int k n)).run P w = .ok (.int k' r) w := by
   simp [convert, run_underlying hu, run_underlying hd, Conv.intToInt, hr]
  unfold execOp
  simp only [ho, hx, Sem.run_bind, h, Result.andThen_ok, Sem.run_pure]) next
theorem det_shlk {o : Oper} {rest : List Oper} {a : Act} (ty rt : TypeId) (x y : Operand) (k ky : IntKind) (m r : Int) (n : Nat) (hw : Region.wanted o (yielded ops a.tmps) = true) (ho : o.op = .binOp .shl ty x y rt) (hx : a.eval x = .int k m) (hy : a.eval y = .int ky (n : Int)) (hn : n ≤ k.bits)
  (hr : k.wrap (m * 2 ^ n) = r) (next : wpDet P ops C D rest (a.put o.dst (.int k r))) : wpDet P ops C D (o :: rest) a :=
 det_val _ hw (fun w _ => by
  have h3 : ¬ ((n : Int) < 0) := by omega
  have h4 : Op.shift .shl k m ky (n : Int) = pure (.int k r) := by
   unfold Op.shift
   rw [if_neg h3]
   simp only [Int.toNat_natCast, Nat.min_eq_left hn, hr]
  have h5 : binOp .shl ty (.int k m) (.int ky (n : Int)) = Op.shift .shl k m ky (n : Int) := rfl
  unfold execOp
  simp only [ho, hx, hy, h5, h4]
  simp [eqGuard]) next
end
end
theorem shb_or8 (x0 x1 x2 x3 x4 x5 x6 x7 : Nat) (h0 : x0 < 256) (h1 : x1 < 256) (h2 : x2 < 256) (h3 : x3 < 256) (h4 : x4 < 256) (h5 : x5 < 256) (h6 : x6 < 256) (h7 : x7 < 256) :
  bits .or .u64 (bits .or .u64 (bits .or .u64 (bits .or .u64 (bits .or .u64 (bits .or .u64 (bits .or .u64 ((x0 : Int) * 72057594037927936) ((x1 : Int) * 281474976710656)) ((x2 : Int) * 1099511627776)) ((x3 : Int) * 4294967296)) ((x4 : Int) * 16777216)) ((x5 : Int) * 65536)) ((x6 : Int) * 256)) (x7 : Int) = qi (BitVec.ofNat 64 (256 * (256 * (256 * (256 * (256 * (256 * (256 * x0 + x1) + x2) + x3) + x4) + x5) + x6) + x7)) := by
 have a0 : (x0 : Int) * 72057594037927936 = ((72057594037927936 * x0 : Nat) : Int) := by omega
 have a1 : (x1 : Int) * 281474976710656 = ((281474976710656 * x1 : Nat) : Int) := by omega
 have a2 : (x2 : Int) * 1099511627776 = ((1099511627776 * x2 : Nat) : Int) := by omega
 have a3 : (x3 : Int) * 4294967296 = ((4294967296 * x3 : Nat) : Int) := by omega
 have a4 : (x4 : Int) * 16777216 = ((16777216 * x4 : Nat) : Int) := by omega
 have a5 : (x5 : Int) * 65536 = ((65536 * x5 : Nat) : Int) := by omega
 have a6 : (x6 : Int) * 256 = ((256 * x6 : Nat) : Int) := by omega
 have b1 : 72057594037927936 * x0 ||| 281474976710656 * x1 = 72057594037927936 * x0 + 281474976710656 * x1 := by
  have h := or_sum 56 (281474976710656 * x1) (x0) (by omega)
  have e : 2 ^ 56 * (x0) = 72057594037927936 * x0 := by omega
  rwa [e] at h
 have b2 : 72057594037927936 * x0 + 281474976710656 * x1 ||| 1099511627776 * x2 = 72057594037927936 * x0 + 281474976710656 * x1 + 1099511627776 * x2 := by
  have h := or_sum 48 (1099511627776 * x2) (256 * x0 + x1) (by omega)
  have e : 2 ^ 48 * (256 * x0 + x1) = 72057594037927936 * x0 + 281474976710656 * x1 := by omega
  rwa [e] at h
 have b3 : 72057594037927936 * x0 + 281474976710656 * x1 + 1099511627776 * x2 ||| 4294967296 * x3 = 72057594037927936 * x0 + 281474976710656 * x1 + 1099511627776 * x2 + 4294967296 * x3 := by
  have h := or_sum 40 (4294967296 * x3) (256 * (256 * x0 + x1) + x2) (by omega)
  have e : 2 ^ 40 * (256 * (256 * x0 + x1) + x2) = 72057594037927936 * x0 + 281474976710656 * x1 + 1099511627776 * x2 := by omega
  rwa [e] at h
 have b4 : 72057594037927936 * x0 + 281474976710656 * x1 + 1099511627776 * x2 + 4294967296 * x3 ||| 16777216 * x4 = 72057594037927936 * x0 + 281474976710656 * x1 + 1099511627776 * x2 + 4294967296 * x3 + 16777216 * x4 := by
  have h := or_sum 32 (16777216 * x4) (256 * (256 * (256 * x0 + x1) + x2) + x3) (by omega)
  have e : 2 ^ 32 * (256 * (256 * (256 * x0 + x1) + x2) + x3) = 72057594037927936 * x0 + 281474976710656 * x1 + 1099511627776 * x2 + 4294967296 * x3 := by omega
  rwa [e] at h
 have b5 : 72057594037927936 * x0 + 281474976710656 * x1 + 1099511627776 * x2 + 4294967296 * x3 + 16777216 * x4 ||| 65536 * x5 = 72057594037927936 * x0 + 281474976710656 * x1 + 1099511627776 * x2 + 4294967296 * x3 + 16777216 * x4 + 65536 * x5 := by
  have h := or_sum 24 (65536 * x5) (256 * (256 * (256 * (256 * x0 + x1) + x2) + x3) + x4) (by omega)
  have e : 2 ^ 24 * (256 * (256 * (256 * (256 * x0 + x1) + x2) + x3) + x4) = 72057594037927936 * x0 + 281474976710656 * x1 + 1099511627776 * x2 + 4294967296 * x3 + 16777216 * x4 := by omega
  rwa [e] at h
 have b6 : 72057594037927936 * x0 + 281474976710656 * x1 + 1099511627776 * x2 + 4294967296 * x3 + 16777216 * x4 + 65536 * x5 ||| 256 * x6 = 72057594037927936 * x0 + 281474976710656 * x1 + 1099511627776 * x2 + 4294967296 * x3 + 16777216 * x4 + 65536 * x5 + 256 * x6 := by
  have h := or_sum 16 (256 * x6) (256 * (256 * (256 * (256 * (256 * x0 + x1) + x2) + x3) + x4) + x5) (by omega)
  have e : 2 ^ 16 * (256 * (256 * (256 * (256 * (256 * x0 + x1) + x2) + x3) + x4) + x5) = 72057594037927936 * x0 + 281474976710656 * x1 + 1099511627776 * x2 + 4294967296 * x3 + 16777216 * x4 + 65536 * x5 := by omega
  rwa [e] at h
 have b7 : 72057594037927936 * x0 + 281474976710656 * x1 + 1099511627776 * x2 + 4294967296 * x3 + 16777216 * x4 + 65536 * x5 + 256 * x6 ||| x7 = 72057594037927936 * x0 + 281474976710656 * x1 + 1099511627776 * x2 + 4294967296 * x3 + 16777216 * x4 + 65536 * x5 + 256 * x6 + x7 := by
  have h := or_sum 8 (x7) (256 * (256 * (256 * (256 * (256 * (256 * x0 + x1) + x2) + x3) + x4) + x5) + x6) (by omega)
  have e : 2 ^ 8 * (256 * (256 * (256 * (256 * (256 * (256 * x0 + x1) + x2) + x3) + x4) + x5) + x6) = 72057594037927936 * x0 + 281474976710656 * x1 + 1099511627776 * x2 + 4294967296 * x3 + 16777216 * x4 + 65536 * x5 + 256 * x6 := by omega
  rwa [e] at h
 have e : 256 * (256 * (256 * (256 * (256 * (256 * (256 * x0 + x1) + x2) + x3) + x4) + x5) + x6) + x7 = 72057594037927936 * x0 + 281474976710656 * x1 + 1099511627776 * x2 + 4294967296 * x3 + 16777216 * x4 + 65536 * x5 + 256 * x6 + x7 := by omega
 rw [a0, a1, a2, a3, a4, a5, a6, or64 _ _ (by omega) (by omega), b1, or64 _ _ (by omega) (by omega), b2, or64 _ _ (by omega) (by omega), b3, or64 _ _ (by omega) (by omega), b4, or64 _ _ (by omega) (by omega), b5, or64 _ _ (by omega) (by omega), b6, or64 _ _ (by omega) (by omega), b7, e, qi_lit _ (by omega)]
set_option maxRecDepth 100000 in
set_option maxHeartbeats 2000000 in
/-- A word is read off eight bytes of a block. -/
theorem word_anyQ (c off len cap : Nat) (cs : List UInt8) (t : TypeId) (w : World) (hb : Blk w c (cs.map bval) t) (hl : off + 8 ≤ cs.length) (h4 : 8 ≤ len) :
  Calls Tryd.prog 111 #[.slice (some ⟨c, off, none⟩) len cap] w fun e w' => e = .returned (.int .u64 (qi (beQ cs off))) ∧ Below w.heap.size w w' := by
 have cc : ∀ j, j ≤ 7 → w.cell? ⟨c, off + j, none⟩ = some (.int .u8 ((cs.getD (off + j) 0).toNat : Int)) := fun j hj => by
  rw [hb.cell, bval_get (by omega)]
 have c0 := cc 0 (by omega)
 have c1 := cc 1 (by omega)
 have c2 := cc 2 (by omega)
 have c3 := cc 3 (by omega)
 have c4 := cc 4 (by omega)
 have c5 := cc 5 (by omega)
 have c6 := cc 6 (by omega)
 have c7 := cc 7 (by omega)
 have d0 := UInt8.toNat_lt (cs.getD (off + 0) 0)
 have d1 := UInt8.toNat_lt (cs.getD (off + 1) 0)
 have d2 := UInt8.toNat_lt (cs.getD (off + 2) 0)
 have d3 := UInt8.toNat_lt (cs.getD (off + 3) 0)
 have d4 := UInt8.toNat_lt (cs.getD (off + 4) 0)
 have d5 := UInt8.toNat_lt (cs.getD (off + 5) 0)
 have d6 := UInt8.toNat_lt (cs.getD (off + 6) 0)
 have d7 := UInt8.toNat_lt (cs.getD (off + 7) 0)
 have HBE : Hid (beQ cs off = BitVec.ofNat 64 (256 * (256 * (256 * (256 * (256 * (256 * (256 * (cs.getD (off + 0) 0).toNat + (cs.getD (off + 1) 0).toNat) + (cs.getD (off + 2) 0).toNat) + (cs.getD (off + 3) 0).toNat) + (cs.getD (off + 4) 0).toNat) + (cs.getD (off + 5) 0).toNat) + (cs.getD (off + 6) 0).toNat) + (cs.getD (off + 7) 0).toNat)) := Lib.hid (by simp only [beQ, beN, Nat.mul_zero, Nat.zero_add])
 generalize (cs.getD (off + 0) 0).toNat = x0 at *
 generalize (cs.getD (off + 1) 0).toNat = x1 at *
 generalize (cs.getD (off + 2) 0).toNat = x2 at *
 generalize (cs.getD (off + 3) 0).toNat = x3 at *
 generalize (cs.getD (off + 4) 0).toNat = x4 at *
 generalize (cs.getD (off + 5) 0).toNat = x5 at *
 generalize (cs.getD (off + 6) 0).toNat = x6 at *
 generalize (cs.getD (off + 7) 0).toNat = x7 at *
 have hcl : c < w.heap.size := hb.lt
 clear cc hb hl
 have i0 : (0 : Int) < (len : Int) ∧ (1 : Int) < (len : Int) ∧ (2 : Int) < (len : Int) ∧ (3 : Int) < (len : Int) ∧ (4 : Int) < (len : Int) ∧ (5 : Int) < (len : Int) ∧ (6 : Int) < (len : Int) ∧ (7 : Int) < (len : Int) := by omega
 obtain ⟨i0, i1, i2, i3, i4, i5, i6, i7⟩ := i0
 have HC0 : Hid (∀ w' : World, Ext w w' → w'.cell? ⟨c, off + 0, none⟩ = some (.int .u8 (x0 : Int))) := Lib.hid (fun w' he => by rw [← c0]; exact he.cell (p := ⟨c, off + 0, none⟩) hcl)
 have HC1 : Hid (∀ w' : World, Ext w w' → w'.cell? ⟨c, off + 1, none⟩ = some (.int .u8 (x1 : Int))) := Lib.hid (fun w' he => by rw [← c1]; exact he.cell (p := ⟨c, off + 1, none⟩) hcl)
 have HC2 : Hid (∀ w' : World, Ext w w' → w'.cell? ⟨c, off + 2, none⟩ = some (.int .u8 (x2 : Int))) := Lib.hid (fun w' he => by rw [← c2]; exact he.cell (p := ⟨c, off + 2, none⟩) hcl)
 have HC3 : Hid (∀ w' : World, Ext w w' → w'.cell? ⟨c, off + 3, none⟩ = some (.int .u8 (x3 : Int))) := Lib.hid (fun w' he => by rw [← c3]; exact he.cell (p := ⟨c, off + 3, none⟩) hcl)
 have HC4 : Hid (∀ w' : World, Ext w w' → w'.cell? ⟨c, off + 4, none⟩ = some (.int .u8 (x4 : Int))) := Lib.hid (fun w' he => by rw [← c4]; exact he.cell (p := ⟨c, off + 4, none⟩) hcl)
 have HC5 : Hid (∀ w' : World, Ext w w' → w'.cell? ⟨c, off + 5, none⟩ = some (.int .u8 (x5 : Int))) := Lib.hid (fun w' he => by rw [← c5]; exact he.cell (p := ⟨c, off + 5, none⟩) hcl)
 have HC6 : Hid (∀ w' : World, Ext w w' → w'.cell? ⟨c, off + 6, none⟩ = some (.int .u8 (x6 : Int))) := Lib.hid (fun w' he => by rw [← c6]; exact he.cell (p := ⟨c, off + 6, none⟩) hcl)
 have HC7 : Hid (∀ w' : World, Ext w w' → w'.cell? ⟨c, off + 7, none⟩ = some (.int .u8 (x7 : Int))) := Lib.hid (fun w' he => by rw [← c7]; exact he.cell (p := ⟨c, off + 7, none⟩) hcl)
 clear c0 c1 c2 c3 c4 c5 c6 c7
 go_enter Tryd.func111, Tryd.ntmps111
 go_wp2_with fail
 refine wp_region_all (by kernel_rfl) (by kernel_rfl) ?_
 refine det_move _ (.slice (some ⟨c, off, none⟩) len cap) (by rfl) rfl rfl ?_
 simp only [Act.put, nrm]
 refine det_sindex _ _ _ _ c off len cap 0 (by rfl) rfl rfl rfl Tryd.underlying33 (by omega) Tryd.sizeOf5 ?_
 simp only [Act.put, nrm]
 refine det_cell _ _ c (off + 0) (.int .u8 (x0 : Int)) (by rfl) rfl rfl (fun w' hw => HC0.out w' hw) Tryd.isAgg5 ?_
 simp only [Act.put, nrm]
 refine det_conv _ _ _ .u8 .u64 (x0 : Int) (x0 : Int) (by rfl) rfl rfl rfl Tryd.underlying95 (w64 (by omega)) ?_
 simp only [Act.put, nrm]
 refine det_shlk _ _ _ _ .u64 .u64 (x0 : Int) ((x0 : Int) * 72057594037927936) 56 (by rfl) rfl rfl rfl (by decide) (by rw [IntKind.wrap_u64]; omega) ?_
 simp only [Act.put, nrm]
 refine det_move _ (.slice (some ⟨c, off, none⟩) len cap) (by rfl) rfl rfl ?_
 simp only [Act.put, nrm]
 refine det_sindex _ _ _ _ c off len cap 1 (by rfl) rfl rfl rfl Tryd.underlying33 (by omega) Tryd.sizeOf5 ?_
 simp only [Act.put, nrm]
 refine det_cell _ _ c (off + 1) (.int .u8 (x1 : Int)) (by rfl) rfl rfl (fun w' hw => HC1.out w' hw) Tryd.isAgg5 ?_
 simp only [Act.put, nrm]
 refine det_conv _ _ _ .u8 .u64 (x1 : Int) (x1 : Int) (by rfl) rfl rfl rfl Tryd.underlying95 (w64 (by omega)) ?_
 simp only [Act.put, nrm]
 refine det_shlk _ _ _ _ .u64 .u64 (x1 : Int) ((x1 : Int) * 281474976710656) 48 (by rfl) rfl rfl rfl (by decide) (by rw [IntKind.wrap_u64]; omega) ?_
 simp only [Act.put, nrm]
 refine det_or _ _ _ _ _ _ _ (bits .or .u64 ((x0 : Int) * 72057594037927936) ((x1 : Int) * 281474976710656)) (by rfl) rfl rfl rfl rfl ?_
 simp only [Act.put, nrm]
 refine det_move _ (.slice (some ⟨c, off, none⟩) len cap) (by rfl) rfl rfl ?_
 simp only [Act.put, nrm]
 refine det_sindex _ _ _ _ c off len cap 2 (by rfl) rfl rfl rfl Tryd.underlying33 (by omega) Tryd.sizeOf5 ?_
 simp only [Act.put, nrm]
 refine det_cell _ _ c (off + 2) (.int .u8 (x2 : Int)) (by rfl) rfl rfl (fun w' hw => HC2.out w' hw) Tryd.isAgg5 ?_
 simp only [Act.put, nrm]
 refine det_conv _ _ _ .u8 .u64 (x2 : Int) (x2 : Int) (by rfl) rfl rfl rfl Tryd.underlying95 (w64 (by omega)) ?_
 simp only [Act.put, nrm]
 refine det_shlk _ _ _ _ .u64 .u64 (x2 : Int) ((x2 : Int) * 1099511627776) 40 (by rfl) rfl rfl rfl (by decide) (by rw [IntKind.wrap_u64]; omega) ?_
 simp only [Act.put, nrm]
 refine det_or _ _ _ _ _ _ _ (bits .or .u64 (bits .or .u64 ((x0 : Int) * 72057594037927936) ((x1 : Int) * 281474976710656)) ((x2 : Int) * 1099511627776)) (by rfl) rfl rfl rfl rfl ?_
 simp only [Act.put, nrm]
 refine det_move _ (.slice (some ⟨c, off, none⟩) len cap) (by rfl) rfl rfl ?_
 simp only [Act.put, nrm]
 refine det_sindex _ _ _ _ c off len cap 3 (by rfl) rfl rfl rfl Tryd.underlying33 (by omega) Tryd.sizeOf5 ?_
 simp only [Act.put, nrm]
 refine det_cell _ _ c (off + 3) (.int .u8 (x3 : Int)) (by rfl) rfl rfl (fun w' hw => HC3.out w' hw) Tryd.isAgg5 ?_
 simp only [Act.put, nrm]
 refine det_conv _ _ _ .u8 .u64 (x3 : Int) (x3 : Int) (by rfl) rfl rfl rfl Tryd.underlying95 (w64 (by omega)) ?_
 simp only [Act.put, nrm]
 refine det_shlk _ _ _ _ .u64 .u64 (x3 : Int) ((x3 : Int) * 4294967296) 32 (by rfl) rfl rfl rfl (by decide) (by rw [IntKind.wrap_u64]; omega) ?_
 simp only [Act.put, nrm]
 refine det_or _ _ _ _ _ _ _ (bits .or .u64 (bits .or .u64 (bits .or .u64 ((x0 : Int) * 72057594037927936) ((x1 : Int) * 281474976710656)) ((x2 : Int) * 1099511627776)) ((x3 : Int) * 4294967296)) (by rfl) rfl rfl rfl rfl ?_
 simp only [Act.put, nrm]
 refine det_move _ (.slice (some ⟨c, off, none⟩) len cap) (by rfl) rfl rfl ?_
 simp only [Act.put, nrm]
 refine det_sindex _ _ _ _ c off len cap 4 (by rfl) rfl rfl rfl Tryd.underlying33 (by omega) Tryd.sizeOf5 ?_
 simp only [Act.put, nrm]
 refine det_cell _ _ c (off + 4) (.int .u8 (x4 : Int)) (by rfl) rfl rfl (fun w' hw => HC4.out w' hw) Tryd.isAgg5 ?_
 simp only [Act.put, nrm]
 refine det_conv _ _ _ .u8 .u64 (x4 : Int) (x4 : Int) (by rfl) rfl rfl rfl Tryd.underlying95 (w64 (by omega)) ?_
 simp only [Act.put, nrm]
 refine det_shlk _ _ _ _ .u64 .u64 (x4 : Int) ((x4 : Int) * 16777216) 24 (by rfl) rfl rfl rfl (by decide) (by rw [IntKind.wrap_u64]; omega) ?_
 simp only [Act.put, nrm]
 refine det_or _ _ _ _ _ _ _ (bits .or .u64 (bits .or .u64 (bits .or .u64 (bits .or .u64 ((x0 : Int) * 72057594037927936) ((x1 : Int) * 281474976710656)) ((x2 : Int) * 1099511627776)) ((x3 : Int) * 4294967296)) ((x4 : Int) * 16777216)) (by rfl) rfl rfl rfl rfl ?_
 simp only [Act.put, nrm]
 refine det_move _ (.slice (some ⟨c, off, none⟩) len cap) (by rfl) rfl rfl ?_
 simp only [Act.put, nrm]
 refine det_sindex _ _ _ _ c off len cap 5 (by rfl) rfl rfl rfl Tryd.underlying33 (by omega) Tryd.sizeOf5 ?_
 simp only [Act.put, nrm]
 refine det_cell _ _ c (off + 5) (.int .u8 (x5 : Int)) (by rfl) rfl rfl (fun w' hw => HC5.out w' hw) Tryd.isAgg5 ?_
 simp only [Act.put, nrm]
 refine det_conv _ _ _ .u8 .u64 (x5 : Int) (x5 : Int) (by rfl) rfl rfl rfl Tryd.underlying95 (w64 (by omega)) ?_
 simp only [Act.put, nrm]
 refine det_shlk _ _ _ _ .u64 .u64 (x5 : Int) ((x5 : Int) * 65536) 16 (by rfl) rfl rfl rfl (by decide) (by rw [IntKind.wrap_u64]; omega) ?_
 simp only [Act.put, nrm]
 refine det_or _ _ _ _ _ _ _ (bits .or .u64 (bits .or .u64 (bits .or .u64 (bits .or .u64 (bits .or .u64 ((x0 : Int) * 72057594037927936) ((x1 : Int) * 281474976710656)) ((x2 : Int) * 1099511627776)) ((x3 : Int) * 4294967296)) ((x4 : Int) * 16777216)) ((x5 : Int) * 65536)) (by rfl) rfl rfl rfl rfl ?_
 simp only [Act.put, nrm]
 refine det_move _ (.slice (some ⟨c, off, none⟩) len cap) (by rfl) rfl rfl ?_
 simp only [Act.put, nrm]
 refine det_sindex _ _ _ _ c off len cap 6 (by rfl) rfl rfl rfl Tryd.underlying33 (by omega) Tryd.sizeOf5 ?_
 simp only [Act.put, nrm]
 refine det_cell _ _ c (off + 6) (.int .u8 (x6 : Int)) (by rfl) rfl rfl (fun w' hw => HC6.out w' hw) Tryd.isAgg5 ?_
 simp only [Act.put, nrm]
 refine det_conv _ _ _ .u8 .u64 (x6 : Int) (x6 : Int) (by rfl) rfl rfl rfl Tryd.underlying95 (w64 (by omega)) ?_
 simp only [Act.put, nrm]
 refine det_shlk _ _ _ _ .u64 .u64 (x6 : Int) ((x6 : Int) * 256) 8 (by rfl) rfl rfl rfl (by decide) (by rw [IntKind.wrap_u64]; omega) ?_
 simp only [Act.put, nrm]
 refine det_or _ _ _ _ _ _ _ (bits .or .u64 (bits .or .u64 (bits .or .u64 (bits .or .u64 (bits .or .u64 (bits .or .u64 ((x0 : Int) * 72057594037927936) ((x1 : Int) * 281474976710656)) ((x2 : Int) * 1099511627776)) ((x3 : Int) * 4294967296)) ((x4 : Int) * 16777216)) ((x5 : Int) * 65536)) ((x6 : Int) * 256)) (by rfl) rfl rfl rfl rfl ?_
 simp only [Act.put, nrm]
 refine det_move _ (.slice (some ⟨c, off, none⟩) len cap) (by rfl) rfl rfl ?_
 simp only [Act.put, nrm]
 refine det_sindex _ _ _ _ c off len cap 7 (by rfl) rfl rfl rfl Tryd.underlying33 (by omega) Tryd.sizeOf5 ?_
 simp only [Act.put, nrm]
 refine det_cell _ _ c (off + 7) (.int .u8 (x7 : Int)) (by rfl) rfl rfl (fun w' hw => HC7.out w' hw) Tryd.isAgg5 ?_
 simp only [Act.put, nrm]
 refine det_conv _ _ _ .u8 .u64 (x7 : Int) (x7 : Int) (by rfl) rfl rfl rfl Tryd.underlying95 (w64 (by omega)) ?_
 simp only [Act.put, nrm]
 refine det_or _ _ _ _ _ _ _ (bits .or .u64 (bits .or .u64 (bits .or .u64 (bits .or .u64 (bits .or .u64 (bits .or .u64 (bits .or .u64 ((x0 : Int) * 72057594037927936) ((x1 : Int) * 281474976710656)) ((x2 : Int) * 1099511627776)) ((x3 : Int) * 4294967296)) ((x4 : Int) * 16777216)) ((x5 : Int) * 65536)) ((x6 : Int) * 256)) (x7 : Int)) (by rfl) rfl rfl rfl rfl ?_
 simp only [Act.put, nrm]
 refine det_assign _ (.int .u64 (bits .or .u64 (bits .or .u64 (bits .or .u64 (bits .or .u64 (bits .or .u64 (bits .or .u64 (bits .or .u64 ((x0 : Int) * 72057594037927936) ((x1 : Int) * 281474976710656)) ((x2 : Int) * 1099511627776)) ((x3 : Int) * 4294967296)) ((x4 : Int) * 16777216)) ((x5 : Int) * 65536)) ((x6 : Int) * 256)) (x7 : Int))) (by rfl) rfl rfl ?_
 simp only [Act.put, nrm]
 refine det_nil (fun w9 hw9 => ?_)
 go_wp2_with fail
 go_ret
 exact ⟨by rw [HBE.out, ← shb_or8 x0 x1 x2 x3 x4 x5 x6 x7 d0 d1 d2 d3 d4 d5 d6 d7]; rfl, hw9⟩
def put8 (cs : List UInt8) (off : Nat) (x : Q64) : List UInt8 := (((((((cs.set off (UInt8.ofNat (x.toNat / 72057594037927936))).set (off + 1) (UInt8.ofNat (x.toNat / 281474976710656))).set (off + 2) (UInt8.ofNat (x.toNat / 1099511627776))).set (off + 3) (UInt8.ofNat (x.toNat / 4294967296))).set (off + 4) (UInt8.ofNat (x.toNat / 16777216))).set (off + 5) (UInt8.ofNat (x.toNat / 65536))).set (off + 6) (UInt8.ofNat (x.toNat / 256))).set (off + 7) (UInt8.ofNat x.toNat)
theorem put8_length (cs : List UInt8) (off : Nat) (x : Q64) : (put8 cs off x).length = cs.length := by simp [put8]
theorem bval_ofNatQ (n : Nat) : bval (UInt8.ofNat n) = .int .u8 ((n : Int) % 256) := by
 unfold bval
 rw [UInt8.toNat_ofNat']
 congr 1
set_option maxRecDepth 100000 in
set_option maxHeartbeats 4000000 in
/-- A word is laid over eight bytes of a block. -/
theorem put_anyQ (c off len cap : Nat) (cs : List UInt8) (x : Q64) (t : TypeId) (w : World) (hb : Blk w c (cs.map bval) t) (hl : off + 8 ≤ cs.length) (h4 : 8 ≤ len) :
  Calls Tryd.prog 104 #[.slice (some ⟨c, off, none⟩) len cap, .int .u64 (qi x)] w fun e w' => e = .returned (.tuple #[]) ∧ Blk w' c ((put8 cs off x).map bval) t ∧ w.grownBy w' (some c) := by
 have cc : ∀ j, j ≤ 7 → w.cell? ⟨c, off + j, none⟩ = some (.int .u8 ((cs.getD (off + j) 0).toNat : Int)) := fun j hj => by
  rw [hb.cell, bval_get (by omega)]
 have ff : ∀ j, w.frozen? ⟨c, off + j, none⟩ = false := fun j => hb.free _
 have c0 := cc 0 (by omega)
 have c1 := cc 1 (by omega)
 have c2 := cc 2 (by omega)
 have c3 := cc 3 (by omega)
 have c4 := cc 4 (by omega)
 have c5 := cc 5 (by omega)
 have c6 := cc 6 (by omega)
 have c7 := cc 7 (by omega)
 have f0 := ff 0
 have f1 := ff 1
 have f2 := ff 2
 have f3 := ff 3
 have f4 := ff 4
 have f5 := ff 5
 have f6 := ff 6
 have f7 := ff 7
 simp only [Nat.add_zero] at c0 f0
 generalize (cs.getD off 0).toNat = x0 at *
 generalize (cs.getD (off + 1) 0).toNat = x1 at *
 generalize (cs.getD (off + 2) 0).toNat = x2 at *
 generalize (cs.getD (off + 3) 0).toNat = x3 at *
 generalize (cs.getD (off + 4) 0).toNat = x4 at *
 generalize (cs.getD (off + 5) 0).toNat = x5 at *
 generalize (cs.getD (off + 6) 0).toNat = x6 at *
 generalize (cs.getD (off + 7) 0).toNat = x7 at *
 have HB := Lib.hid hb
 have HL := Lib.hid hl
 have hr := qi_range x
 have HX : Hid (qi x = (x.toNat : Int)) := Lib.hid rfl
 clear cc ff hb hl
 have i0 : (0 : Int) < (len : Int) ∧ (1 : Int) < (len : Int) ∧ (2 : Int) < (len : Int) ∧ (3 : Int) < (len : Int) ∧ (4 : Int) < (len : Int) ∧ (5 : Int) < (len : Int) ∧ (6 : Int) < (len : Int) ∧ (7 : Int) < (len : Int) := by omega
 obtain ⟨i0, i1, i2, i3, i4, i5, i6, i7⟩ := i0
 have b0 : bval (UInt8.ofNat (x.toNat / 72057594037927936)) = .int .u8 (qi x / 72057594037927936) := by rw [bval_ofNatQ]; congr 1; unfold qi; have := x.isLt; omega
 have b1 : bval (UInt8.ofNat (x.toNat / 281474976710656)) = .int .u8 (qi x / 281474976710656 % 256) := by rw [bval_ofNatQ]; congr 1
 have b2 : bval (UInt8.ofNat (x.toNat / 1099511627776)) = .int .u8 (qi x / 1099511627776 % 256) := by rw [bval_ofNatQ]; congr 1
 have b3 : bval (UInt8.ofNat (x.toNat / 4294967296)) = .int .u8 (qi x / 4294967296 % 256) := by rw [bval_ofNatQ]; congr 1
 have b4 : bval (UInt8.ofNat (x.toNat / 16777216)) = .int .u8 (qi x / 16777216 % 256) := by rw [bval_ofNatQ]; congr 1
 have b5 : bval (UInt8.ofNat (x.toNat / 65536)) = .int .u8 (qi x / 65536 % 256) := by rw [bval_ofNatQ]; congr 1
 have b6 : bval (UInt8.ofNat (x.toNat / 256)) = .int .u8 (qi x / 256 % 256) := by rw [bval_ofNatQ]; congr 1
 have b7 : bval (UInt8.ofNat x.toNat) = .int .u8 (qi x % 256) := by rw [bval_ofNatQ]; congr 1
 have hP : (put8 cs off x).map bval = ((((((((cs.map bval).set off (.int .u8 (qi x / 72057594037927936))).set (off + 1) (.int .u8 (qi x / 281474976710656 % 256))).set (off + 2) (.int .u8 (qi x / 1099511627776 % 256))).set (off + 3) (.int .u8 (qi x / 4294967296 % 256))).set (off + 4) (.int .u8 (qi x / 16777216 % 256))).set (off + 5) (.int .u8 (qi x / 65536 % 256))).set (off + 6) (.int .u8 (qi x / 256 % 256))).set (off + 7) (.int .u8 (qi x % 256)) := by
  unfold put8
  rw [List.map_set, List.map_set, List.map_set, List.map_set, List.map_set, List.map_set, List.map_set, List.map_set, b0, b1, b2, b3, b4, b5, b6, b7]
 have HP := Lib.hid hP
 clear hP b0 b1 b2 b3 b4 b5 b6 b7
 generalize qi x = z at *
 go_enter Tryd.func104, Tryd.ntmps104
 go_wp2_with fail
 refine bodyPost_end (results_none rfl _ _ _) rfl ?_
 refine ⟨rfl, ?_, ?_⟩
 ·rw [HP.out]
  exact (((((((HB.out.set _ _).set _ _).set _ _).set _ _).set _ _).set _ _).set _ _).set _ _
 ·exact grownBy_set (grownBy_set (grownBy_set (grownBy_set (grownBy_set (grownBy_set (grownBy_set (grownBy_set (grownBy_refl w _) _ _) _ _) _ _) _ _) _ _) _ _) _ _) _ _
theorem Tryd.arr30 : (Tryd.prog.info? 30).map (·.size) = some 64 := by kernel_rfl
theorem sig_size {l : List UInt8} (h : l.length = 64) : (Tryd.prog.info? 30).map (·.size) = some (l.map bval).length := by rw [List.length_map, h]; exact Tryd.arr30
theorem Tryd.arr118 : (Tryd.prog.info? 118).map (·.size) = some 80 := by kernel_rfl
def zarr128 : Array Value := (ints .u8 (List.replicate 128 0)).toArray
@[simp] theorem zero_block128 (w : World) : (zeroValue 103).run Tryd.prog w = .ok (.agg zarr128) w := by kernel_rfl
theorem byte_cells : Tryd.prog.cellsOf 5 = 1 := by kernel_rfl
theorem Tryd.arr97 : (Tryd.prog.info? 97).map (·.size) = some 8 := by kernel_rfl
theorem Tryd.arr103 : (Tryd.prog.info? 103).map (·.size) = some 128 := by kernel_rfl
theorem boxes3uQ (w : World) (a b d : List Value) (s t u : TypeId) : Blk (((w.alloc (.cells a.toArray s)).alloc (.cells b.toArray t)).alloc (.cells d.toArray u)) w.heap.size a s ∧ Blk (((w.alloc (.cells a.toArray s)).alloc (.cells b.toArray t)).alloc (.cells d.toArray u)) (w.heap.size + 1) b t ∧
  Blk (((w.alloc (.cells a.toArray s)).alloc (.cells b.toArray t)).alloc (.cells d.toArray u)) (w.heap.size + 1 + 1) d u ∧ Below w.heap.size w (((w.alloc (.cells a.toArray s)).alloc (.cells b.toArray t)).alloc (.cells d.toArray u)) := by
 obtain ⟨h1, h2, h3⟩ := boxes2 w a b s t
 refine ⟨h1.alloc _, h2.alloc _, ?_, Ext.trans h3 (Ext.alloc _ _)⟩
 have := Blk.made ((w.alloc (.cells a.toArray s)).alloc (.cells b.toArray t)) d u
 simpa using this
theorem cut_arrQ {t : TypeId} {n : Nat} {e : TypeId} (ht : Tryd.prog.underlying t = some (.array n e)) (hc : Tryd.prog.cellsOf e = 1) (h : ∀ w, (sizeOf e).run Tryd.prog w = .ok 1 w) (w : World) (A p : Nat) (hp : p < n) :
  (Instr.sliceAt t (.pointer (some ⟨A, 0, none⟩)) (some (.int .i64 (p : Int))) none none).run Tryd.prog w = .ok (.slice (some ⟨A, p, none⟩) (n - p) (n - p)) w := by
 have e1 : Tryd.prog.arrayLen t = n := by unfold Program.arrayLen; rw [ht]
 have e2 : Tryd.prog.elem t = e := by unfold Program.elem; rw [ht]
 rw [run_sliceAt_array_l w t ⟨A, 0, none⟩ (by rw [e1, e2]; exact ht) .i64 (p : Int) (by omega) (by rw [e1]; omega), e2, h, e1]
 simp [slicedAt, Addr.add, show ¬ n = p by omega]
 exact fun h => h.symm
set_option maxRecDepth 100000 in
set_option maxHeartbeats 8000000 in
theorem schedule_anyQ (cs : List UInt8) (w : World) (hl : cs.length = 128) :
  Calls Tryd.prog 102 #[.agg (cs.map bval).toArray] w fun e w' => e = .returned (.agg (ints .u64 (qs (qSch cs 0 64))).toArray) ∧ Below w.heap.size w w' := by
 have HL := Lib.hid hl
 have HB := Lib.hid (boxes3uQ w (cs.map bval) (ints .u64 (List.replicate 80 0)) (ints .u64 (List.replicate 80 0)) 103 118 118)
 clear hl
 go_enter Tryd.func102, Tryd.ntmps102
 go_wp2_with fail
 obtain ⟨H1, H2, H3, HE⟩ := HB.out
 change Code.wp _ _ _ _ (((w.alloc (.cells (cs.map bval).toArray 103)).alloc (.cells (ints .u64 (List.replicate 80 0)).toArray 118)).alloc (.cells (ints .u64 (List.replicate 80 0)).toArray 118))
 generalize (((w.alloc (.cells (cs.map bval).toArray 103)).alloc (.cells (ints .u64 (List.replicate 80 0)).toArray 118)).alloc (.cells (ints .u64 (List.replicate 80 0)).toArray 118)) = w3 at *
 obtain ⟨A, hA⟩ : ∃ A, A = w.heap.size := ⟨_, rfl⟩
 rw [← hA] at H1 H2 H3 ⊢
 have hA2 : w.heap.size ≤ A := by omega
 have H1 := Lib.hid H1
 have H2 := Lib.hid H2
 have H3 := Lib.hid H3
 have HE : Hid (Ext w w3) := Lib.hid HE
 clear hA HB
 go_loopw [8] (fun iv wr => ∃ (k : Nat), k ≤ 16 ∧ iv = .int .i64 (k : Int) ∧ Blk wr A (cs.map bval) 103 ∧ Blk wr (A + 1) (ints .u64 (List.replicate 80 0)) 118 ∧ Blk wr (A + 1 + 1) (ints .u64 (qs (qTop cs 0 k))) 118 ∧ Ext w wr) (fun iv _ => 16 - (intOf iv).toNat)
 case atStart => exact ⟨0, by omega, rfl, H1.out, H2.out, by rw [qTop, qs_zeros]; exact H3.out, HE.out⟩
 case round =>
  clear H1 H2 H3 HE
  obtain ⟨k, hk, rfl, hb1, hb2, hb3, hbel⟩ := hrel
  have k0 : (0 : Int) ≤ (k : Int) := Int.natCast_nonneg _
  have hwl := qTop_length cs 0 k
  by_cases hlk : k < 16
  ·have k1 : (k : Int) < 16 := by omega
   have k64 : (k : Int) < 80 := by omega
   have e1 := hb3.cell k
   rw [ints_get (by rw [qs_length]; omega)] at e1
   have f1 := hb3.free k
   generalize (qs (qTop cs 0 k)).getD k 0 = u at e1
   have hs := cut_arrQ Tryd.underlying103 byte_cells Tryd.sizeOf5 wr A (8 * k) (by omega)
   have e4 : ((8 * k : Nat) : Int) = 8 * (k : Int) := by omega
   rw [e4] at hs
   have HB1 := Lib.hid hb1
   have HB2 := Lib.hid hb2
   have HB3 := Lib.hid hb3
   have HE := Lib.hid hbel
   have HW := Lib.hid (word_anyQ A (8 * k) (128 - 8 * k) (128 - 8 * k) cs 103 wr hb1 (by have := HL.out; omega) (by omega))
   clear hb1 hb2 hb3 hbel e4
   go_wp2_with fail
   refine HW.out.mono ?_
   rintro e w4 ⟨rfl, hb⟩
   have e1 : w4.cell? ⟨A + 1 + 1, k, none⟩ = some (.int .u64 u) := by rw [← e1]; exact hb.cell (p := ⟨A + 1 + 1, k, none⟩) HB3.out.lt
   have HB1 := Lib.hid (ext_blk HB1.out hb)
   have HB2 := Lib.hid (ext_blk HB2.out hb)
   have HB3 := Lib.hid (ext_blk HB3.out hb)
   have HE := Lib.hid (HE.out.trans hb)
   have f1 := HB3.out.free k
   clear hb HW
   have HST : Hid (qs (qTop cs 0 (k + 1)) = (qs (qTop cs 0 k)).set k (qi (beQ cs (8 * k)))) := Lib.hid (by rw [qs_set, qTop]; simp)
   generalize qi (beQ cs (8 * k)) = z at *
   go_wp2_with fail
   go_roundw
   case rel =>
    refine ⟨k + 1, by omega, by go_num, HB1.out.far (by simp <;> omega) _, HB2.out.far (by simp) _, ?_, Below.setCell HE.out (by simp <;> omega) _⟩
    rw [HST.out]
    exact HB3.out.seti k _
   case measure => simp [intOf]; omega
  ·have hk16 : k = 16 := by omega
   have hk17 : (k : Int) = 16 := by omega
   rw [hk17]
   clear hk17
   subst hk16
   have hw0 : qTop cs 0 16 = qSch cs 0 0 := rfl
   rw [hw0] at hb3
   have H1 := Lib.hid hb1
   have H2 := Lib.hid hb2
   have H3 := Lib.hid hb3
   have HE := Lib.hid hbel
   clear hb1 hb2 hb3 hbel hwl hw0
   go_wp2_with fail
   obtain ⟨wo, rfl⟩ : ∃ wo : World, wo = wr := ⟨_, rfl⟩
   go_loopw [5] (fun iv wr => ∃ (q : Nat), q ≤ 64 ∧ iv = .int .i64 ((16 + q : Nat) : Int) ∧ Blk wr (A + 1) (ints .u64 (List.replicate 80 0)) 118 ∧ Blk wr (A + 1 + 1) (ints .u64 (qs (qSch cs 0 q))) 118 ∧ Ext w wr) (fun iv _ => 80 - (intOf iv).toNat)
   case atStart => exact ⟨0, by omega, rfl, H2.out, H3.out, HE.out⟩
   case round =>
    clear H1 H2 H3 HE
    obtain ⟨q, hq, rfl, hb2, hb3, hbel⟩ := hrel
    have hwl := qSch_length cs 0 q
    by_cases hlq : q < 64
    ·obtain ⟨i, hi⟩ : ∃ i : Nat, i = 16 + q := ⟨_, rfl⟩
     rw [← hi]
     have i0 : (16 : Int) ≤ (i : Int) := by omega
     have i1 : (i : Int) < 80 := by omega
     obtain ⟨j16, hj16⟩ : ∃ j : Nat, j = i - 16 := ⟨_, rfl⟩
     obtain ⟨j15, hj15⟩ : ∃ j : Nat, j = i - 15 := ⟨_, rfl⟩
     obtain ⟨j7, hj7⟩ : ∃ j : Nat, j = i - 7 := ⟨_, rfl⟩
     obtain ⟨j2, hj2⟩ : ∃ j : Nat, j = i - 2 := ⟨_, rfl⟩
     have g16 : (i : Int) - 16 = (j16 : Int) := by omega
     have g15 : (i : Int) - 15 = (j15 : Int) := by omega
     have g7 : (i : Int) - 7 = (j7 : Int) := by omega
     have g2 : (i : Int) - 2 = (j2 : Int) := by omega
     have l16 : (j16 : Int) < 80 := by omega
     have l15 : (j15 : Int) < 80 := by omega
     have l7 : (j7 : Int) < 80 := by omega
     have l2 : (j2 : Int) < 80 := by omega
     have e16 := hb3.cell j16
     rw [ints_get (by rw [qs_length]; omega), qs_getD] at e16
     have e15 := hb3.cell j15
     rw [ints_get (by rw [qs_length]; omega), qs_getD] at e15
     have e7 := hb3.cell j7
     rw [ints_get (by rw [qs_length]; omega), qs_getD] at e7
     have e2 := hb3.cell j2
     rw [ints_get (by rw [qs_length]; omega), qs_getD] at e2
     have e0 := hb3.cell i
     rw [ints_get (by rw [qs_length]; omega), qs_getD] at e0
     have f0 := hb3.free i
     have HST : Hid (qSch cs 0 (q + 1) = (qSch cs 0 q).set i (((qSch cs 0 q).getD j2 0#64 |> tg1) + (qSch cs 0 q).getD j7 0#64 + tg0 ((qSch cs 0 q).getD j15 0#64) + (qSch cs 0 q).getD j16 0#64)) := Lib.hid (by
      rw [hi, hj16, hj15, hj7, hj2, hi, qSch, qNext]
      congr 1
      ac_rfl)
     generalize (qSch cs 0 q).getD j16 0#64 = y16 at *
     generalize (qSch cs 0 q).getD j15 0#64 = y15 at *
     generalize (qSch cs 0 q).getD j7 0#64 = y7 at *
     generalize (qSch cs 0 q).getD j2 0#64 = y2 at *
     generalize (qSch cs 0 q).getD i 0#64 = y0 at *
     have T1 := Lib.hid (fun w => turned_anyQ y15 1 (by omega) (by omega) w)
     have T2 := Lib.hid (fun w => turned_anyQ y15 8 (by omega) (by omega) w)
     have T3 := Lib.hid (fun w => turned_anyQ y2 19 (by omega) (by omega) w)
     have T4 := Lib.hid (fun w => turned_anyQ y2 61 (by omega) (by omega) w)
     have HB2 := Lib.hid hb2
     have HB3 := Lib.hid hb3
     have HE := Lib.hid hbel
     have HI := Lib.hid hi
     clear hb2 hb3 hbel hwl hi hj16 hj15 hj7 hj2 hq
     go_wp2_with fail
     go_region
     go_wp2_with fail
     refine (T1.out _).mono ?_
     rintro e w' ⟨rfl, rfl⟩
     go_wp2_with fail
     refine (T2.out _).mono ?_
     rintro e w' ⟨rfl, rfl⟩
     go_wp2_with fail
     refine (T3.out _).mono ?_
     rintro e w' ⟨rfl, rfl⟩
     go_wp2_with fail
     refine (T4.out _).mono ?_
     rintro e w' ⟨rfl, rfl⟩
     go_wp2_with fail
     have x1 : bits .xor .u64 (bits .xor .u64 (qi (rotq y15 1)) (qi (rotq y15 8))) (qi y15 / 128) = qi (tg0 y15) := by rw [show (128 : Int) = 2 ^ 7 from rfl, qi_shr, qi_xor, qi_xor]; rfl
     have x2 : bits .xor .u64 (bits .xor .u64 (qi (rotq y2 19)) (qi (rotq y2 61))) (qi y2 / 64) = qi (tg1 y2) := by rw [show (64 : Int) = 2 ^ 6 from rfl, qi_shr, qi_xor, qi_xor]; rfl
     have HX1 := Lib.hid x1
     have HX2 := Lib.hid x2
     clear x1 x2 T1 T2 T3 T4
     rw [HX1.out, HX2.out]
     have HWS : Hid (IntKind.u64.wrap (IntKind.u64.wrap (IntKind.u64.wrap (qi (tg1 y2) + qi y7) + qi (tg0 y15)) + qi y16) = qi (tg1 y2 + y7 + tg0 y15 + y16)) := Lib.hid (by rw [qi_add, qi_add, qi_add])
     go_wp2_with fail
     go_region
     go_wp2_with fail
     go_roundw
     case rel =>
      refine ⟨q + 1, by omega, by have := HI.out; subst this; go_num, (HB2.out.far (by simp) _).drewN 2, ?_, (Below.setCell HE.out (by simp <;> omega) _).drew.drew⟩
      rw [HST.out, ← qs_set, ← HWS.out]
      exact (HB3.out.seti i _).drewN 2
     case measure => simp [intOf]; omega
    ·have hk48 : q = 64 := by omega
     subst hk48
     have H2 := Lib.hid hb2
     have H3 := Lib.hid hb3
     have HE := Lib.hid hbel
     clear hb2 hb3 hbel hwl
     have HIr : Hid ((Tryd.prog.info? 118).map (·.size) = some (ints .u64 (qs (qSch cs 0 64))).length) := Lib.hid (by rw [ints_length, qs_length, qSch_length]; exact Tryd.arr118)
     have HLE : Hid ((ints .u64 (qs (qSch cs 0 64))).length = (ints .u64 (List.replicate 80 0)).length) := Lib.hid (by rw [ints_length, qs_length, qSch_length, ints_length, List.length_replicate])
     go_wp2_with (first | (refine wpList_load_blk rfl _ _ rfl (A + 1 + 1) rfl _ _ _ _ H3.out Tryd.underlying118 HIr.out ?_) | (refine wpList_store_blk rfl _ _ _ rfl (A + 1) (ints .u64 (qs (qSch cs 0 64))) rfl rfl _ _ H2.out HLE.out HIr.out (ints_one _ _) ?_; intro w4 hb4 hg4))
     refine bodyPost_ret (result_blk rfl _ (A + 1) _ _ _ _ rfl hb4 Tryd.underlying118 HIr.out) rfl ?_
     exact ⟨rfl, ext_grown HE.out hg4 (by omega)⟩
section
theorem blk_q {w : World} {c : Nat} {l : List Q64} {t : TypeId} (h : Blk w c (ints .u64 (qs l)) t) {j : Nat} (hj : j < l.length) : w.cell? ⟨c, j, none⟩ = some (.int .u64 (qi (l.getD j 0#64))) := by
 rw [h.cell, ints_get (by rw [qs_length]; exact hj), qs_getD]
section
variable {P : Program} {ops : Array Oper} {C : World → Prop} {D : Act → Prop}
theorem qi_not (x : Q64) : bits .xor .u64 18446744073709551615 (qi x) = qi (~~~x) := by
 have e : (18446744073709551615 : Int) = qi (BitVec.allOnes 64) := rfl
 rw [e, qi_xor]
 rw [BitVec.allOnes_xor]
theorem det_qinot {o : Oper} {rest : List Oper} {a : Act} (ty : TypeId) (x : Operand) (m : Q64) (hw : Region.wanted o (yielded ops a.tmps) = true) (ho : o.op = .unOp .xor ty x) (hx : a.eval x = .int .u64 (qi m))
  (next : wpDet P ops C D rest (a.put o.dst (.int .u64 (qi (~~~m))))) : wpDet P ops C D (o :: rest) a :=
 det_val _ hw (fun w _ => by
  have e := qi_not m
  have h1 : (Op.intBits .xor .u64 18446744073709551615 (qi m)) = pure (.int .u64 (bits .xor .u64 18446744073709551615 (qi m))) := rfl
  have h2 : Op.unary .xor (.int .u64 (qi m)) = Op.intBits .xor .u64 18446744073709551615 (qi m) := rfl
  unfold execOp
  simp only [ho, hx, h2, h1, e]
  simp) next
end
end
section
section
variable {P : Program} {a : Act} {w : World} {Q : Exit → Act → World → Prop}
theorem Exit.jump_mono {l : Nat} {J J' : Act → World → Prop} (h : ∀ a w, J a w → J' a w) : ∀ {e : Exit} {a : Act} {w : World}, Exit.jump l J Q e a w → Exit.jump l J' Q e a w
 | .goto _, _, _, hh => ⟨hh.1, h _ _ hh.2⟩
 | .normal, _, _, hh => hh
 | .exit _, _, _, hh => hh
 | .ret, _, _, hh => hh
 | .panic _, _, _, hh => hh
 | .outgrown, _, _, hh => hh
theorem wp_scope_back0 {c rest : Code} (l : Nat) (J : Act → World → Prop) (μ : Act → World → Nat) (hf : findLabel c l = some (Code.skip.seq rest))
  (first : (∀ a w, J a w → rest.wp P (Exit.jump l J Q) a w) → c.wp P (Exit.jump l J Q) a w)
  (pass : ∀ a w, J a w → rest.wp P (Exit.jump l (fun a' w' => J a' w' ∧ μ a' w' < μ a w) Q) a w) : (Code.scope c).wp P Q a w :=
 wp_scope_jumps l J μ hf (first fun a w h => Code.wp_mono (fun e a w h => Exit.jump_mono (fun _ _ h => h.1) h) (pass a w h)) fun a w h => wp_seq (wp_skip (pass a w h))
end
end
def mixFQ (h : List Q64) (x : List UInt8) : List Q64 := qAdd h (qRun h (qSch x 0 64) 80) 8
theorem mixF_lengthQ (h : List Q64) (x : List UInt8) : (mixFQ h x).length = h.length := qAdd_length _ _ _
def GlobRQ (w : World) : Prop := w.rangeAt 7 0 (ints .u64 (qs K512))
theorem GlobRQ.ext {w w' : World} (h : GlobRQ w) (hb : Ext w w') : GlobRQ w' := glob_ext h hb
theorem GlobRQ.cell {w : World} (h : GlobRQ w) {j : Nat} (hj : j < 80) : w.cell? ⟨7, j, none⟩ = some (.int .u64 (qi (K512.getD j 0#64))) := by
 have := h j (.int .u64 (qi (K512.getD j 0#64))) (by rw [ints_get (by rw [qs_length]; exact hj), qs_getD])
 simpa using this
theorem hAdd8Q : ∀ (h v : List Q64), h.length = 8 → v.length = 8 → qAdd h v 8 = [h.getD 0 0#64 + v.getD 0 0#64, h.getD 1 0#64 + v.getD 1 0#64, h.getD 2 0#64 + v.getD 2 0#64, h.getD 3 0#64 + v.getD 3 0#64, h.getD 4 0#64 + v.getD 4 0#64, h.getD 5 0#64 + v.getD 5 0#64, h.getD 6 0#64 + v.getD 6 0#64, h.getD 7 0#64 + v.getD 7 0#64]
 | [_, _, _, _, _, _, _, _], [_, _, _, _, _, _, _, _], _, _ => rfl
def MixJQ (h : List Q64) (cs : List UInt8) (A : Nat) (wb : World) (a : Act) (w : World) : Prop :=
 ∃ k B : Nat, k ≤ 80 ∧ Blk w A (ints .u64 (qs h)) 97 ∧ Blk w (A + 1 + 1) (ints .u64 (List.replicate 8 0)) 97 ∧ Blk w B (ints .u64 (qs (qSch cs 0 64))) 118 ∧ Ext wb w ∧
 ∃ u : Nat → Value, a = { tmps := #[.agg (ints .u64 (qs h)).toArray, .agg (cs.map bval).toArray, .pointer (some ⟨A, 0, none⟩), .pointer (some ⟨A + 1, 0, none⟩), .pointer (some ⟨A + 1 + 1, 0, none⟩), .pointer (some ⟨B, 0, none⟩),
  .int .u64 (qi ((qRun h (qSch cs 0 64) k).getD 0 0#64)), .int .u64 (qi ((qRun h (qSch cs 0 64) k).getD 1 0#64)), .int .u64 (qi ((qRun h (qSch cs 0 64) k).getD 2 0#64)), .int .u64 (qi ((qRun h (qSch cs 0 64) k).getD 3 0#64)), .int .u64 (qi ((qRun h (qSch cs 0 64) k).getD 4 0#64)), .int .u64 (qi ((qRun h (qSch cs 0 64) k).getD 5 0#64)), .int .u64 (qi ((qRun h (qSch cs 0 64) k).getD 6 0#64)), .int .u64 (qi ((qRun h (qSch cs 0 64) k).getD 7 0#64)), .int .i64 (k : Int), u 15, u 16, u 17, u 18, u 19, u 20, u 21, u 22, u 23, u 24, u 25, u 26, u 27, u 28, u 29, u 30, u 31, u 32, u 33, u 34, u 35, u 36, u 37, u 38, u 39, u 40, u 41, u 42, u 43, u 44, u 45, u 46, u 47, u 48, u 49, u 50, u 51, u 52, u 53, u 54, u 55, u 56, u 57, u 58, u 59, u 60, u 61, u 62, u 63, u 64, u 65, u 66, u 67, u 68, u 69, u 70, u 71, u 72, u 73, u 74, u 75, u 76, u 77, u 78, u 79, u 80, u 81, u 82, u 83, u 84, u 85, u 86, u 87, u 88, u 89, u 90, u 91, u 92, u 93, u 94, u 95, u 96, u 97, u 98, u 99, u 100, u 101, u 102, u 103, u 104, u 105, u 106, u 107, u 108, u 109, u 110, u 111, u 112, u 113, u 114, u 115, u 116, u 117, u 118], defers := [] }
set_option maxRecDepth 100000 in
set_option maxHeartbeats 8000000 in
theorem mixed_anyQ (h : List Q64) (cs : List UInt8) (w : World) (hh : h.length = 8) (hl : cs.length = 128) (hG : GlobRQ w) :
  Calls Tryd.prog 77 #[.agg (ints .u64 (qs h)).toArray, .agg (cs.map bval).toArray] w fun e w' => e = .returned (.agg (ints .u64 (qs (mixFQ h cs))).toArray) ∧ Below w.heap.size w w' := by
 have HL := Lib.hid hl
 have HH := Lib.hid hh
 have HG := Lib.hid hG
 have HB := Lib.hid (boxes3uQ w (ints .u64 (qs h)) (cs.map bval) (ints .u64 (List.replicate 8 0)) 97 103 97)
 have HIr : Hid ((Tryd.prog.info? 103).map (·.size) = some (cs.map bval).length) := Lib.hid (by rw [List.length_map, hl]; exact Tryd.arr103)
 clear hl hh hG
 go_enter Tryd.func77, Tryd.ntmps77
 go_upto_region 1 with (fail)
 obtain ⟨H1, H2, H3, HE⟩ := HB.out
 change Code.wp _ _ _ _ (((w.alloc (.cells (ints .u64 (qs h)).toArray 97)).alloc (.cells (cs.map bval).toArray 103)).alloc (.cells (ints .u64 (List.replicate 8 0)).toArray 97))
 generalize (((w.alloc (.cells (ints .u64 (qs h)).toArray 97)).alloc (.cells (cs.map bval).toArray 103)).alloc (.cells (ints .u64 (List.replicate 8 0)).toArray 97)) = w3 at *
 obtain ⟨A, hA⟩ : ∃ A, A = w.heap.size := ⟨_, rfl⟩
 rw [← hA] at H1 H2 H3 ⊢
 have hA2 : w.heap.size ≤ A := by omega
 have H1 := Lib.hid H1
 have H2 := Lib.hid H2
 have H3 := Lib.hid H3
 have HE : Hid (Ext w w3) := Lib.hid HE
 clear hA HB
 refine wp_scope_back0 0 (MixJQ h cs A w) (fun a' _ => 80 - (intOf (a'.tmps.getD 14 undef)).toNat) rfl ?_ ?_
 ·intro HP
  have HP := Lib.hid HP
  go_wp2_with (refine wpList_load_blk rfl _ _ rfl (A + 1) rfl _ _ _ _ H2.out Tryd.underlying103 HIr.out ?_)
  refine (schedule_anyQ cs w3 HL.out).mono ?_
  rintro e w4 ⟨rfl, hb⟩
  have H1 := Lib.hid (ext_blk H1.out hb)
  have H3 := Lib.hid (ext_blk H3.out hb)
  have HE := Lib.hid (HE.out.trans hb)
  clear hb H2
  have HZ := Lib.hid (Blk.made w4 (ints .u64 (List.replicate 80 0)) 118)
  have H1L := Lib.hid H1.out.lt
  have H3L := Lib.hid H3.out.lt
  have H1 := Lib.hid (H1.out.alloc (.cells (ints .u64 (List.replicate 80 0)).toArray 118))
  have H3 := Lib.hid (H3.out.alloc (.cells (ints .u64 (List.replicate 80 0)).toArray 118))
  have HS4 := Lib.hid HE.out.size
  have HE := Lib.hid (HE.out.trans (Ext.alloc w4 (.cells (ints .u64 (List.replicate 80 0)).toArray 118)))
  have HLE : Hid ((ints .u64 (qs (qSch cs 0 64))).length = (ints .u64 (List.replicate 80 0)).length) := Lib.hid (by rw [ints_length, qs_length, qSch_length, ints_length, List.length_replicate])
  have HIw : Hid ((Tryd.prog.info? 118).map (·.size) = some (ints .u64 (qs (qSch cs 0 64))).length) := Lib.hid (by rw [ints_length, qs_length, qSch_length]; exact Tryd.arr118)
  go_wp2_with (refine wpList_store_blk rfl _ _ _ rfl w4.heap.size (ints .u64 (qs (qSch cs 0 64))) rfl rfl _ _ HZ.out HLE.out HIw.out (ints_one _ _) ?_; intro w5 hb5 hg5)
  have H1 := Lib.hid (H1.out.grown hg5 (by have := H1L.out; simp; omega))
  have H3 := Lib.hid (H3.out.grown hg5 (by have := H3L.out; simp; omega))
  have HE := Lib.hid (ext_grown HE.out hg5 HS4.out)
  have H4 := Lib.hid hb5
  generalize w4.heap.size = B at *
  clear hb5 hg5 HZ H1L H3L HS4 HLE HIw
  go_wp2_with fail
  refine wp_region_all (by kernel_rfl) (by kernel_rfl) ?_
  refine det_index _ _ _ _ A 8 0 (by rfl) rfl rfl rfl Tryd.underlying97 (by omega) (Tryd.sizeOf95) ?_
  simp only [Act.put, nrm]
  refine det_cell _ _ A 0 (.int .u64 (qi (h.getD 0 0#64))) (by rfl) rfl rfl (fun w hw => blk_q (ext_blk H1.out hw) (by rw [HH.out]; omega)) (Tryd.isAgg95) ?_
  simp only [Act.put, nrm]
  refine det_index _ _ _ _ A 8 1 (by rfl) rfl rfl rfl Tryd.underlying97 (by omega) (Tryd.sizeOf95) ?_
  simp only [Act.put, nrm]
  refine det_cell _ _ A 1 (.int .u64 (qi (h.getD 1 0#64))) (by rfl) rfl rfl (fun w hw => blk_q (ext_blk H1.out hw) (by rw [HH.out]; omega)) (Tryd.isAgg95) ?_
  simp only [Act.put, nrm]
  refine det_index _ _ _ _ A 8 2 (by rfl) rfl rfl rfl Tryd.underlying97 (by omega) (Tryd.sizeOf95) ?_
  simp only [Act.put, nrm]
  refine det_cell _ _ A 2 (.int .u64 (qi (h.getD 2 0#64))) (by rfl) rfl rfl (fun w hw => blk_q (ext_blk H1.out hw) (by rw [HH.out]; omega)) (Tryd.isAgg95) ?_
  simp only [Act.put, nrm]
  refine det_index _ _ _ _ A 8 3 (by rfl) rfl rfl rfl Tryd.underlying97 (by omega) (Tryd.sizeOf95) ?_
  simp only [Act.put, nrm]
  refine det_cell _ _ A 3 (.int .u64 (qi (h.getD 3 0#64))) (by rfl) rfl rfl (fun w hw => blk_q (ext_blk H1.out hw) (by rw [HH.out]; omega)) (Tryd.isAgg95) ?_
  simp only [Act.put, nrm]
  refine det_index _ _ _ _ A 8 4 (by rfl) rfl rfl rfl Tryd.underlying97 (by omega) (Tryd.sizeOf95) ?_
  simp only [Act.put, nrm]
  refine det_cell _ _ A 4 (.int .u64 (qi (h.getD 4 0#64))) (by rfl) rfl rfl (fun w hw => blk_q (ext_blk H1.out hw) (by rw [HH.out]; omega)) (Tryd.isAgg95) ?_
  simp only [Act.put, nrm]
  refine det_index _ _ _ _ A 8 5 (by rfl) rfl rfl rfl Tryd.underlying97 (by omega) (Tryd.sizeOf95) ?_
  simp only [Act.put, nrm]
  refine det_cell _ _ A 5 (.int .u64 (qi (h.getD 5 0#64))) (by rfl) rfl rfl (fun w hw => blk_q (ext_blk H1.out hw) (by rw [HH.out]; omega)) (Tryd.isAgg95) ?_
  simp only [Act.put, nrm]
  refine det_index _ _ _ _ A 8 6 (by rfl) rfl rfl rfl Tryd.underlying97 (by omega) (Tryd.sizeOf95) ?_
  simp only [Act.put, nrm]
  refine det_cell _ _ A 6 (.int .u64 (qi (h.getD 6 0#64))) (by rfl) rfl rfl (fun w hw => blk_q (ext_blk H1.out hw) (by rw [HH.out]; omega)) (Tryd.isAgg95) ?_
  simp only [Act.put, nrm]
  refine det_index _ _ _ _ A 8 7 (by rfl) rfl rfl rfl Tryd.underlying97 (by omega) (Tryd.sizeOf95) ?_
  simp only [Act.put, nrm]
  refine det_cell _ _ A 7 (.int .u64 (qi (h.getD 7 0#64))) (by rfl) rfl rfl (fun w hw => blk_q (ext_blk H1.out hw) (by rw [HH.out]; omega)) (Tryd.isAgg95) ?_
  simp only [Act.put, nrm]
  refine det_assign _ (.int .u64 (qi (h.getD 0 0#64))) (by rfl) rfl rfl ?_
  simp only [Act.put, nrm]
  refine det_assign _ (.int .u64 (qi (h.getD 1 0#64))) (by rfl) rfl rfl ?_
  simp only [Act.put, nrm]
  refine det_assign _ (.int .u64 (qi (h.getD 2 0#64))) (by rfl) rfl rfl ?_
  simp only [Act.put, nrm]
  refine det_assign _ (.int .u64 (qi (h.getD 3 0#64))) (by rfl) rfl rfl ?_
  simp only [Act.put, nrm]
  refine det_assign _ (.int .u64 (qi (h.getD 4 0#64))) (by rfl) rfl rfl ?_
  simp only [Act.put, nrm]
  refine det_assign _ (.int .u64 (qi (h.getD 5 0#64))) (by rfl) rfl rfl ?_
  simp only [Act.put, nrm]
  refine det_assign _ (.int .u64 (qi (h.getD 6 0#64))) (by rfl) rfl rfl ?_
  simp only [Act.put, nrm]
  refine det_assign _ (.int .u64 (qi (h.getD 7 0#64))) (by rfl) rfl rfl ?_
  simp only [Act.put, nrm]
  refine det_nil (fun w6 hw6 => ?_)
  have H1 := Lib.hid (ext_blk H1.out hw6)
  have H3 := Lib.hid (ext_blk H3.out hw6)
  have H4 := Lib.hid (ext_blk H4.out hw6)
  have HE := Lib.hid (HE.out.trans hw6)
  clear hw6
  go_wp2_with fail
  go_step3
  rename_i hK
  refine hK _ _ (HP.out _ _ ?_)
  exact ⟨0, B, by omega, H1.out, H3.out, H4.out, HE.out, fun n => ([_, _, _, _, _, _, _, _, _, _, _, _, _, _, _, _, _, _, _, _, _, _, _, _, _, _, _, _, _, _, _, _, _, _, _, _, _, _, _, _, _, _, _, _, _, _, _, _, _, _, _, _, _, _, _, _, _, _, _, _, _, _, _, _, _, _, _, _, _, _, _, _, _, _, _, _, _, _, _, _, _, _, _, _, _, _, _, _, _, _, _, _, _, _, _, _, _, _, _, _, _, _, _, _] : List Value).getD (n - 15) undef, rfl⟩
 ·rintro a w7 ⟨k, B, hk, h1, h3, h4, hE, u, rfl⟩
  have H1 := Lib.hid h1
  have H3 := Lib.hid h3
  have H4 := Lib.hid h4
  have HE := Lib.hid hE
  clear h1 h3 h4 hE
  have hvl := qRun_length h (qSch cs 0 64) HH.out k
  by_cases hlt : k < 80
  ·have k1 : (k : Int) < 80 := by omega
   have k0 : (0 : Int) ≤ (k : Int) := Int.natCast_nonneg _
   have HWK : Hid (∀ w', Blk w' B (ints .u64 (qs (qSch cs 0 64))) 118 → w'.cell? ⟨B, k, none⟩ = some (.int .u64 (qi ((qSch cs 0 64).getD k 0#64)))) := Lib.hid (fun w' h => blk_q h (by rw [qSch_length]; exact hlt))
   have HKK : Hid (∀ w', Ext w7 w' → w'.cell? ⟨7, k, none⟩ = some (.int .u64 (qi (K512.getD k 0#64)))) := Lib.hid (fun w' h => (HG.out.ext (HE.out.trans h)).cell hlt)
   have HRN : Hid (∀ j, (qRun h (qSch cs 0 64) (k + 1)).getD j 0#64 = (rndq (qRun h (qSch cs 0 64) k) (K512.getD k 0#64) ((qSch cs 0 64).getD k 0#64)).getD j 0#64) := Lib.hid (fun _ => rfl)
   unfold rndq at HRN
   generalize K512.getD k 0#64 = kk at *
   generalize (qSch cs 0 64).getD k 0#64 = wk at *
   generalize (qRun h (qSch cs 0 64) k).getD 0 0#64 = v0 at *
   generalize (qRun h (qSch cs 0 64) k).getD 1 0#64 = v1 at *
   generalize (qRun h (qSch cs 0 64) k).getD 2 0#64 = v2 at *
   generalize (qRun h (qSch cs 0 64) k).getD 3 0#64 = v3 at *
   generalize (qRun h (qSch cs 0 64) k).getD 4 0#64 = v4 at *
   generalize (qRun h (qSch cs 0 64) k).getD 5 0#64 = v5 at *
   generalize (qRun h (qSch cs 0 64) k).getD 6 0#64 = v6 at *
   generalize (qRun h (qSch cs 0 64) k).getD 7 0#64 = v7 at *
   go_wp2_with fail
   refine wp_region_all (by kernel_rfl) (by kernel_rfl) ?_
   refine det_move _ (.int .u64 (qi v7)) (by rfl) rfl rfl ?_
   simp only [Act.put, nrm]
   refine det_move _ (.int .u64 (qi v4)) (by rfl) rfl rfl ?_
   simp only [Act.put, nrm]
   refine det_call _ _ _ [.int .u64 (qi v4), .int .i64 14, .int .i64 18, .int .i64 41] (.int .u64 (qi (rotq v4 14 ^^^ rotq v4 18 ^^^ rotq v4 41))) (by rfl) rfl Tryd.call103 rfl (fun w hw => sum_extQ v4 14 18 41 (by omega) (by omega) (by omega) (by omega) (by omega) (by omega) w) ?_
   simp only [Act.put, nrm]
   refine det_add _ _ _ _ _ _ _ (qi (v7 + (rotq v4 14 ^^^ rotq v4 18 ^^^ rotq v4 41))) (by rfl) rfl rfl rfl (qi_add _ _) ?_
   simp only [Act.put, nrm]
   refine det_move _ (.int .u64 (qi v4)) (by rfl) rfl rfl ?_
   simp only [Act.put, nrm]
   refine det_move _ (.int .u64 (qi v5)) (by rfl) rfl rfl ?_
   simp only [Act.put, nrm]
   refine det_and _ _ _ _ _ _ _ (qi (v4 &&& v5)) (by rfl) rfl rfl rfl (qi_and _ _) ?_
   simp only [Act.put, nrm]
   refine det_move _ (.int .u64 (qi v4)) (by rfl) rfl rfl ?_
   simp only [Act.put, nrm]
   refine det_qinot _ _ v4 (by rfl) rfl rfl ?_
   simp only [Act.put, nrm]
   refine det_move _ (.int .u64 (qi v6)) (by rfl) rfl rfl ?_
   simp only [Act.put, nrm]
   refine det_and _ _ _ _ _ _ _ (qi ((~~~v4) &&& v6)) (by rfl) rfl rfl rfl (qi_and _ _) ?_
   simp only [Act.put, nrm]
   refine det_xor _ _ _ _ _ _ _ (qi ((v4 &&& v5) ^^^ ((~~~v4) &&& v6))) (by rfl) rfl rfl rfl (qi_xor _ _) ?_
   simp only [Act.put, nrm]
   refine det_add _ _ _ _ _ _ _ (qi ((v7 + (rotq v4 14 ^^^ rotq v4 18 ^^^ rotq v4 41)) + ((v4 &&& v5) ^^^ ((~~~v4) &&& v6)))) (by rfl) rfl rfl rfl (qi_add _ _) ?_
   simp only [Act.put, nrm]
   refine det_move _ (.int .i64 ((k : Nat) : Int)) (by rfl) rfl rfl ?_
   simp only [Act.put, nrm]
   refine det_index _ _ _ _ 7 80 k (by rfl) rfl rfl rfl Tryd.underlying118 (by omega) (Tryd.sizeOf95) ?_
   simp only [Act.put, nrm]
   refine det_cell _ _ 7 k (.int .u64 (qi kk)) (by rfl) rfl rfl (fun w hw => HKK.out _ hw) (Tryd.isAgg95) ?_
   simp only [Act.put, nrm]
   refine det_add _ _ _ _ _ _ _ (qi (((v7 + (rotq v4 14 ^^^ rotq v4 18 ^^^ rotq v4 41)) + ((v4 &&& v5) ^^^ ((~~~v4) &&& v6))) + kk)) (by rfl) rfl rfl rfl (qi_add _ _) ?_
   simp only [Act.put, nrm]
   refine det_move _ (.int .i64 ((k : Nat) : Int)) (by rfl) rfl rfl ?_
   simp only [Act.put, nrm]
   refine det_index _ _ _ _ B 80 k (by rfl) rfl rfl rfl Tryd.underlying118 (by omega) (Tryd.sizeOf95) ?_
   simp only [Act.put, nrm]
   refine det_cell _ _ B k (.int .u64 (qi wk)) (by rfl) rfl rfl (fun w hw => HWK.out _ (ext_blk H4.out hw)) (Tryd.isAgg95) ?_
   simp only [Act.put, nrm]
   refine det_add _ _ _ _ _ _ _ (qi ((((v7 + (rotq v4 14 ^^^ rotq v4 18 ^^^ rotq v4 41)) + ((v4 &&& v5) ^^^ ((~~~v4) &&& v6))) + kk) + wk)) (by rfl) rfl rfl rfl (qi_add _ _) ?_
   simp only [Act.put, nrm]
   refine det_assign _ (.int .u64 (qi ((((v7 + (rotq v4 14 ^^^ rotq v4 18 ^^^ rotq v4 41)) + ((v4 &&& v5) ^^^ ((~~~v4) &&& v6))) + kk) + wk))) (by rfl) rfl rfl ?_
   simp only [Act.put, nrm]
   refine det_nil (fun w1 hw1 => ?_)
   have H1 := Lib.hid (ext_blk H1.out hw1)
   have H3 := Lib.hid (ext_blk H3.out hw1)
   have H4 := Lib.hid (ext_blk H4.out hw1)
   have HE := Lib.hid (HE.out.trans hw1)
   clear hw1
   generalize ht : (((v7 + (rotq v4 14 ^^^ rotq v4 18 ^^^ rotq v4 41)) + ((v4 &&& v5) ^^^ ((~~~v4) &&& v6))) + kk) + wk = t at *
   have HT := Lib.hid ht
   clear ht
   go_wp2_with fail
   have q1 : bits .and .u64 (qi v0) (qi v1) = qi (v0 &&& v1) := qi_and _ _
   have q2 : bits .and .u64 (qi v0) (qi v2) = qi (v0 &&& v2) := qi_and _ _
   have q3 : bits .and .u64 (qi v1) (qi v2) = qi (v1 &&& v2) := qi_and _ _
   have q4 : bits .xor .u64 (qi (v0 &&& v1)) (qi (v0 &&& v2)) = qi (v0 &&& v1 ^^^ v0 &&& v2) := qi_xor _ _
   have q5 : bits .xor .u64 (qi (v0 &&& v1 ^^^ v0 &&& v2)) (qi (v1 &&& v2)) = qi (v0 &&& v1 ^^^ v0 &&& v2 ^^^ v1 &&& v2) := qi_xor _ _
   obtain ⟨u16, hu⟩ : ∃ x : Q64, x = (rotq v0 28 ^^^ rotq v0 34 ^^^ rotq v0 39) + (v0 &&& v1 ^^^ v0 &&& v2 ^^^ v1 &&& v2) := ⟨_, rfl⟩
   have q6 : IntKind.u64.wrap (qi (rotq v0 28 ^^^ rotq v0 34 ^^^ rotq v0 39) + qi (v0 &&& v1 ^^^ v0 &&& v2 ^^^ v1 &&& v2)) = qi u16 := by rw [hu, qi_add]
   have q7 : IntKind.u64.wrap (qi t + qi u16) = qi (t + u16) := by rw [qi_add]
   have q8 : IntKind.u64.wrap (qi v3 + qi t) = qi (v3 + t) := by rw [qi_add]
   have HU := Lib.hid hu
   clear hu
   refine (sum_anyQ v0 28 34 39 (by omega) (by omega) (by omega) (by omega) (by omega) (by omega) w1).mono ?_
   rintro e w2 ⟨rfl, rfl⟩
   go_wp2_with fail
   clear q1 q2 q3 q4 q5 q6
   go_step3
   have r0 : (qRun h (qSch cs 0 64) (k + 1)).getD 0 0#64 = t + u16 := by rw [HRN.out, ← HT.out, HU.out]; rfl
   have r4 : (qRun h (qSch cs 0 64) (k + 1)).getD 4 0#64 = v3 + t := by rw [HRN.out, ← HT.out]; rfl
   have r1 : (qRun h (qSch cs 0 64) (k + 1)).getD 1 0#64 = v0 := HRN.out 1
   have r2 : (qRun h (qSch cs 0 64) (k + 1)).getD 2 0#64 = v1 := HRN.out 2
   have r3 : (qRun h (qSch cs 0 64) (k + 1)).getD 3 0#64 = v2 := HRN.out 3
   have r5 : (qRun h (qSch cs 0 64) (k + 1)).getD 5 0#64 = v4 := HRN.out 5
   have r6 : (qRun h (qSch cs 0 64) (k + 1)).getD 6 0#64 = v5 := HRN.out 6
   have r7 : (qRun h (qSch cs 0 64) (k + 1)).getD 7 0#64 = v6 := HRN.out 7
   have hk1 : ((k + 1 : Nat) : Int) = (k : Int) + 1 := by omega
   rw [← r0, ← r4, ← r1, ← r2, ← r3, ← r5, ← r6, ← r7, ← hk1]
   change (0 = 0 ∧ (MixJQ h cs A w _ _ ∧ _ < _))
   refine ⟨rfl, ⟨k + 1, B, by omega, H1.out, H3.out, H4.out, HE.out, fun n => ([_, _, _, _, _, _, _, _, _, _, _, _, _, _, _, _, _, _, _, _, _, _, _, _, _, _, _, _, _, _, _, _, _, _, _, _, _, _, _, _, _, _, _, _, _, _, _, _, _, _, _, _, _, _, _, _, _, _, _, _, _, _, _, _, _, _, _, _, _, _, _, _, _, _, _, _, _, _, _, _, _, _, _, _, _, _, _, _, _, _, _, _, _, _, _, _, _, _, _, _, _, _, _, _] : List Value).getD (n - 15) undef, rfl⟩, ?_⟩
   ·show 80 - (intOf (.int .i64 ((k + 1 : Nat) : Int))).toNat < 80 - (intOf (.int .i64 (k : Int))).toNat
    simp [intOf]
    omega
  ·have hk64 : k = 80 := by omega
   subst hk64
   have e := hAdd8Q h (qRun h (qSch cs 0 64) 80) HH.out hvl
   have HM : Hid (mixFQ h cs = _) := Lib.hid e
   have hc : ∀ j, j < 8 → w7.cell? ⟨A, j, none⟩ = some (.int .u64 (qi (h.getD j 0#64))) := fun j hj => blk_q H1.out (by rw [HH.out]; exact hj)
   have c0 := hc 0 (by omega)
   have c1 := hc 1 (by omega)
   have c2 := hc 2 (by omega)
   have c3 := hc 3 (by omega)
   have c4 := hc 4 (by omega)
   have c5 := hc 5 (by omega)
   have c6 := hc 6 (by omega)
   have c7 := hc 7 (by omega)
   generalize (qRun h (qSch cs 0 64) 80).getD 0 0#64 = v0 at *
   generalize h.getD 0 0#64 = y0 at *
   have s0 : IntKind.u64.wrap (qi y0 + qi v0) = qi (y0 + v0) := by rw [qi_add]
   generalize (qRun h (qSch cs 0 64) 80).getD 1 0#64 = v1 at *
   generalize h.getD 1 0#64 = y1 at *
   have s1 : IntKind.u64.wrap (qi y1 + qi v1) = qi (y1 + v1) := by rw [qi_add]
   generalize (qRun h (qSch cs 0 64) 80).getD 2 0#64 = v2 at *
   generalize h.getD 2 0#64 = y2 at *
   have s2 : IntKind.u64.wrap (qi y2 + qi v2) = qi (y2 + v2) := by rw [qi_add]
   generalize (qRun h (qSch cs 0 64) 80).getD 3 0#64 = v3 at *
   generalize h.getD 3 0#64 = y3 at *
   have s3 : IntKind.u64.wrap (qi y3 + qi v3) = qi (y3 + v3) := by rw [qi_add]
   generalize (qRun h (qSch cs 0 64) 80).getD 4 0#64 = v4 at *
   generalize h.getD 4 0#64 = y4 at *
   have s4 : IntKind.u64.wrap (qi y4 + qi v4) = qi (y4 + v4) := by rw [qi_add]
   generalize (qRun h (qSch cs 0 64) 80).getD 5 0#64 = v5 at *
   generalize h.getD 5 0#64 = y5 at *
   have s5 : IntKind.u64.wrap (qi y5 + qi v5) = qi (y5 + v5) := by rw [qi_add]
   generalize (qRun h (qSch cs 0 64) 80).getD 6 0#64 = v6 at *
   generalize h.getD 6 0#64 = y6 at *
   have s6 : IntKind.u64.wrap (qi y6 + qi v6) = qi (y6 + v6) := by rw [qi_add]
   generalize (qRun h (qSch cs 0 64) 80).getD 7 0#64 = v7 at *
   generalize h.getD 7 0#64 = y7 at *
   have s7 : IntKind.u64.wrap (qi y7 + qi v7) = qi (y7 + v7) := by rw [qi_add]
   clear hc e
   have HIm : Hid ((Tryd.prog.info? 97).map (·.size) = some (ints .u64 (qs [y0 + v0, y1 + v1, y2 + v2, y3 + v3, y4 + v4, y5 + v5, y6 + v6, y7 + v7])).length) := Lib.hid Tryd.arr97
   go_wp2_with (refine wpList_store_blk rfl _ _ _ rfl (A + 1 + 1) (ints .u64 (qs [y0 + v0, y1 + v1, y2 + v2, y3 + v3, y4 + v4, y5 + v5, y6 + v6, y7 + v7])) rfl rfl _ _ H3.out (by simp [ints_length, qs_length]) HIm.out (ints_one _ _) ?_; intro w8 hb8 hg8)
   simp only [Exit.jump]
   refine bodyPost_ret (result_blk rfl _ (A + 1 + 1) _ _ _ _ rfl hb8 Tryd.underlying97 HIm.out) rfl ?_
   exact ⟨by rw [HM.out], ext_grown HE.out hg8 (by omega)⟩
theorem gRootsQ : Tryd.prog.globalNamed "portcullis/shb.roots" = some 7 := by kernel_rfl
theorem tRootsQ : (Tryd.prog.globals[7]?).map (·.type) = some 118 := by kernel_rfl
theorem dRootsQ : (Rows.laid_portcullis_shb_roots : DataW Unit) = .agg ((qs K512).map fun z => .lit (.int .u64 z)) := by kernel_rfl
theorem globR_ofQ {W : World} {L : List (String × DataW Unit)} (hp : (L.all fun x => x.2.handleName?.isNone) = true) (h : laidMetH Tryd.prog L W) (hm : ("portcullis/shb.roots", Rows.laid_portcullis_shb_roots) ∈ L) : GlobRQ W :=
 range_of_laid hp h hm dRootsQ gRootsQ tRootsQ Tryd.underlying118 Tryd.underlying95 (by kernel_rfl) (by rw [qs_length]; rfl)
def dByL : List Int := [0xa3, 0x78, 0x59, 0x13, 0xca, 0x4d, 0xeb, 0x75, 0xab, 0xd8, 0x41, 0x41, 0x4d, 0x0a, 0x70, 0x00, 0x98, 0xe8, 0x79, 0x77, 0x79, 0x40, 0xc7, 0x8c, 0x73, 0xfe, 0x6f, 0x2b, 0xee, 0x6c, 0x03, 0x52]
theorem dBy_cells : (nbF dF).map bval = ints .u8 dByL := by
 have h : nbF dF = dByL.map (fun z => UInt8.ofNat z.toNat) := by decide +kernel
 rw [h]
 rfl
theorem gCurC : Tryd.prog.globalNamed "portcullis/curve.d" = some 2 := by kernel_rfl
theorem tCurC : (Tryd.prog.globals[2]?).map (·.type) = some 23 := by kernel_rfl
theorem dCurC : (Rows.laid_portcullis_curve_d : DataW Unit) = .agg (dByL.map fun z => .lit (.int .u8 z)) := rfl
theorem globC_of {W : World} {L : List (String × DataW Unit)} (hp : (L.all fun x => x.2.handleName?.isNone) = true) (h : laidMetH Tryd.prog L W) (hm : ("portcullis/curve.d", Rows.laid_portcullis_curve_d) ∈ L) : GlobC W := by
 have e := range_of_laid hp h hm dCurC gCurC tCurC Tryd.underlying23 Tryd.underlying5 (by kernel_rfl) rfl
 unfold GlobC
 rw [dBy_cells]
 exact e
theorem info_threeV {P : Program} {t : TypeId} {z : Value} {n b : Nat} (h : (P.info? t).map (fun i => (i.zero, i.size, i.bytes)) = some (some z, n, b)) : ∃ i, P.info? t = some i ∧ i.zero = some z ∧ i.size = n ∧ i.bytes = b := by
 cases hp : P.info? t with
 | none => rw [hp] at h; cases h
 | some i =>
  rw [hp] at h
  simp only [Option.map_some, Option.some.injEq, Prod.mk.injEq] at h
  exact ⟨i, rfl, h.1, h.2.1, h.2.2⟩
def RowV (w : World) (v : Value) (ls : List (List Value)) : Prop :=
 ∃ vals : List Value, Row1 w v vals ∧ vals.length = ls.length ∧ ∀ (i : Nat) (x : Value) (l : List Value), vals[i]? = some x → ls[i]? = some l → Row1 w x l
theorem grown_own2 (w : World) (base n cap : Nat) (e : TypeId) (cur : Array Value) (hb : base ≤ w.heap.size) (hc : cap ≤ maxLen) (hs : cur.size = cap) : (w.alloc (.cells cur e)).ownsRow base e 1 (.slice (some ⟨w.heap.size, 0, none⟩) 0 cap) 0 [] :=
 ⟨rfl, Or.inr ⟨w.heap.size, cap, cur, rfl, hb, heap_alloc_new w _, Nat.zero_le _, hc, by omega, rfl⟩⟩
set_option maxRecDepth 100000 in
set_option maxHeartbeats 4000000 in
theorem stdGrow2_nil (n : Nat) (w : World) (hn : n ≤ 1000000000) :
  Calls Tryd.prog 95 #[.slice none 0 0, .int .i64 (n : Int)] w fun e w' => ∃ x, e = .returned x ∧ w'.ownsRow w.heap.size 33 1 x 0 [] ∧ Below w.heap.size w w' := by
 obtain ⟨i0, hi, hz0, hz1, hz2⟩ := info_threeV (P := Tryd.prog) (t := 33) (z := .slice none 0 0) (n := 1) (b := 24) (by kernel_rfl)
 have h0 : (0 : Int) ≤ (n : Int) := Int.natCast_nonneg _
 have HNB := Lib.hid hn
 go_enter Tryd.func95, Tryd.ntmps95
 rcases Nat.eq_zero_or_pos n with rfl | hp
 ·clear hi hz0 hz1 hz2
  go_wp2_with fail
  go_ret
  exact ⟨_, rfl, World.ownsRow_nil _ _ _ _, Below.refl _ _⟩
 ·have hp' : (0 : Int) < (n : Int) := by omega
  have HR := Lib.hid (Lib.run_append_nil_zeros (P := Tryd.prog) w 27 3 0 33 i0 (.slice none 0 0) .i64 .i64 Tryd.underlying27 rfl hi hz0 n hp (by rw [hz1]; decide) (by omega) (by rw [hz2]; omega))
  have HG : Hid (grownCap w n 0 33 ≤ maxLen) := Lib.hid (grownCap_le_maxLen w n 0 _ (by unfold maxLen; omega))
  have HG2 : Hid (n ≤ grownCap w n 0 33) := Lib.hid (grownCap_ge w n 0 _)
  have HSZ : Hid ((Builtin.zeroCells (Value.cells (.slice none 0 0)) n ++ Builtin.zeroCells (Value.cells (.slice none 0 0)) (grownCap w n 0 33 - n)).size = grownCap w n 0 33) := Lib.hid (by
   rw [Array.size_append, size_zeroCells, size_zeroCells]
   have := HG2.out
   simp [Value.cells]
   omega)
  clear hi hz0 hz1 hz2
  generalize Builtin.zeroCells (Value.cells (.slice none 0 0)) n ++ Builtin.zeroCells (Value.cells (.slice none 0 0)) (grownCap w n 0 33 - n) = cur at *
  generalize grownCap w n 0 33 = cap at *
  have hc0 : (0 : Int) ≤ (cap : Int) := Int.natCast_nonneg _
  go_wp2_with (at_builtin; refine Lib.wpList_append_run _ rfl _ _ _ _ rfl _ _ rfl rfl _ _ HR.out ?_)
  go_ret
  exact ⟨_, rfl, grown_own2 w.drew _ n cap _ cur (Nat.le_refl _) HG.out HSZ.out, below_drewN (Ext.alloc w _) 1⟩
theorem cat2_succ (ls : List (List Value)) (k : Nat) (l : List Value) (h : ls[k]? = some l) : (ls.take (k + 1)).flatten = (ls.take k).flatten ++ l := by
 have hk : k < ls.length := by
  rcases Nat.lt_or_ge k ls.length with h' | h'
  ·exact h'
  ·rw [List.getElem?_eq_none h'] at h; cases h
 rw [List.take_succ_eq_append_getElem hk, List.flatten_append]
 rw [List.getElem?_eq_getElem hk] at h
 cases h
 simp
theorem cat2_part (ls : List (List Value)) (k : Nat) : (ls.take k).flatten.length ≤ ls.flatten.length := by
 have h : ls.flatten = (ls.take k).flatten ++ (ls.drop k).flatten := by rw [← List.flatten_append, List.take_append_drop]
 rw [h, List.length_append]
 omega
theorem cat2_all (ls : List (List Value)) : (ls.take ls.length).flatten = ls.flatten := by rw [List.take_length]
set_option maxRecDepth 100000 in
set_option maxHeartbeats 4000000 in
theorem stdConcat2_any (v : Value) (ls : List (List Value)) (w : World) (hv : RowV w v ls) (h1 : ∀ l ∈ ls, ∀ x ∈ l, x.oneCell' = true) (hb : ls.flatten.length ≤ 1000000000) :
  Calls Tryd.prog 63 #[v] w fun e w' => ∃ x, e = .returned x ∧ w'.ownsRow w.heap.size 33 1 x ls.flatten.length ls.flatten ∧ Below w.heap.size w w' := by
 obtain ⟨i0, hi, hz0, hz1, hz2⟩ := info_threeV (P := Tryd.prog) (t := 33) (z := .slice none 0 0) (n := 1) (b := 24) (by kernel_rfl)
 obtain ⟨vals, hr, hlen, hx⟩ := hv
 obtain ⟨a, cap, rfl, r1, r2, r3, r4⟩ := id hr
 unfold maxLen at r2
 rw [hlen] at r1 ⊢
 have HI0 := Lib.hid hi
 have HZ0 := Lib.hid hz0
 have HZ1 := Lib.hid hz1
 have HZ2 := Lib.hid hz2
 have HX := Lib.hid hx
 have HC := Lib.hid r4
 have HLN := Lib.hid hlen
 have HB := Lib.hid hb
 have HON := Lib.hid h1
 clear h1 hr hx r3 r4 hb hlen hi hz0 hz1 hz2
 go_enter Tryd.func63, Tryd.ntmps63
 go_wp2_with fail
 go_loop [3, 11] (fun sv iv => ∃ (k : Nat), k ≤ ls.length ∧ iv = .int .i64 (k : Int) ∧ sv = .int .i64 ((ls.take k).flatten.length : Int)) (fun _ iv => ls.length - (intOf iv).toNat)
 case atStart => exact ⟨0, by omega, rfl, rfl⟩
 case round =>
  obtain ⟨k, hk, rfl, rfl⟩ := hrel
  have k0 : (0 : Int) ≤ (k : Int) := Int.natCast_nonneg _
  by_cases hlk : k < ls.length
  ·have k1 : (k : Int) < (ls.length : Int) := by omega
   obtain ⟨b', off, rfl, hbs, hcell⟩ := HC.out (by intro e; have h := congrArg List.length e; rw [HLN.out] at h; simp only [List.length_nil] at h; omega)
   obtain ⟨xv, hxv⟩ : ∃ x, vals[k]? = some x := ⟨_, List.getElem?_eq_getElem (by rw [HLN.out]; exact hlk)⟩
   obtain ⟨lk, hlk2⟩ : ∃ x, ls[k]? = some x := ⟨_, List.getElem?_eq_getElem hlk⟩
   obtain ⟨ax, cx, hxx, _⟩ := HX.out k xv lk hxv hlk2
   have hft := cat2_succ ls k lk hlk2
   have hfl := cat2_part ls (k + 1)
   rw [hft, List.length_append] at hfl
   have HFT : Hid ((ls.take (k + 1)).flatten.length = (ls.take k).flatten.length + lk.length) := Lib.hid (by rw [hft, List.length_append])
   have c0 : w.cell? ⟨b', off + k, none⟩ = some xv := by
    have h := hcell k (by rw [HLN.out]; exact hlk)
    rw [hxv] at h
    exact h
   subst hxx
   have hB := HB.out
   generalize (ls.take k).flatten.length = p at *
   have hpl : (p : Int) + (lk.length : Int) ≤ 1000000000 := by omega
   have hp0 : (0 : Int) ≤ (p : Int) := Int.natCast_nonneg _
   have hl0 : (0 : Int) ≤ (lk.length : Int) := Int.natCast_nonneg _
   have hlk0 : (0 : Int) ≤ (p : Int) + (lk.length : Int) := by omega
   clear hcell hxv hlk2 hft hfl
   go_wp2_with fail
   go_round
   case rel =>
    refine ⟨k + 1, by omega, by go_num, ?_⟩
    rw [HFT.out]
    rfl
   case measure => simp [intOf]; omega
  ·have hk2 : (ls.length : Int) ≤ (k : Int) := by omega
   obtain rfl : k = ls.length := by omega
   rw [cat2_all]
   obtain ⟨N, hN⟩ : ∃ N, N = ls.flatten.length := ⟨_, rfl⟩
   have HNB : Hid (N ≤ 1000000000) := Lib.hid (by rw [hN]; exact HB.out)
   rw [← hN]
   have n0 : (0 : Int) ≤ (N : Int) := Int.natCast_nonneg _
   clear hN
   go_wp2_with fail
   refine (stdGrow2_nil N w HNB.out).mono ?_
   rintro e w1 ⟨x1, rfl, ho1, hb1⟩
   have HNIL := Lib.hid ho1
   have HE1 : Hid (Ext w w1) := Lib.hid hb1
   clear ho1 hb1
   go_wp2_with fail
   go_loopw [6, 27] (fun x iv wr => ∃ (k : Nat), k ≤ ls.length ∧ iv = .int .i64 (k : Int) ∧ wr.ownsRow w.heap.size 33 1 x (ls.take k).flatten.length (ls.take k).flatten ∧ Ext w wr) (fun _ iv _ => ls.length - (intOf iv).toNat)
   case atStart => exact ⟨0, by omega, rfl, HNIL.out, HE1.out⟩
   case round =>
    clear HNIL HE1
    obtain ⟨k, hk, rfl, ho, hE⟩ := hrel
    have k0 : (0 : Int) ≤ (k : Int) := Int.natCast_nonneg _
    have HO := Lib.hid ho
    have HE := Lib.hid hE
    have HS := Lib.hid hE.size
    clear ho hE
    by_cases hlk : k < ls.length
    ·have k1 : (k : Int) < (ls.length : Int) := by omega
     obtain ⟨b', off, rfl, hbs, hcell⟩ := HC.out (by intro e; have h := congrArg List.length e; rw [HLN.out] at h; simp only [List.length_nil] at h; omega)
     obtain ⟨xv, hxv⟩ : ∃ x, vals[k]? = some x := ⟨_, List.getElem?_eq_getElem (by rw [HLN.out]; exact hlk)⟩
     obtain ⟨lk, hlk2⟩ : ∃ x, ls[k]? = some x := ⟨_, List.getElem?_eq_getElem hlk⟩
     have HXR := Lib.hid ((HX.out k xv lk hxv hlk2).below HE.out)
     have hft := cat2_succ ls k lk hlk2
     have hfl := cat2_part ls (k + 1)
     rw [hft, List.length_append] at hfl
     have HFT := Lib.hid hft
     have HLK2 := Lib.hid hlk2
     have c0 : wr.cell? ⟨b', off + k, none⟩ = some xv := by
      have h := hcell k (by rw [HLN.out]; exact hlk)
      rw [hxv] at h
      rw [← h]
      exact HE.out.cell (p := ⟨b', off + k, none⟩) hbs
     have HFL : Hid ((ls.take k).flatten.length + lk.length ≤ 1000000000) := Lib.hid (by have := HB.out; omega)
     clear hcell hxv hlk2 hft hfl
     go_wp2_with (at_builtin; refine wpList_append_row rfl _ _ 27 rfl w.heap.size 33 i0 (.slice none 0 0) 24 Tryd.underlying27 HI0.out HZ0.out HZ1.out HZ2.out rfl _ _ _ rfl HO.out rfl HXR.out (fun x hx => HON.out _ (List.mem_of_getElem? HLK2.out) x hx) (by have := HFL.out; unfold maxLen; omega) (by have := HFL.out; omega) HS.out ?_; intro v3 w3 hown3 hgrow3)
     go_roundw
     case rel =>
      refine ⟨k + 1, by omega, by go_num, ?_, ext_own HE.out HO.out (Nat.le_refl _) hgrow3⟩
      rw [HFT.out, List.length_append]
      exact hown3
     case measure => simp [intOf]; omega
    ·have hk2 : (ls.length : Int) ≤ (k : Int) := by omega
     obtain rfl : k = ls.length := by omega
     rw [cat2_all] at HO
     go_wp2_with fail
     go_ret
     exact ⟨_, rfl, HO.out, HE.out⟩
theorem Blk.row {w : World} {c : Nat} {cs : List Value} {t : TypeId} {n : Nat} (h : Blk w c cs t) (hn : cs.length = n) (hm : n ≤ maxLen) : Row1 w (.slice (some ⟨c, 0, none⟩) n n) cs := by
 subst hn
 refine ⟨_, _, rfl, Nat.le_refl _, hm, (fun e => by cases e), fun _ => ⟨c, 0, rfl, h.lt, fun i hi => ?_⟩⟩
 rw [Nat.zero_add, h.cell i]
theorem num_row {w : World} {c : Nat} {l : List UInt8} {t : TypeId} (h : Blk w c (l.map bval) t) (hl : l.length = 32) : Row1 w (.slice (some ⟨c, 0, none⟩) 32 32) (l.map bval) := h.row (by rw [List.length_map, hl]) (by unfold maxLen; omega)
theorem Row1.head {w : World} {a : Option Addr} {n cap : Nat} {vs : List Value} (h : Row1 w (.slice a n cap) vs) (k : Nat) (hk : k ≤ vs.length) : Row1 w (.slice a k cap) (vs.take k) := by
 obtain ⟨a', cap', e, h1, h2, h3, h4⟩ := h
 cases e
 have hl : (vs.take k).length = k := by simp; omega
 refine ⟨a, cap, by rw [hl], by rw [hl]; omega, h2, h3, fun hne => ?_⟩
 have hv : vs ≠ [] := by intro e; subst e; simp at hne
 obtain ⟨b, off, e, hb, hc⟩ := h4 hv
 refine ⟨b, off, e, hb, fun i hi => ?_⟩
 rw [hl] at hi
 rw [hc i (by omega), List.getElem?_take, if_pos hi]
theorem shl_range (N : Int) (s : Nat) (h1 : 0 ≤ N) (h2 : N ≤ 268435456) (hs : s ≤ 28) : 0 ≤ N * 2 ^ (28 - s) ∧ N * 2 ^ (28 - s) ≤ 72057594037927936 := by
 have k : (2 : Nat) ^ (28 - s) ≤ 2 ^ 28 := Nat.pow_le_pow_right (by omega) (by omega)
 have e : (2 : Int) ^ (28 - s) = ((2 ^ (28 - s) : Nat) : Int) := by simp
 rw [e]
 generalize (2 : Nat) ^ (28 - s) = X at *
 refine ⟨Int.mul_nonneg h1 (by omega), Int.le_trans (Int.mul_le_mul h2 (show (X : Int) ≤ 268435456 by omega) (by omega) (by omega)) (by omega)⟩
set_option maxRecDepth 100000 in
set_option maxHeartbeats 4000000 in
theorem scl_numOf_any (x : List Int) (v B : Int) (w : World) (hG : GlobT w) (hl : x.length = 19) (h0 : 0 ≤ B) (hB1 : B ≤ 2305843009213693952) (hB : ∀ j, j < 19 → -B ≤ x.getD j 0 ∧ x.getD j 0 ≤ B) (hv : gV 268435456 x = v) (v0 : 0 ≤ v) (v1 : v < hQ) :
  Calls Tryd.prog 66 #[.agg (ints .i64 x).toArray] w fun e w' => e = .returned (.agg ((nq v).map bval).toArray) ∧ Below w.heap.size w w' := by
 have hcan := carry_can hl h0 hB hv v0 v1
 have HRI := Lib.hid (RI.start hcan)
 have HFN := Lib.hid (restF_spec (RI.start hcan))
 have HCA := Lib.hid (fun w => scl_carried_any x 0 18 0 18 B hl (by omega) rfl rfl h0 hB1 (fun j _ hj => hB j (by omega)) w)
 have HV0 : Hid (0 ≤ v % qQ) := Lib.hid (Int.emod_nonneg _ (by unfold qQ; omega))
 have HG := Lib.hid hG
 have HXI : Hid ((Tryd.prog.info? 85).map (·.size) = some (ints .i64 x).length) := Lib.hid (by rw [ints_length, hl]; exact Tryd.arr85)
 have HXL := Lib.hid hl
 have HB := Lib.hid (boxes2 w (ints .i64 x) (ints .u8 (List.replicate 32 0)) 85 23)
 clear hG hl hB hB1 h0 hv v0 v1 hcan
 go_enter Tryd.func66, Tryd.ntmps66
 go_wp2_with (refine wpList_load_blk rfl _ _ rfl w.heap.size rfl _ _ _ _ HB.out.1 Tryd.underlying85 HXI.out ?_)
 change Calls _ _ _ ((w.alloc (.cells (ints .i64 x).toArray 85)).alloc (.cells (ints .u8 (List.replicate 32 0)).toArray 23)) _
 generalize (w.alloc (.cells (ints .i64 x).toArray 85)).alloc (.cells (ints .u8 (List.replicate 32 0)).toArray 23) = w0 at *
 obtain ⟨b1, b2, b3⟩ := HB.out
 obtain ⟨A, hA⟩ : ∃ A, A = w.heap.size := ⟨_, rfl⟩
 rw [← hA] at b1 b2 ⊢
 have hA2 : w.heap.size ≤ A := by omega
 have H1 := Lib.hid b1
 have H2 := Lib.hid b2
 have H3 : Hid (Ext w w0) := Lib.hid b3
 clear b1 b2 b3 hA HB
 refine (HCA.out _).mono ?_
 rintro e w1 ⟨rfl, hb1⟩
 have H1 := Lib.hid (ext_blk H1.out hb1)
 have H2 := Lib.hid (ext_blk H2.out hb1)
 have H3 := Lib.hid (H3.out.trans hb1)
 clear hb1 HCA
 go_wp2_with fail
 refine (rest_any _ v _ HRI.out (HG.out.ext H3.out)).mono ?_
 rintro e w2 ⟨rfl, hb1⟩
 have H1 := Lib.hid (ext_blk H1.out hb1)
 have H2 := Lib.hid (ext_blk H2.out hb1)
 have H3 := Lib.hid (H3.out.trans hb1)
 clear hb1 HRI
 have HYL := Lib.hid HFN.out.len
 have HYD : Hid (nq v = bytesN 32 (v % qQ).toNat) := Lib.hid rfl
 generalize restF (cRun x 0 18) = y at *
 have hi2 : Hid ((Tryd.prog.info? 85).map (·.size) = some (ints .i64 y).length) := Lib.hid (by rw [ints_length, HYL.out]; exact Tryd.arr85)
 have hl2 : Hid ((ints .i64 y).length = (ints .i64 x).length) := Lib.hid (by rw [ints_length, ints_length, HYL.out, HXL.out])
 go_wp2_with (refine wpList_store_blk rfl _ _ _ rfl A _ rfl rfl _ _ H1.out hl2.out hi2.out (ints_one _ _) ?_; intro w3 hb3 hg3)
 change Code.wp _ _ _ _ (w3.alloc (.cells (ints .u8 (List.replicate 32 0)).toArray 23))
 have HD := Lib.hid (Blk.made w3 (ints .u8 (List.replicate 32 0)) 23)
 have H2' := H2.out.grown hg3 (by simp)
 have H3' := ext_grown H3.out hg3 hA2
 have H1 := Lib.hid (hb3.alloc (.cells (ints .u8 (List.replicate 32 0)).toArray 23))
 have H3 := Lib.hid (H3'.trans (Ext.alloc w3 (.cells (ints .u8 (List.replicate 32 0)).toArray 23)))
 have hDA : A + 1 < w3.heap.size := H2'.lt
 have H2 := Lib.hid (H2'.alloc (.cells (ints .u8 (List.replicate 32 0)).toArray 23))
 clear hb3 hg3 H2' H3'
 generalize (w3.alloc (.cells (ints .u8 (List.replicate 32 0)).toArray 23)) = w4 at *
 generalize w3.heap.size = D at *
 go_loopw [11] (fun i wr => ∃ (k : Nat), k ≤ 32 ∧ i = .int .i64 (k : Int) ∧ Blk wr A (ints .i64 y) 85 ∧ Blk wr (A + 1) (ints .u8 (List.replicate 32 0)) 23 ∧ Blk wr D ((fill 32 (nq v) k).map bval) 23 ∧ Ext w wr) (fun i _ => 32 - (intOf i).toNat)
 case atStart => exact ⟨0, by omega, rfl, H1.out, H2.out, by rw [fill_start]; exact HD.out, H3.out⟩
 case round =>
  clear H1 H2 H3 HD
  obtain ⟨k, hk, rfl, hb1, hb2, hb3, hbel⟩ := hrel
  have i0' : (0 : Int) ≤ (k : Int) := Int.natCast_nonneg _
  by_cases hlt : k < 32
  ·have i1 : (k : Int) < 32 := by omega
   obtain ⟨p, hp⟩ : ∃ p : Nat, p = 8 * k / 28 := ⟨_, rfl⟩
   obtain ⟨s, hs⟩ : ∃ s : Nat, s = 8 * k % 28 := ⟨_, rfl⟩
   have HBY := byte_of_limbs HFN.out HV0.out hlt hp hs
   rw [← HYD.out] at HBY
   have hp2 : 8 * (k : Int) / 28 = (p : Int) := by omega
   have hs2 : 8 * (k : Int) % 28 = (s : Int) := by omega
   have p19 : (p : Int) < 19 := by omega
   have p20 : (p : Int) + 1 < 19 := by omega
   have s28 : (s : Int) < 28 := by omega
   have hyl := HYL.out
   have e1 := hb1.cell p
   rw [ints_get (by omega)] at e1
   have e2 := hb1.cell (p + 1)
   rw [ints_get (by omega)] at e2
   have hln : ((fill 32 (nq v) k).map bval).length = 32 := by rw [List.length_map, fill_length (nq_length v) (by omega)]
   have e3 := hb3.cell k
   rw [List.getElem?_eq_getElem (by omega)] at e3
   have f3 := hb3.free k
   generalize ((fill 32 (nq v) k).map bval)[k]'(by omega) = c at e3
   have q1 : 0 ≤ y.getD p 0 ∧ y.getD p 0 ≤ 268435456 := by
    rcases (by omega : p < 8 ∨ p = 8) with g | g
    ·have := HFN.out.low _ g; omega
    ·rw [g]; exact HFN.out.here
   have q2 : 0 ≤ y.getD (p + 1) 0 ∧ y.getD (p + 1) 0 ≤ 268435456 := by
    rcases (by omega : p + 1 < 8 ∨ p + 1 = 8 ∨ 8 < p + 1) with g | g | g
    ·have := HFN.out.low _ g; omega
    ·rw [g]; exact HFN.out.here
    ·rw [HFN.out.high _ g]; omega
   rw [IntKind.wrap_u8] at HBY
   have HST := Lib.hid (fill_set_val (nq_length v) hlt HBY)
   have q3 := shl_range (y.getD (p + 1) 0) s q2.1 q2.2 (by omega)
   generalize y.getD p 0 = P at *
   generalize y.getD (p + 1) 0 = N at *
   have H1 := Lib.hid hb1
   have H2 := Lib.hid hb2
   have HD := Lib.hid hb3
   have H3 := Lib.hid hbel
   clear hb1 hb2 hb3 hbel hp hs hln HBY hyl
   go_wp2_with fail
   go_region
   go_wp2_with fail
   go_roundw
   case rel =>
    refine ⟨k + 1, by omega, by go_num, (H1.out.far (by simp; omega) _).drewN 1, (H2.out.far (by simp; omega) _).drewN 1, ?_, (Below.setCell H3.out (by simp; omega) _).drew⟩
    rw [← HST.out]
    exact (HD.out.set k _).drewN 1
   case measure => simp [intOf]; omega
  ·have hk' : k = 32 := by omega
   subst hk'
   rw [fill_full (nq_length v)] at hb3
   have H2 := Lib.hid hb2
   have HD := Lib.hid hb3
   have H3 := Lib.hid hbel
   clear hb1 hb2 hb3 hbel
   have hi1 : Hid ((Tryd.prog.info? 23).map (·.size) = some ((nq v).map bval).length) := Lib.hid (num_size (nq_length v))
   have hl1 : Hid (((nq v).map bval).length = (ints .u8 (List.replicate 32 0)).length) := Lib.hid (by rw [List.length_map, nq_length]; rfl)
   go_wp2_with (first | (refine wpList_load_blk rfl _ _ rfl D rfl _ _ _ _ HD.out Tryd.underlying23 hi1.out ?_) | (refine wpList_store_blk rfl _ _ _ rfl (A + 1) _ rfl rfl _ _ H2.out hl1.out hi1.out (bval_one _) ?_; intro w7 hb7 hg7))
   exact bodyPost_ret (v := .agg ((nq v).map bval).toArray) (result_row (by rfl) _ (A + 1) _ _ _ (by rfl) hb7 Tryd.underlying23 rfl hi1.out) rfl ⟨rfl, ext_grown H3.out hg7 (by omega)⟩
def limF (l : List UInt8) : List Int := cRun (lRun l l.length) 0 18
theorem limF_can (l : List UInt8) (h : l.length ≤ 64) : Can (limF l) (leN l : Nat) := by
 have hv := lRun_val l l.length (Nat.le_refl _) h
 rw [List.take_length] at hv
 exact carry_can (B := 2199023255552) (lRun_length l _) (by omega) (fun j _ => by have := lRun_range l l.length h j; omega) hv (by omega) (leN_hQ l h)
theorem limF_length (l : List UInt8) : (limF l).length = 19 := by rw [limF, cRun_length, lRun_length]
set_option maxRecDepth 100000 in
set_option maxHeartbeats 4000000 in
theorem scl_limbsOf_any (v : Value) (l : List UInt8) (w : World) (hl : l.length ≤ 64) (hv : Row1 w v (l.map bval)) :
  Calls Tryd.prog 65 #[v] w fun e w' => e = .returned (.agg (ints .i64 (limF l)).toArray) ∧ Below w.heap.size w w' := by
 obtain ⟨a, cap, rfl, r1, r2, r3, r4⟩ := hv
 have HR := Lib.hid r4
 have HL := Lib.hid hl
 have HB := Lib.hid (boxes2 w (ints .i64 (List.replicate 19 0)) (ints .i64 (List.replicate 19 0)) 85 85)
 rw [List.length_map] at r1 ⊢
 unfold maxLen at r2
 clear r4 hl r3
 go_enter Tryd.func65, Tryd.ntmps65
 go_wp2_with fail
 change Code.wp _ _ _ _ ((w.alloc (.cells (ints .i64 (List.replicate 19 0)).toArray 85)).alloc (.cells (ints .i64 (List.replicate 19 0)).toArray 85))
 generalize (w.alloc (.cells (ints .i64 (List.replicate 19 0)).toArray 85)).alloc (.cells (ints .i64 (List.replicate 19 0)).toArray 85) = w0 at *
 obtain ⟨b1, b2, b3⟩ := HB.out
 obtain ⟨A, hA⟩ : ∃ A, A = w.heap.size := ⟨_, rfl⟩
 rw [← hA] at b1 b2 ⊢
 have hA2 : w.heap.size ≤ A := by omega
 have H1 := Lib.hid b1
 have H2 := Lib.hid b2
 have H3 : Hid (Ext w w0) := Lib.hid b3
 clear b1 b2 b3 hA HB
 go_loopw [9] (fun i wr => ∃ (k : Nat), k ≤ l.length ∧ i = .int .i64 (k : Int) ∧ Blk wr (A + 1) (ints .i64 (lRun l k)) 85 ∧ Blk wr A (ints .i64 (List.replicate 19 0)) 85 ∧ Ext w wr) (fun i _ => l.length - (intOf i).toNat)
 case atStart => exact ⟨0, by omega, rfl, H2.out, H1.out, H3.out⟩
 case round =>
  clear H1 H2 H3
  obtain ⟨k, hk, rfl, hb1, hb2, hbel⟩ := hrel
  have i0' : (0 : Int) ≤ (k : Int) := Int.natCast_nonneg _
  have hlen := lRun_length l k
  by_cases hlt : k < l.length
  ·have h64 := HL.out
   obtain ⟨b, off, rfl, hbs, hcell⟩ := HR.out (by intro e; rw [List.map_eq_nil_iff] at e; subst e; exact absurd hlt (by simp))
   have k1 : (k : Int) < (l.length : Int) := by omega
   have k64 : (k : Int) < 64 := by omega
   have hc := hcell k (by simpa using hlt)
   rw [bval_get hlt] at hc
   have hc2 : wr.cell? ⟨b, off + k, none⟩ = some (.int .u8 ((l.getD k 0).toNat : Int)) := by rw [← hc]; exact hbel.cell (p := ⟨b, off + k, none⟩) hbs
   obtain ⟨p, hp⟩ : ∃ p : Nat, p = 8 * k / 28 := ⟨_, rfl⟩
   obtain ⟨s, hs⟩ : ∃ s : Nat, s = 8 * k % 28 := ⟨_, rfl⟩
   have hp2 : 8 * (k : Int) / 28 = (p : Int) := by omega
   have hs2 : 8 * (k : Int) % 28 = (s : Int) := by omega
   have p19 : (p : Int) < 19 := by omega
   have s28 : s < 28 := by omega
   have s28' : (s : Int) < 28 := by omega
   have e1 := hb1.cell p
   rw [ints_get (by omega)] at e1
   have f1 := hb1.free p
   have hst : lRun l (k + 1) = (lRun l k).set p ((lRun l k).getD p 0 + ((l.getD k 0).toNat : Int) * 2 ^ s) := by rw [hp, hs]; rfl
   have q1 := lRun_range l k (by omega) p
   have q2 := byte_pow (l.getD k 0).toNat s (UInt8.toNat_lt _) s28
   have q3 := UInt8.toNat_lt (l.getD k 0)
   generalize (l.getD k 0).toNat = c at *
   generalize (lRun l k).getD p 0 = x at *
   have HST := Lib.hid hst
   have H1 := Lib.hid hb1
   have H2 := Lib.hid hb2
   have H3 := Lib.hid hbel
   clear hst hb1 hb2 hbel hlen hp hs hc hcell
   go_wp2_with fail
   go_region
   go_wp2_with fail
   go_roundw
   case rel =>
    refine ⟨k + 1, by omega, by go_num, ?_, (H2.out.far (by simp) _).drewN 1, (Below.setCell H3.out (by simp; omega) _).drew⟩
    rw [HST.out, ← ints_set]
    exact (H1.out.set p _).drewN 1
   case measure => simp [intOf]; omega
  ·have hk' : k = l.length := by omega
   subst hk'
   have HCA := Lib.hid (fun w => scl_carried_any (lRun l l.length) 0 18 0 18 2199023255552 hlen (by omega) rfl rfl (by omega) (by omega) (fun j _ hj => by have := lRun_range l l.length HL.out j; have := HL.out; omega) w)
   have hi1 : Hid ((Tryd.prog.info? 85).map (·.size) = some (ints .i64 (lRun l l.length)).length) := Lib.hid (by rw [ints_length, hlen]; exact Tryd.arr85)
   have H1 := Lib.hid hb1
   have H2 := Lib.hid hb2
   have H3 := Lib.hid hbel
   clear hb1 hb2 hbel hlen
   go_wp2_with (refine wpList_load_blk rfl _ _ rfl (A + 1) rfl _ _ _ _ H1.out Tryd.underlying85 hi1.out ?_)
   refine (HCA.out _).mono ?_
   rintro e w5 ⟨rfl, hb5⟩
   have H2 := Lib.hid (ext_blk H2.out hb5)
   have H3 := Lib.hid (H3.out.trans hb5)
   have hi2 : Hid ((Tryd.prog.info? 85).map (·.size) = some (ints .i64 (cRun (lRun l l.length) 0 18)).length) := Lib.hid (by rw [ints_length, cRun_length, lRun_length]; exact Tryd.arr85)
   have hl2 : Hid ((ints .i64 (cRun (lRun l l.length) 0 18)).length = (ints .i64 (List.replicate 19 0)).length) := Lib.hid (by rw [ints_length, ints_length, cRun_length, lRun_length]; rfl)
   clear hb5 HCA
   go_wp2_with (refine wpList_store_blk rfl _ _ _ rfl A _ rfl rfl _ _ H2.out hl2.out hi2.out (ints_one _ _) ?_; intro w6 hb6 hg6)
   exact bodyPost_ret (v := .agg (ints .i64 (limF l)).toArray) (result_row (by rfl) _ A _ _ _ (by rfl) hb6 Tryd.underlying85 rfl hi2.out) rfl ⟨rfl, ext_grown H3.out hg6 (by omega)⟩
theorem limF_num (l : List UInt8) (hl : l.length ≤ 64) (w : World) (hG : GlobT w) :
  Calls Tryd.prog 66 #[.agg (ints .i64 (limF l)).toArray] w fun e w' => e = .returned (.agg ((nq (leN l : Nat)).map bval).toArray) ∧ Below w.heap.size w w' := by
 have h := limF_can l hl
 refine scl_numOf_any (limF l) _ 268435456 w hG h.len (by omega) (by omega) (fun j hj => ?_) h.val (by omega) (leN_hQ l hl)
 rcases (by omega : j < 18 ∨ j = 18) with g | g
 ·have := h.low j g; omega
 ·rw [g]; have := h.top; omega
set_option maxRecDepth 100000 in
set_option maxHeartbeats 4000000 in
theorem Reduce_num (v : Value) (l : List UInt8) (w : World) (hv : Row1 w v (l.map bval)) (hG : GlobT w) :
  Calls Tryd.prog 64 #[v] w fun e w' => e = .returned (.agg ((nq (leN (l.take 64) : Nat)).map bval).toArray) ∧ Below w.heap.size w w' := by
 have h64 : (l.take 64).length ≤ 64 := by simp; omega
 have HV := Lib.hid hv
 obtain ⟨a, cap, rfl, r1, r2, r3, r4⟩ := hv
 have HL64 := Lib.hid h64
 have HG := Lib.hid hG
 have HB := Lib.hid (Blk.made w (ints .u8 (List.replicate 32 0)) 23)
 have HE := Lib.hid (Ext.alloc w (.cells (ints .u8 (List.replicate 32 0)).toArray 23))
 have HR4 := Lib.hid r4
 have HR3 := Lib.hid r3
 have HLM : Hid ((l.map bval).length = l.length) := Lib.hid (List.length_map _)
 clear h64 hG r4 r3
 rw [HLM.out] at r1 ⊢
 unfold maxLen at r2
 have hi1 : Hid ((Tryd.prog.info? 23).map (·.size) = some ((nq (leN (l.take 64) : Nat)).map bval).length) := Lib.hid (num_size (nq_length _))
 have hl1 : Hid (((nq (leN (l.take 64) : Nat)).map bval).length = (ints .u8 (List.replicate 32 0)).length) := Lib.hid (by rw [List.length_map, nq_length]; rfl)
 by_cases hle : l.length ≤ 64
 ·skip
  have HRW : Hid (Row1 w (.slice a l.length cap) ((l.take 64).map bval)) := Lib.hid (by rw [List.take_of_length_le hle]; have := HV.out; rwa [HLM.out] at this)
  go_enter Tryd.func64, Tryd.ntmps64
  go_wp2_with fail
  change Calls _ _ _ (w.alloc (.cells (ints .u8 (List.replicate 32 0)).toArray 23)) _
  refine (scl_limbsOf_any _ (l.take 64) _ HL64.out (HRW.out.below HE.out)).mono ?_
  rintro e w1 ⟨rfl, hb1⟩
  have HB := Lib.hid (ext_blk HB.out hb1)
  have HE := Lib.hid (HE.out.trans hb1)
  clear hb1
  go_wp2_with fail
  refine (limF_num (l.take 64) HL64.out _ (HG.out.ext HE.out)).mono ?_
  rintro e w2 ⟨rfl, hb1⟩
  have HB := Lib.hid (ext_blk HB.out hb1)
  have HE := Lib.hid (HE.out.trans hb1)
  clear hb1
  go_wp2_with (refine wpList_store_blk rfl _ _ _ rfl w.heap.size _ rfl rfl _ _ HB.out hl1.out hi1.out (bval_one _) ?_; intro w7 hb7 hg7)
  exact bodyPost_ret (v := .agg ((nq (leN (l.take 64) : Nat)).map bval).toArray) (result_row (by rfl) _ w.heap.size _ _ _ (by rfl) hb7 Tryd.underlying23 rfl hi1.out) rfl ⟨rfl, ext_grown HE.out hg7 (Nat.le_refl _)⟩
 ·skip
  have HRW : Hid (Row1 w (.slice a 64 cap) ((l.take 64).map bval)) := Lib.hid (by rw [List.map_take]; exact HV.out.head 64 (by rw [HLM.out]; omega))
  go_enter Tryd.func64, Tryd.ntmps64
  go_wp2_with fail
  change Calls _ _ _ (w.alloc (.cells (ints .u8 (List.replicate 32 0)).toArray 23)) _
  refine (scl_limbsOf_any _ (l.take 64) _ HL64.out (HRW.out.below HE.out)).mono ?_
  rintro e w1 ⟨rfl, hb1⟩
  have HB := Lib.hid (ext_blk HB.out hb1)
  have HE := Lib.hid (HE.out.trans hb1)
  clear hb1
  go_wp2_with fail
  refine (limF_num (l.take 64) HL64.out _ (HG.out.ext HE.out)).mono ?_
  rintro e w2 ⟨rfl, hb1⟩
  have HB := Lib.hid (ext_blk HB.out hb1)
  have HE := Lib.hid (HE.out.trans hb1)
  clear hb1
  go_wp2_with (refine wpList_store_blk rfl _ _ _ rfl w.heap.size _ rfl rfl _ _ HB.out hl1.out hi1.out (bval_one _) ?_; intro w7 hb7 hg7)
  exact bodyPost_ret (v := .agg ((nq (leN (l.take 64) : Nat)).map bval).toArray) (result_row (by rfl) _ w.heap.size _ _ _ (by rfl) hb7 Tryd.underlying23 rfl hi1.out) rfl ⟨rfl, ext_grown HE.out hg7 (Nat.le_refl _)⟩
end Go.Proofs.YtckggbkoabmjiaaDoor
