/- The tag's bytes, one behind the other, as the document's own Poly lays them. No program. Each theorem names its own conditions. -/
import Derived.Test.YtjnnhkodkbhbbaaPolR
namespace Go.Proofs.Ytjnnhkodkbhbbaa
open Go.RowKit
set_option linter.unusedVariables false
set_option linter.unusedSimpArgs false

def uT (h : List Int) (s : List UInt8) : Nat → Int
  | 0 => 0
  | i + 1 => (uT h s i + h.getD i 0 + ((s.getD i 0).toNat : Int)) / 256
def tD (h : List Int) (s : List UInt8) (i : Nat) : Int := (uT h s i + h.getD i 0 + ((s.getD i 0).toNat : Int)) % 256
theorem uT_range {h : List Int} (hh : ∀ i, 0 ≤ h.getD i 0 ∧ h.getD i 0 ≤ 255) (s : List UInt8) : ∀ i, 0 ≤ uT h s i ∧ uT h s i ≤ 2
  | 0 => by simp [uT]
  | i + 1 => by
    have ih := uT_range hh s i
    have h1 := hh i
    have h2 := (s.getD i 0).toNat_lt
    simp only [uT]
    omega
def tL (h : List Int) (s : List UInt8) (n : Nat) : List Int := (List.range n).map (tD h s)
theorem tL_length (h : List Int) (s : List UInt8) (n : Nat) : (tL h s n).length = n := by simp [tL]
theorem tL_succ (h : List Int) (s : List UInt8) (n : Nat) : tL h s (n + 1) = tL h s n ++ [tD h s n] := by
  simp [tL, List.range_succ]
theorem uT_val (h : List Int) (s : List UInt8) (hl : h.length = 17) (sl : s.length = 16) : ∀ i, i ≤ 16 → gV 256 (tL h s i) + uT h s i * 256 ^ i = gV 256 (h.take i) + ((leN (s.take i) : Nat) : Int)
  | 0, _ => by simp [tL, uT, gV, leN]
  | i + 1, hi => by
    have ih := uT_val h s hl sl i (by omega)
    have e : s.take (i + 1) = s.take i ++ [s.getD i 0] := by
      rw [List.take_succ_eq_append_getElem (by omega)]
      simp [List.getD, show i < s.length by omega]
    rw [tL_succ, gV_append, tL_length, gV_take_succ 256 h i (by omega), e, ← gV_bytes, List.map_append, gV_append]
    have e2 : ((s.take i).map fun b => (b.toNat : Int)).length = i := by rw [List.length_map, List.length_take]; omega
    rw [e2, gV_bytes, Int.pow_succ]
    simp only [List.map_cons, List.map_nil, gV, uT]
    unfold tD
    generalize gV 256 (tL h s i) = T at *
    generalize gV 256 (h.take i) = V at *
    generalize ((leN (s.take i) : Nat) : Int) = L at *
    generalize (256 : Int) ^ i = B at *
    generalize uT h s i = u at *
    generalize h.getD i 0 = z at *
    generalize ((s.getD i 0).toNat : Int) = y at *
    have e3 : (u + z + y) = 256 * ((u + z + y) / 256) + (u + z + y) % 256 := (Int.mul_ediv_add_emod _ _).symm
    generalize (u + z + y) / 256 = q at *
    generalize (u + z + y) % 256 = r at *
    have : u = 256 * q + r - z - y := by omega
    subst this
    clear e3 e e2
    grind
theorem tag_digits {h : List Int} {key b : List UInt8} (hk : key.length = 32) (hl : h.length = 17) (hd : ∀ i, i < 17 → 0 ≤ h.getD i 0 ∧ h.getD i 0 < 256) (hv : gV 256 h = pNum key b) :
    tL h ((key.drop 16).take 16) 16 = (polyTag key b).map fun b => (b.toNat : Int) := by
  have sl : ((key.drop 16).take 16).length = 16 := by rw [List.length_take, List.length_drop]; omega
  have h1 := uT_val h _ hl sl 16 (Nat.le_refl _)
  have h17 := gV_17 hl
  have hS : (((leN (((key.drop 16).take 16).take 16) : Nat) : Int)) = (pS key : Int) := by
    rw [List.take_of_length_le (l := (key.drop 16).take 16) (by omega)]
    rfl
  rw [hS] at h1
  clear hS
  generalize (key.drop 16).take 16 = s at *
  have hp := (pAcc_range (pR key) b ((b.length + 15) / 16)).1
  have hnum : 0 ≤ pNum key b := hp
  have td : ∀ i, i < 16 → 0 ≤ (tL h s 16).getD i 0 ∧ (tL h s 16).getD i 0 < 256 := fun i hi => by
    have e : (tL h s 16).getD i 0 = tD h s i := by
      simp only [tL, List.getD_eq_getElem?_getD, List.getElem?_map, List.getElem?_range hi]
      rfl
    rw [e]
    unfold tD
    omega
  have hr := gV_range (B := 256) (by omega) (zs := tL h s 16) (fun i hi => td i (by rw [tL_length] at hi; exact hi))
  rw [tL_length, pow_16] at hr
  rw [pow_16] at h1
  have hX : gV 256 (tL h s 16) = (((pNum key b + pS key).toNat % 256 ^ 16 : Nat) : Int) := by
    rw [Int.natCast_emod, Int.toNat_of_nonneg (by omega), show ((256 ^ 16 : Nat) : Int) = 340282366920938463463374607431768211456 from by decide +kernel, ← hv, h17]
    generalize gV 256 (tL h s 16) = T at *
    generalize gV 256 (h.take 16) = V at *
    generalize h.getD 16 0 = z at *
    generalize uT h s 16 = u at *
    omega
  have g := gV_dig 16 (pNum key b + pS key).toNat
  show _ = dig 16 (pNum key b + pS key).toNat
  refine gV_inj (B := 256) (by omega) (by rw [tL_length, dig_length]) (fun i hi => td i (by rw [tL_length] at hi; exact hi)) (fun i hi => dig_digits 16 _ i (by rw [dig_length] at hi; exact hi)) ?_
  rw [hX, g]

end Go.Proofs.Ytjnnhkodkbhbbaa
