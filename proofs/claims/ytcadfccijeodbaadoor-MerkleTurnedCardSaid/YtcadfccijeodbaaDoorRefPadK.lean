/- What the walks of RefPad need and no function of the document. Each theorem names its own conditions. -/
import Derived.Test.YtcadfccijeodbaaDoorProg
import Derived.Test.YtcadfccijeodbaaDoorShaSpec
import Derived.Test.YtcadfccijeodbaaDoorRowMore
import Derived.Test.YtcadfccijeodbaaDoorOwnKit
import Derived.Test.YtcadfccijeodbaaDoorInfoKit
namespace Go.Proofs.YtcadfccijeodbaaDoor
open Go.RowKit
set_option linter.unusedVariables false
set_option linter.unusedSimpArgs false

/-- What stands behind k noughts; behind k bytes of the length. -/
def padA (b : List UInt8) (k : Nat) : List UInt8 := b ++ [128] ++ List.replicate k 0
theorem padA_succ (b : List UInt8) (k : Nat) : padA b (k + 1) = padA b k ++ [0] := by
  unfold padA
  rw [List.replicate_succ']
  simp [List.append_assoc]
theorem padA_length (b : List UInt8) (k : Nat) : (padA b k).length = b.length + 1 + k := by simp [padA]; omega
/-- The first k of a number's eight bytes. -/
def padB (b : List UInt8) (k : Nat) : List UInt8 := padA b (padN b.length) ++ (beB 8 (8 * b.length)).take k
theorem padB_full (b : List UInt8) : padB b 8 = padded b := by
  unfold padB padded padA
  rw [List.take_of_length_le (by rw [beB_length]; exact Nat.le_refl _)]
theorem beB_get (n : Nat) : ∀ k j, j < k → (beB k n)[j]? = some (UInt8.ofNat (n / 256 ^ (k - 1 - j) % 256))
  | 0, j, h => by omega
  | k + 1, 0, h => by simp [beB]
  | k + 1, j + 1, h => by
    simp only [beB, List.getElem?_cons_succ]
    rw [beB_get n k j (by omega)]
    congr 5
    omega
theorem padB_succ (b : List UInt8) (k : Nat) (hk : k < 8) : padB b (k + 1) = padB b k ++ [UInt8.ofNat (8 * b.length / 256 ^ (7 - k) % 256)] := by
  unfold padB
  have hl : k < (beB 8 (8 * b.length)).length := by rw [beB_length]; exact hk
  rw [List.take_succ_eq_append_getElem hl, List.append_assoc]
  congr 2
  have h1 := beB_get (8 * b.length) 8 k hk
  rw [List.getElem?_eq_getElem hl] at h1
  simpa using h1
theorem pad_test (n k : Nat) (hk : k ≤ padN n) : ((n + 1 + k) % 64 = 56 ↔ k = padN n) := by
  unfold padN at *
  omega

end Go.Proofs.YtcadfccijeodbaaDoor
