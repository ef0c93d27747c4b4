/- The hash of 32-bit words, as functions on lists: the schedule, the rounds, the blocks, the padding. No program. Each theorem names its own conditions. -/
import Derived.Test.YtcadfccijeodbaaDoorWordKit
namespace Go.Proofs.YtcadfccijeodbaaDoor
open Go.RowKit
set_option linter.unusedVariables false
set_option linter.unusedSimpArgs false

/-- Four bytes as a word, the highest first. -/
def beW (m : List UInt8) (k : Nat) : W32 := BitVec.ofNat 32 (16777216 * (m.getD k 0).toNat + 65536 * (m.getD (k + 1) 0).toNat + 256 * (m.getD (k + 2) 0).toNat + (m.getD (k + 3) 0).toNat)
/-- The first k words of a block that begins at the byte 'start'. -/
def wTop (m : List UInt8) (start : Nat) : Nat → List W32
  | 0 => List.replicate 64 0#32
  | k + 1 => (wTop m start k).set k (beW m (start + 4 * k))
def sg0 (x : W32) : W32 := rotr x 7 ^^^ rotr x 18 ^^^ x >>> 3
def sg1 (x : W32) : W32 := rotr x 17 ^^^ rotr x 19 ^^^ x >>> 10
def wNext (l : List W32) (i : Nat) : W32 := l.getD (i - 16) 0#32 + sg0 (l.getD (i - 15) 0#32) + l.getD (i - 7) 0#32 + sg1 (l.getD (i - 2) 0#32)
/-- The schedule, n words behind the sixteenth. -/
def wSch (m : List UInt8) (start : Nat) : Nat → List W32
  | 0 => wTop m start 16
  | n + 1 => (wSch m start n).set (16 + n) (wNext (wSch m start n) (16 + n))
theorem wTop_length (m : List UInt8) (start : Nat) : ∀ k, (wTop m start k).length = 64
  | 0 => by simp [wTop]
  | k + 1 => by simp [wTop, wTop_length m start k]
theorem wSch_length (m : List UInt8) (start : Nat) : ∀ k, (wSch m start k).length = 64
  | 0 => wTop_length m start 16
  | k + 1 => by simp [wSch, wSch_length m start k]
/-- One round, of eight words. -/
def rnd (v : List W32) (k w : W32) : List W32 :=
  let e := v.getD 4 0#32
  let a := v.getD 0 0#32
  let t := v.getD 7 0#32 + (rotr e 6 ^^^ rotr e 11 ^^^ rotr e 25) + (e &&& v.getD 5 0#32 ^^^ ~~~e &&& v.getD 6 0#32) + k + w
  let u := (rotr a 2 ^^^ rotr a 13 ^^^ rotr a 22) + (a &&& v.getD 1 0#32 ^^^ a &&& v.getD 2 0#32 ^^^ v.getD 1 0#32 &&& v.getD 2 0#32)
  [t + u, a, v.getD 1 0#32, v.getD 2 0#32, v.getD 3 0#32 + t, e, v.getD 5 0#32, v.getD 6 0#32]
def K256 : List W32 := [0x428a2f98, 0x71374491, 0xb5c0fbcf, 0xe9b5dba5, 0x3956c25b, 0x59f111f1, 0x923f82a4, 0xab1c5ed5,
  0xd807aa98, 0x12835b01, 0x243185be, 0x550c7dc3, 0x72be5d74, 0x80deb1fe, 0x9bdc06a7, 0xc19bf174,
  0xe49b69c1, 0xefbe4786, 0x0fc19dc6, 0x240ca1cc, 0x2de92c6f, 0x4a7484aa, 0x5cb0a9dc, 0x76f988da,
  0x983e5152, 0xa831c66d, 0xb00327c8, 0xbf597fc7, 0xc6e00bf3, 0xd5a79147, 0x06ca6351, 0x14292967,
  0x27b70a85, 0x2e1b2138, 0x4d2c6dfc, 0x53380d13, 0x650a7354, 0x766a0abb, 0x81c2c92e, 0x92722c85,
  0xa2bfe8a1, 0xa81a664b, 0xc24b8b70, 0xc76c51a3, 0xd192e819, 0xd6990624, 0xf40e3585, 0x106aa070,
  0x19a4c116, 0x1e376c08, 0x2748774c, 0x34b0bcb5, 0x391c0cb3, 0x4ed8aa4a, 0x5b9cca4f, 0x682e6ff3,
  0x748f82ee, 0x78a5636f, 0x84c87814, 0x8cc70208, 0x90befffa, 0xa4506ceb, 0xbef9a3f7, 0xc67178f2]
def H256 : List W32 := [0x6a09e667, 0xbb67ae85, 0x3c6ef372, 0xa54ff53a, 0x510e527f, 0x9b05688c, 0x1f83d9ab, 0x5be0cd19]
def vRun (h w : List W32) : Nat → List W32
  | 0 => h
  | i + 1 => rnd (vRun h w i) (K256.getD i 0#32) (w.getD i 0#32)
theorem vRun_length (h w : List W32) (hh : h.length = 8) : ∀ i, (vRun h w i).length = 8
  | 0 => hh
  | i + 1 => rfl
/-- The first k words of the sum of both. -/
def hAdd (h v : List W32) : Nat → List W32
  | 0 => h
  | k + 1 => (hAdd h v k).set k ((hAdd h v k).getD k 0#32 + v.getD k 0#32)
theorem hAdd_length (h v : List W32) : ∀ k, (hAdd h v k).length = h.length
  | 0 => rfl
  | k + 1 => by simp [hAdd, hAdd_length h v k]
/-- n blocks. -/
def hRun (m : List UInt8) : Nat → List W32
  | 0 => H256
  | n + 1 => hAdd (hRun m n) (vRun (hRun m n) (wSch m (64 * n) 48) 64) 8
theorem hRun_length (m : List UInt8) : ∀ n, (hRun m n).length = 8
  | 0 => rfl
  | n + 1 => by rw [hRun, hAdd_length, hRun_length m n]

/-- How many noughts lie behind the byte 128. -/
def padN (n : Nat) : Nat := (119 - n % 64) % 64
/-- A number's bytes, the highest first. -/
def beB : Nat → Nat → List UInt8
  | 0, _ => []
  | k + 1, n => UInt8.ofNat (n / 256 ^ k % 256) :: beB k n
def padded (b : List UInt8) : List UInt8 := b ++ [128] ++ List.replicate (padN b.length) 0 ++ beB 8 (8 * b.length)
theorem beB_length : ∀ k n, (beB k n).length = k
  | 0, _ => rfl
  | k + 1, n => by simp [beB, beB_length k n]
theorem padded_length (b : List UInt8) : (padded b).length = 64 * ((b.length + 72) / 64) := by
  simp only [padded, padN, List.length_append, List.length_replicate, beB_length, List.length_cons, List.length_nil]
  omega
/-- A word's four bytes, the highest first. -/
def outB (h : List W32) : List UInt8 := (List.range 32).map fun i => UInt8.ofNat ((h.getD (i / 4) 0#32).toNat / 2 ^ (24 - 8 * (i % 4)) % 256)
theorem outB_length (h : List W32) : (outB h).length = 32 := by simp [outB]
def sha256 (b : List UInt8) : List UInt8 := outB (hRun (padded b) ((b.length + 72) / 64))
theorem sha256_length (b : List UInt8) : (sha256 b).length = 32 := outB_length _
theorem sha256_abc : sha256 [97, 98, 99] = [0xba, 0x78, 0x16, 0xbf, 0x8f, 0x01, 0xcf, 0xea, 0x41, 0x41, 0x40, 0xde, 0x5d, 0xae, 0x22, 0x23, 0xb0, 0x03, 0x61, 0xa3, 0x96, 0x17, 0x7a, 0x9c, 0xb4, 0x10, 0xff, 0x61, 0xf2, 0x00, 0x15, 0xad] := by decide +kernel

end Go.Proofs.YtcadfccijeodbaaDoor
