/- The hash of 64-bit words, as functions on lists: the schedule, the rounds, the blocks, the padding. No program. Each theorem names its own conditions. -/
import Derived.Test.YtmadoehajapfhaaDoorLongKit
import Derived.Test.YtmadoehajapfhaaDoorShaSpec
namespace Go.Proofs.YtmadoehajapfhaaDoor
open Go.RowKit
set_option linter.unusedVariables false
set_option linter.unusedSimpArgs false

/-- The number that n bytes are, the highest first. -/
def beN (m : List UInt8) (k : Nat) : Nat → Nat
  | 0 => 0
  | n + 1 => 256 * beN m k n + (m.getD (k + n) 0).toNat
theorem beN_lt (m : List UInt8) (k : Nat) : ∀ n, beN m k n < 256 ^ n
  | 0 => by simp [beN]
  | n + 1 => by
    have h1 := beN_lt m k n
    have h2 := (m.getD (k + n) 0).toNat_lt
    simp only [beN, Nat.pow_succ]
    omega
/-- Eight bytes as a word, the highest first. -/
def beQ (m : List UInt8) (k : Nat) : Q64 := BitVec.ofNat 64 (beN m k 8)
/-- The first k words of a block that begins at the byte 'start'. -/
def qTop (m : List UInt8) (start : Nat) : Nat → List Q64
  | 0 => List.replicate 80 0#64
  | k + 1 => (qTop m start k).set k (beQ m (start + 8 * k))
def tg0 (x : Q64) : Q64 := rotq x 1 ^^^ rotq x 8 ^^^ x >>> 7
def tg1 (x : Q64) : Q64 := rotq x 19 ^^^ rotq x 61 ^^^ x >>> 6
def qNext (l : List Q64) (i : Nat) : Q64 := l.getD (i - 16) 0#64 + tg0 (l.getD (i - 15) 0#64) + l.getD (i - 7) 0#64 + tg1 (l.getD (i - 2) 0#64)
/-- The schedule, n words behind the sixteenth. -/
def qSch (m : List UInt8) (start : Nat) : Nat → List Q64
  | 0 => qTop m start 16
  | n + 1 => (qSch m start n).set (16 + n) (qNext (qSch m start n) (16 + n))
theorem qTop_length (m : List UInt8) (start : Nat) : ∀ k, (qTop m start k).length = 80
  | 0 => by simp [qTop]
  | k + 1 => by simp [qTop, qTop_length m start k]
theorem qSch_length (m : List UInt8) (start : Nat) : ∀ k, (qSch m start k).length = 80
  | 0 => qTop_length m start 16
  | k + 1 => by simp [qSch, qSch_length m start k]
/-- One round, of eight words. -/
def rndq (v : List Q64) (k w : Q64) : List Q64 :=
  let e := v.getD 4 0#64
  let a := v.getD 0 0#64
  let t := v.getD 7 0#64 + (rotq e 14 ^^^ rotq e 18 ^^^ rotq e 41) + (e &&& v.getD 5 0#64 ^^^ ~~~e &&& v.getD 6 0#64) + k + w
  let u := (rotq a 28 ^^^ rotq a 34 ^^^ rotq a 39) + (a &&& v.getD 1 0#64 ^^^ a &&& v.getD 2 0#64 ^^^ v.getD 1 0#64 &&& v.getD 2 0#64)
  [t + u, a, v.getD 1 0#64, v.getD 2 0#64, v.getD 3 0#64 + t, e, v.getD 5 0#64, v.getD 6 0#64]
def K512 : List Q64 := [0x428a2f98d728ae22, 0x7137449123ef65cd, 0xb5c0fbcfec4d3b2f, 0xe9b5dba58189dbbc, 0x3956c25bf348b538, 0x59f111f1b605d019, 0x923f82a4af194f9b, 0xab1c5ed5da6d8118, 0xd807aa98a3030242, 0x12835b0145706fbe, 0x243185be4ee4b28c, 0x550c7dc3d5ffb4e2, 0x72be5d74f27b896f, 0x80deb1fe3b1696b1, 0x9bdc06a725c71235, 0xc19bf174cf692694, 0xe49b69c19ef14ad2, 0xefbe4786384f25e3, 0x0fc19dc68b8cd5b5, 0x240ca1cc77ac9c65, 0x2de92c6f592b0275, 0x4a7484aa6ea6e483, 0x5cb0a9dcbd41fbd4, 0x76f988da831153b5, 0x983e5152ee66dfab, 0xa831c66d2db43210, 0xb00327c898fb213f, 0xbf597fc7beef0ee4, 0xc6e00bf33da88fc2, 0xd5a79147930aa725, 0x06ca6351e003826f, 0x142929670a0e6e70, 0x27b70a8546d22ffc, 0x2e1b21385c26c926, 0x4d2c6dfc5ac42aed, 0x53380d139d95b3df, 0x650a73548baf63de, 0x766a0abb3c77b2a8, 0x81c2c92e47edaee6, 0x92722c851482353b, 0xa2bfe8a14cf10364, 0xa81a664bbc423001, 0xc24b8b70d0f89791, 0xc76c51a30654be30, 0xd192e819d6ef5218, 0xd69906245565a910, 0xf40e35855771202a, 0x106aa07032bbd1b8, 0x19a4c116b8d2d0c8, 0x1e376c085141ab53, 0x2748774cdf8eeb99, 0x34b0bcb5e19b48a8, 0x391c0cb3c5c95a63, 0x4ed8aa4ae3418acb, 0x5b9cca4f7763e373, 0x682e6ff3d6b2b8a3, 0x748f82ee5defb2fc, 0x78a5636f43172f60, 0x84c87814a1f0ab72, 0x8cc702081a6439ec, 0x90befffa23631e28, 0xa4506cebde82bde9, 0xbef9a3f7b2c67915, 0xc67178f2e372532b, 0xca273eceea26619c, 0xd186b8c721c0c207, 0xeada7dd6cde0eb1e, 0xf57d4f7fee6ed178, 0x06f067aa72176fba, 0x0a637dc5a2c898a6, 0x113f9804bef90dae, 0x1b710b35131c471b, 0x28db77f523047d84, 0x32caab7b40c72493, 0x3c9ebe0a15c9bebc, 0x431d67c49c100d4c, 0x4cc5d4becb3e42b6, 0x597f299cfc657e2a, 0x5fcb6fab3ad6faec, 0x6c44198c4a475817]
def H512 : List Q64 := [0x6a09e667f3bcc908, 0xbb67ae8584caa73b, 0x3c6ef372fe94f82b, 0xa54ff53a5f1d36f1, 0x510e527fade682d1, 0x9b05688c2b3e6c1f, 0x1f83d9abfb41bd6b, 0x5be0cd19137e2179]
def qRun (h w : List Q64) : Nat → List Q64
  | 0 => h
  | i + 1 => rndq (qRun h w i) (K512.getD i 0#64) (w.getD i 0#64)
theorem qRun_length (h w : List Q64) (hh : h.length = 8) : ∀ i, (qRun h w i).length = 8
  | 0 => hh
  | i + 1 => rfl
/-- The first k words of the sum of both. -/
def qAdd (h v : List Q64) : Nat → List Q64
  | 0 => h
  | k + 1 => (qAdd h v k).set k ((qAdd h v k).getD k 0#64 + v.getD k 0#64)
theorem qAdd_length (h v : List Q64) : ∀ k, (qAdd h v k).length = h.length
  | 0 => rfl
  | k + 1 => by simp [qAdd, qAdd_length h v k]
/-- n blocks. -/
def gRun (m : List UInt8) : Nat → List Q64
  | 0 => H512
  | n + 1 => qAdd (gRun m n) (qRun (gRun m n) (qSch m (128 * n) 64) 80) 8
theorem gRun_length (m : List UInt8) : ∀ n, (gRun m n).length = 8
  | 0 => rfl
  | n + 1 => by rw [gRun, qAdd_length, gRun_length m n]

/-- How many noughts lie behind the byte 128. -/
def padQ (n : Nat) : Nat := (239 - n % 128) % 128
def paddedQ (b : List UInt8) : List UInt8 := b ++ [128] ++ List.replicate (padQ b.length) 0 ++ beB 16 (8 * b.length)
theorem paddedQ_length (b : List UInt8) : (paddedQ b).length = 128 * ((b.length + 144) / 128) := by
  simp only [paddedQ, padQ, List.length_append, List.length_replicate, beB_length, List.length_cons, List.length_nil]
  omega
/-- A word's eight bytes, the highest first. -/
def outQ (h : List Q64) : List UInt8 := (List.range 64).map fun i => UInt8.ofNat ((h.getD (i / 8) 0#64).toNat / 2 ^ (56 - 8 * (i % 8)) % 256)
theorem outQ_length (h : List Q64) : (outQ h).length = 64 := by simp [outQ]
def sha512 (b : List UInt8) : List UInt8 := outQ (gRun (paddedQ b) ((b.length + 144) / 128))
theorem sha512_length (b : List UInt8) : (sha512 b).length = 64 := outQ_length _
theorem sha512_abc : (sha512 [97, 98, 99]).take 8 = [0xdd, 0xaf, 0x35, 0xa1, 0x93, 0x61, 0x7a, 0xba] := by decide +kernel

end Go.Proofs.YtmadoehajapfhaaDoor
