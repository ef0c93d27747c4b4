/- X25519 of bytes: the number with its bits cleared and set, the point with its highest bit cleared, the answer. No program. Each theorem names its own conditions. -/
import Derived.Test.YtdjdalaghfknoaaEdwRun
import Derived.Test.YtdjdalaghfknoaaByteKit
namespace Go.Proofs.Ytdjdalaghfknoaa
open Go.RowKit

/-- A number's 32 bytes. -/
def nbF (f : Fp) : List UInt8 := bytesN 32 f.val
theorem nbF_length (f : Fp) : (nbF f).length = 32 := bytesN_length _ _
/-- X25519: the number with its bits cleared and set; the point with its highest bit cleared. -/
def clampB (l : List UInt8) : List UInt8 := (l.set 0 (l.getD 0 0 &&& 248)).set 31 (((l.set 0 (l.getD 0 0 &&& 248)).getD 31 0 &&& 127) ||| 64)
def maskB (l : List UInt8) : List UInt8 := l.set 31 (l.getD 31 0 &&& 127)
theorem clampB_length {l : List UInt8} (h : l.length = 32) : (clampB l).length = 32 := by simp [clampB, h]
theorem maskB_length {l : List UInt8} (h : l.length = 32) : (maskB l).length = 32 := by simp [maskB, h]
def ladB (kb ub : List UInt8) : List UInt8 := nbF (lmul (leN (clampB kb)) (fp (leN (maskB ub))))
theorem ladB_length (kb ub : List UInt8) : (ladB kb ub).length = 32 := nbF_length _
def nineB : List UInt8 := 9 :: List.replicate 31 0
def pubB (k : List UInt8) : List UInt8 := ladB k nineB
theorem nineB_length : nineB.length = 32 := by simp [nineB]
def shErr (k u : List UInt8) : Int := if ladB k u = zer then 21 else 0

end Go.Proofs.Ytdjdalaghfknoaa
