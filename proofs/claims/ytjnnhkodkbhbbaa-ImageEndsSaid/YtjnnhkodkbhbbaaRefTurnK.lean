/- What the walks of RefTurn need and no function of the document. Each theorem names its own conditions. -/
import Derived.Test.YtjnnhkodkbhbbaaRefBlockK
import Derived.Test.YtjnnhkodkbhbbaaMakeKit
import Derived.Test.YtjnnhkodkbhbbaaRowMore
import Derived.Test.YtjnnhkodkbhbbaaInfoKit
import Derived.Laws.OwnMore
import Derived.Deep.Onto
namespace Go.Proofs.Ytjnnhkodkbhbbaa
open Go.RowKit
set_option linter.unusedVariables false
set_option linter.unusedSimpArgs false

theorem Try.arr44 : (Try.prog.info? 44).map (·.size) = some 12 := by kernel_rfl
theorem nonce_size {l : List UInt8} (h : l.length = 12) : (Try.prog.info? 44).map (·.size) = some (l.map bval).length := by rw [List.length_map, h]; exact Try.arr44
theorem ofInt32_mod (c z : Int) : BitVec.ofInt 32 (c % 4294967296 + z) = BitVec.ofInt 32 (c + z) := by
  apply BitVec.eq_of_toInt_eq
  rw [BitVec.toInt_ofInt, BitVec.toInt_ofInt]
  unfold Int.bmod
  have e2 : ((2 ^ 32 : Nat) : Int) = 4294967296 := rfl
  rw [e2, Int.emod_add_emod]
/-- The byte of the stream at k, the block at hand. -/
theorem chaByte_at (key : List UInt8) (c : Int) (nonce kk : List UInt8) (k : Nat) (h : kk = chaBlock key (BitVec.ofInt 32 (c + ((k / 64 : Nat) : Int))) nonce) : kk.getD (k % 64) 0 = chaByte key c nonce k := by
  rw [h]
  rfl

end Go.Proofs.Ytjnnhkodkbhbbaa
