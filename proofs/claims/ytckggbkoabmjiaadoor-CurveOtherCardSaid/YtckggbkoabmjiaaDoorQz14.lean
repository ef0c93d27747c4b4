/- Texts that belong together, one behind the other. -/
import Derived.WalkKit
import Derived.ProofKit
import Derived.Deep.Slices
import Derived.Laws.Cover2
import Derived.OpenShut
import Derived.WalkSpells
import Derived.WalkLawsBesides
import Derived.Lib.Hide
import Derived.Deep.QuietTactic
import Derived.BigQuiet
import Derived.Deep.RegionHeld3
import Derived.Deep.AppendLies
import Derived.OneCell
import Derived.Test.YtckggbkoabmjiaaDoorRows
import Derived.Lib.SlBytesConst
import Derived.KernelRfl
import Derived.Laws.ResultCell
import Derived.Deep.MidRow
import Derived.Deep.Quiet
import Derived.OrdersHeld
import Derived.Deep.RegionHeld
import Derived.ChangeKeysEq
import Derived.Deep.CutRange
import Derived.Lib.AppendZeros
import Derived.WalkMore
import Derived.Deep.RegionWith
import Derived.StillTailTactics
import Derived.Laws.Entries
import Derived.Great.BuildSlice
import Derived.ScopeJumps
import Derived.Control
import Derived.Laws.CopyOwn
import Derived.Laws.Slices
import Derived.Laws.Tables
import Derived.Lib.Mul64
import Derived.Laws.Bits64b
import Derived.Laws.Externs
import Derived.Test.YtckggbkoabmjiaaDoorQz01
import Derived.Test.YtckggbkoabmjiaaDoorQz02
import Derived.Test.YtckggbkoabmjiaaDoorQz03
import Derived.Test.YtckggbkoabmjiaaDoorQz09
import Derived.Test.YtckggbkoabmjiaaDoorQz11
namespace Go.Proofs.YtckggbkoabmjiaaDoor
set_option linter.unusedVariables false
set_option linter.unusedSimpArgs false
open Go.RowKit
section
open Go.ChangeShapes Go.WideShapes Go.ChangeAt Go.RowKit
section
variable {H : Type} {enc : TypeId × Value → H} {P : Program} {W : World} {sp : Nat → Bool}
theorem open_bytes {base0 : Nat} {r : Reach} {t e : TypeId} {v : Value} {d : DataW H} {ps : List MemPlace} (ht : P.underlying t = some (.slice e)) (he : P.underlying e = some (.int .u8)) (hc : P.cellsOf e = 1)
  (hval : Value.okWide P W r base0 t v) (hd : DataW.Trod enc P W 0 (fun _ => true) true t v d ps) : ∃ l : List UInt8, Row1 W v (l.map bval) := by
 obtain ⟨a, len, cap, rfl⟩ := okWide_slice ht hval
 obtain ⟨fuel, hf⟩ := hd
 exact bytes_of_trod (y := (d, ps)) ht he hc (by simpa [Value.cells] using hf)
end
end
theorem csign_one (sd l : List UInt8) (x : Value) (w : World) (hs : sd.length = 32) (hx : Row1 w x (l.map bval)) (hl : l.length ≤ 1000000000000) (hR : GlobRQ w) (hT : GlobT w) (hG : GlobC w) :
  Calls Tryd.prog 14 #[.agg (sd.map bval).toArray, .slice (some ⟨w.heap.size, 0, none⟩) 1 1] (w.alloc (.cells #[x] 33)) fun e w' => e = .returned (.agg ((edSign sd l).map bval).toArray) ∧ Below w.heap.size w w' := by
 have he := Ext.alloc w (.cells #[x] 33)
 have h := CSign_num sd _ [l] _ hs (rowB1 (Row1.made w #[x] 33 _ 1 [x] rfl rfl rfl (by unfold maxLen; omega)) (hx.below he)) (by simpa using hl) (by simp) (hR.ext he) (hT.ext he) (hG.ext he)
 refine h.mono ?_
 rintro e w' ⟨h1, h2⟩
 rw [show [l].flatten = l from by simp] at h1
 exact ⟨h1, he.trans h2⟩
end Go.Proofs.YtckggbkoabmjiaaDoor
