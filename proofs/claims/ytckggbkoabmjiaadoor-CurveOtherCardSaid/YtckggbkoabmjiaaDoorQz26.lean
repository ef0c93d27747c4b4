/- Texts that belong together, one behind the other. -/
import Derived.Lib.SlBytesConst
import Derived.KernelRfl
import Derived.Laws.ResultCell
import Derived.Deep.MidRow
import Derived.WalkKit
import Derived.WalkSpells
import Derived.WalkLawsBesides
import Derived.Lib.Hide
import Derived.Deep.QuietTactic
import Derived.BigQuiet
import Derived.Deep.RegionHeld3
import Derived.Deep.AppendLies
import Derived.OneCell
import Derived.Deep.Quiet
import Derived.OrdersHeld
import Derived.Deep.RegionHeld
import Derived.ChangeKeysEq
import Derived.Deep.CutRange
import Derived.Lib.AppendZeros
import Derived.ProofKit
import Derived.WalkMore
import Derived.Deep.RegionWith
import Derived.StillTailTactics
import Derived.Laws.Entries
import Derived.Great.BuildSlice
import Derived.ScopeJumps
import Derived.Control
import Derived.Laws.CopyOwn
import Derived.Laws.Slices
import Derived.Laws.Tables
import Derived.Lib.Mul64
import Derived.Laws.Bits64b
import Derived.Laws.Externs
import Derived.Test.YtckggbkoabmjiaaDoorQz01
import Derived.Test.YtckggbkoabmjiaaDoorQz02
import Derived.Test.YtckggbkoabmjiaaDoorQz09
namespace Go.Proofs.YtckggbkoabmjiaaDoor
set_option linter.unusedVariables false
set_option linter.unusedSimpArgs false
open Go.RowKit
theorem cver_rows (key g m : List UInt8) (v : Value) (ls : List (List UInt8)) (w : World) (hk : key.length = 32) (hg : g.length = 64) (hv : RowB w v ls) (hf : ls.flatten = m) (hl : m.length ≤ 1000000000000) (hc : ls.length ≤ 1000000) (hR : GlobRQ w) (hT : GlobT w) (hG : GlobC w) :
  Calls Tryd.prog 17 #[.agg (key.map bval).toArray, .agg (g.map bval).toArray, v] w fun e w' => e = .returned (.bool (verB key g m)) ∧ Below w.heap.size w w' := by
 subst hf
 exact CVer_num key g v ls w hk hg hv hl hc hR hT hG
end Go.Proofs.YtckggbkoabmjiaaDoor
