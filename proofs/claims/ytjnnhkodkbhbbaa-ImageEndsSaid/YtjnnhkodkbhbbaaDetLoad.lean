/- A whole array is loaded in a region that keeps the text's order, by an operation that another may skip. Nothing here speaks of a program. -/
import Derived.Test.YtjnnhkodkbhbbaaDetEql
namespace Go.Proofs.Ytjnnhkodkbhbbaa
open Go.RowKit
set_option linter.unusedVariables false

section
variable {P : Program} {ops : Array Oper} {Q : Exit → Act → World → Prop}

theorem wpList_load_w {rest : List Oper} {o : Oper} {a : Act} {w : World} (hw : Region.wanted o (yielded ops a.tmps) = true) (ty : TypeId) (x : Operand) (ho : o.op = .load ty x)
    (c : Nat) (hx : a.eval x = .pointer (some ⟨c, 0, none⟩)) (t : TypeId) (cs : List Value) (n : Nat) (e : TypeId) (hb : Blk w c cs t)
    (hu : P.underlying ty = some (.array n e)) (hi : (P.info? ty).map (·.size) = some cs.length)
    (next : wpList P ops Q rest (a.put o.dst (.agg cs.toArray)) w) : wpList P ops Q (o :: rest) a w := by
  refine wpList_step fun K hK => ?_
  rw [if_pos hw]
  exact wp_load_mid ty x ho c 0 hx cs _ hb.range hu rfl hi (hK _ _ next)
end

end Go.Proofs.Ytjnnhkodkbhbbaa
