/- A drawn region all of whose operations read, reckon or call what leaves old memory alone: one walk of the text's order, under the kit's own light test. Nothing here speaks of a program. Each theorem names its own conditions. -/
import Derived.Test.YtjnnhkodkbhbbaaDetSteps
namespace Go.Proofs.Ytjnnhkodkbhbbaa
open Go.RowKit
set_option linter.unusedVariables false

section
variable {P : Program} {ops : Array Oper} {Q : Exit → Act → World → Prop}

theorem quietAt_ext {o : Oper} {a : Act} {w w' : World} {v : Value} (he : Ext w w') (h : o.quietAt P a (Ext w') w' v) : o.quietAt P a (Ext w) w' v := by
  unfold Oper.quietAt at *
  generalize (execOp a.eval o).run P w' = r at *
  cases r with
  | halt x w2 => exact h.elim
  | ok n w2 =>
    cases n <;> simp only [Oper.quietUpon] at h ⊢
    case value u => exact h
    case skip => exact h
    case enter f args => exact ⟨h.1, h.2.mono fun e w3 h3 => ⟨h3.1, he.trans h3.2⟩⟩

theorem quiet_of_det {w : World} {D : Act → Prop} : ∀ (l : List Oper) (a : Act), wpDet P ops (Ext w) D l a → wpQuiet P ops (Ext w) D l a
  | [], _, h => h
  | o :: l, a, h => by
    unfold wpQuiet
    split
    · rename_i hw
      obtain ⟨v, h1, h2⟩ := h.1 hw
      exact ⟨v, fun w' hw' => quietAt_ext hw' (h1 w' hw'), quiet_of_det l _ h2⟩
    · rename_i hw
      exact quiet_of_det l _ (h.2 (by simpa using hw))

theorem wp_region_all {id : Nat} {a : Act} {w : World} (hm : P.follows .mixedOrders = true) (hB : Region.lexB .any ops = true)
    (h : wpDet P ops (Ext w) (fun a' => ∀ w', Ext w w' → Q .normal a' w') ops.toList a) : (Code.region id ops true).wp P Q a w :=
  wp_region_quiet (C := Ext w) hm hB (Ext.drew w) (quiet_of_det _ _ h)
end

end Go.Proofs.Ytjnnhkodkbhbbaa
