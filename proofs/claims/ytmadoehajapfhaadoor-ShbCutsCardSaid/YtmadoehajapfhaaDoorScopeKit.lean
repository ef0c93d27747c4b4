/- A scope in which the run jumps back to one label: what stands at each jump is proved to serve once, and the way to the label uses it. Nothing here speaks of a program. Each theorem names its own conditions. -/
import Derived.ScopeJumps
import Derived.Control
namespace Go.Proofs.YtmadoehajapfhaaDoor
set_option linter.unusedVariables false

section
variable {P : Program} {a : Act} {w : World} {Q : Exit → Act → World → Prop}
theorem Exit.jump_mono {l : Nat} {J J' : Act → World → Prop} (h : ∀ a w, J a w → J' a w) : ∀ {e : Exit} {a : Act} {w : World}, Exit.jump l J Q e a w → Exit.jump l J' Q e a w
  | .goto _, _, _, hh => ⟨hh.1, h _ _ hh.2⟩
  | .normal, _, _, hh => hh
  | .exit _, _, _, hh => hh
  | .ret, _, _, hh => hh
  | .panic _, _, _, hh => hh
  | .outgrown, _, _, hh => hh
theorem wp_scope_back {c rest : Code} (l : Nat) (J : Act → World → Prop) (μ : Act → World → Nat) (hf : findLabel c l = some rest)
    (first : (∀ a w, J a w → rest.wp P (Exit.jump l J Q) a w) → c.wp P (Exit.jump l J Q) a w)
    (pass : ∀ a w, J a w → rest.wp P (Exit.jump l (fun a' w' => J a' w' ∧ μ a' w' < μ a w) Q) a w) : (Code.scope c).wp P Q a w :=
  wp_scope_jumps l J μ hf (first fun a w h => Code.wp_mono (fun e a w h => Exit.jump_mono (fun _ _ h => h.1) h) (pass a w h)) pass
/-- The same, where what stands behind the label begins with nothing. -/
theorem wp_scope_back0 {c rest : Code} (l : Nat) (J : Act → World → Prop) (μ : Act → World → Nat) (hf : findLabel c l = some (Code.skip.seq rest))
    (first : (∀ a w, J a w → rest.wp P (Exit.jump l J Q) a w) → c.wp P (Exit.jump l J Q) a w)
    (pass : ∀ a w, J a w → rest.wp P (Exit.jump l (fun a' w' => J a' w' ∧ μ a' w' < μ a w) Q) a w) : (Code.scope c).wp P Q a w :=
  wp_scope_jumps l J μ hf (first fun a w h => Code.wp_mono (fun e a w h => Exit.jump_mono (fun _ _ h => h.1) h) (pass a w h)) fun a w h => wp_seq (wp_skip (pass a w h))
end

end Go.Proofs.YtmadoehajapfhaaDoor
