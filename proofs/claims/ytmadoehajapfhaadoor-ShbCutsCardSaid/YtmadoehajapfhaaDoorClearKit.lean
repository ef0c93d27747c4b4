/- clear(s) of a slice of bytes that lies in a block known whole. Nothing here speaks of a program. Each theorem names its own conditions. -/
import Derived.Test.YtmadoehajapfhaaDoorDetLoad
import Derived.Test.YtmadoehajapfhaaDoorByteKit
namespace Go.Proofs.YtmadoehajapfhaaDoor
open Go.RowKit
set_option linter.unusedVariables false

section
variable {P : Program} {w : World}
theorem zeroCells_one (x : Value) (n : Nat) : (Builtin.zeroCells #[x] n).toList = List.replicate n x := by
  unfold Builtin.zeroCells
  rw [Array.toList_map]
  apply List.ext_getElem
  · simp
  · intro i h1 h2
    simp [Nat.mod_one]
theorem run_clear_bytes {t e ty : TypeId} (ht : P.underlying t = some (.slice e)) (hz : ∀ w, (zeroValue e).run P w = .ok (.int .u8 0) w) (c o n cap : Nat) (cs : List Value) (tb : TypeId) (hb : Blk w c cs tb) (hn : o + n ≤ cs.length) :
    (Builtin.clear_ #[t] ty #[.slice (some ⟨c, o, none⟩) n cap]).run P w = .ok (.tuple #[]) (w.setCells c o (List.replicate n (.int .u8 0))) := by
  cases n with
  | zero => simp [Builtin.clear_, run_underlying ht, World.setCells]
  | succ n =>
    have hst := run_storeCells_cells (P := P) c o (List.replicate (n + 1) (.int .u8 0)) 0 w (fun j hj => by
      rw [hb.cell, List.getElem?_eq_getElem (by rw [List.length_replicate] at hj; omega)]
      rfl) (fun j _ => hb.free _) (fun v hv => by rw [List.eq_of_mem_replicate hv]; rfl)
    rw [Nat.add_zero] at hst
    simp [Builtin.clear_, run_underlying ht, hz, Value.cells, zeroCells_one, hst]
end

theorem laid_append : ∀ (vs a b : List Value), vs.length = b.length → laid (a ++ b) a.length vs = a ++ vs
  | [], a, [], _ => rfl
  | v :: r, a, x :: b, h => by
    rw [laid, List.set_append_right _ _ (Nat.le_refl _), Nat.sub_self, List.set_cons_zero]
    have ih := laid_append r (a ++ [v]) b (by simpa using h)
    simpa using ih

end Go.Proofs.YtmadoehajapfhaaDoor
