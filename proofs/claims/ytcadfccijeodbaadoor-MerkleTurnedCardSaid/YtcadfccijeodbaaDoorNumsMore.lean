/- A number put into a slice of its own, and behind others. Nothing here speaks of a program. Each theorem names its own conditions. -/
import Derived.Test.YtcadfccijeodbaaDoorNumsKit
import Derived.Test.YtcadfccijeodbaaDoorDetTail
import Derived.Test.YtcadfccijeodbaaDoorDetPart
import Derived.Laws.AppendOwn
namespace Go.Proofs.YtcadfccijeodbaaDoor
open Go.RowKit
set_option linter.unusedVariables false

theorem ext_ownS {a b d : World} {base size : Nat} {e : TypeId} {n : Nat} {x : Value} {xs : List Value} (h : Ext a b) (ho : b.ownsRow base e size x n xs) (hb : a.heap.size ≤ base) (hg : b.grownBy d x.ownBlock) : Ext a d :=
  Below.grown h hg h.size (fun r hr => by
    obtain ⟨_, h1 | ⟨g, cap, cur, rfl, h2, _⟩⟩ := ho
    · obtain ⟨rfl, _⟩ := h1
      cases hr
    · cases hr
      exact Nat.le_trans hb h2)
theorem info_numz {P : Program} {t : TypeId} {z : Value} {n b : Nat} (h : (P.info? t).map (fun i => (i.zero, i.size, i.bytes)) = some (some z, n, b)) : ∃ i, P.info? t = some i ∧ i.zero = some z ∧ i.size = n ∧ i.bytes = b := by
  cases hp : P.info? t with
  | none => rw [hp] at h; cases h
  | some i =>
    rw [hp] at h
    simp only [Option.map_some, Option.some.injEq, Prod.mk.injEq] at h
    exact ⟨i, rfl, h.1, h.2.1, h.2.2⟩
section
variable {P : Program} {ops : Array Oper} {w : World}
theorem fill_one {z : Value} (hz : z.cells.size = 32) {p : List UInt8} (hp : p.length = 32) :
    Instr.fill (fun i => some (i * 32, 32)) ((Array.range (1 * 32)).map (z.cells[· % z.cells.size]!)) [(0, .agg (p.map bval).toArray)] = some (p.map bval).toArray := by
  obtain ⟨l, hl, hl2⟩ : ∃ l : List Value, ((Array.range (1 * 32)).map (z.cells[· % z.cells.size]!)) = l.toArray ∧ l.length = 32 := ⟨((Array.range (1 * 32)).map (z.cells[· % z.cells.size]!)).toList, by rw [Array.toArray_toList], by simp⟩
  rw [hl]
  have h := fill_first (place := fun i => some (i * 32, 32)) (m := 32) rfl l [] hl2 (a := p.map bval) (by rw [List.length_map, hp])
  rw [List.append_nil, List.append_nil] at h
  exact h
/-- []api.Num of one number. -/
theorem wp_build_num {o : Oper} {a : Act} {K : Act → World → Prop} {Q : Exit → Act → World → Prop} (d : Option Nat) (t q : TypeId) (x : Operand) (p : List UInt8) (hd : o.dst = d) (ho : o.op = .buildSlice t 1 #[(0, x)]) (hu : P.underlying t = some (.slice q))
    {iq : TypeInfo} {z : Value} (hi : P.info? q = some iq) (hz : iq.zero = some z) (hs : iq.size = 32) (hzs : z.cells.size = 32) (hx : a.eval x = .agg (p.map bval).toArray) (hp : p.length = 32)
    (h : K (a.put d (.slice (some ⟨w.heap.size, 0, none⟩) 1 1)) (w.alloc (.cells (p.map bval).toArray q))) : o.wp P a w K Q :=
  wp_buildSlice_d d t q 1 #[(0, x)] hd ho (p.map bval).toArray iq z hu hi hz (by rw [hs]; decide) (by rw [hs]; decide) (by
    rw [hs]
    simp only [List.map_toArray, List.map_cons, List.map_nil, hx]
    exact fill_one hzs hp) h
/-- append(row, number ..), the row the call's own. -/
theorem wp_append_num {o : Oper} {a : Act} {K : Act → World → Prop} {Q : Exit → Act → World → Prop} (d : Option Nat) (s y : Operand) (t : TypeId) (hd : o.dst = d) (ho : o.op = .call { callee := .builtin .append, args := #[s, y], argTypes := #[t, t] })
    (base : Nat) (q : TypeId) (hu : P.underlying t = some (.slice q)) {iq : TypeInfo} {z : Value} (hi : P.info? q = some iq) (hz : iq.zero = some z) (hsz : iq.size = 32) (hby : iq.bytes = 32) (hzs : z.cells.size = 32)
    (x : Value) (n : Nat) (xs : List Value) (hs : a.eval s = x) (hown : w.ownsRow base q 32 x n xs)
    (g c : Nat) (p : List UInt8) (hx : a.eval y = .slice (some ⟨g, 0, none⟩) 1 c) (hb : w.rangeAt g 0 (p.map bval)) (hp : p.length = 32) (hn : n ≤ 1000000) (hbase : base ≤ w.heap.size)
    (h : ∀ x' w', w'.ownsRow base q 32 x' (n + 1) (xs ++ p.map bval) → w.grownBy w' x.ownBlock → K (a.put d x') w') : o.wp P a w K Q := by
  subst hd
  exact wp_append_own w s y t ho base q iq z 32 32 hu hi hz hsz hby hzs (by omega) x n xs hs hown ⟨g, 0, none⟩ 1 c (p.map bval) hx (by rw [List.length_map, hp]) (fun j u hj => by
    rw [WideShapes.add_plain, Nat.zero_add]
    have := hb j u hj
    rwa [Nat.zero_add] at this) (bval_one _) (by unfold maxLen; omega) (by omega) hbase (fun v' w' h2 h3 _ => h v' w' h2 h3)
end

end Go.Proofs.YtcadfccijeodbaaDoor
