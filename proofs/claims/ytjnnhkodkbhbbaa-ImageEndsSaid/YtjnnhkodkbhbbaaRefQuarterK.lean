/- What the walks of RefQuarter need and no function of the document. Each theorem names its own conditions. -/
import Derived.Test.YtjnnhkodkbhbbaaRefRolK
import Derived.StillTailTactics
import Derived.Deep.CutRange
namespace Go.Proofs.Ytjnnhkodkbhbbaa
open Go.RowKit
set_option linter.unusedVariables false
set_option linter.unusedSimpArgs false

theorem w_same {l : List W32} {i : Nat} {v : W32} (h : i < l.length) : (l.set i v).getD i 0#32 = v := by simp [List.getD, h]
theorem w_far {l : List W32} {i j : Nat} {v : W32} (h : i ≠ j) : (l.set i v).getD j 0#32 = l.getD j 0#32 := by simp [List.getD, List.getElem?_set_ne h]
/-- A list of sixteen words that is s but for four of them. -/
structure QI (s : List W32) (a b c d : Nat) (l : List W32) (A B C D : W32) : Prop where
  len : l.length = 16
  ea : l.getD a 0#32 = A
  eb : l.getD b 0#32 = B
  ec : l.getD c 0#32 = C
  ed : l.getD d 0#32 = D
  rest : ∀ i, i ≠ a → i ≠ b → i ≠ c → i ≠ d → l.getD i 0#32 = s.getD i 0#32
section
variable {s l : List W32} {a b c d : Nat} {A B C D : W32}
theorem QI.set_a (h : QI s a b c d l A B C D) (ha : a < 16) (hab : a ≠ b) (hac : a ≠ c) (had : a ≠ d) (hbc : b ≠ c) (hbd : b ≠ d) (hcd : c ≠ d) (v : W32) : QI s a b c d (l.set a v) v B C D :=
  ⟨by rw [List.length_set]; exact h.len, w_same (by rw [h.len]; exact ha), by rw [w_far hab]; exact h.eb, by rw [w_far hac]; exact h.ec, by rw [w_far had]; exact h.ed, fun i h1 h2 h3 h4 => by rw [w_far (Ne.symm h1)]; exact h.rest i h1 h2 h3 h4⟩
theorem QI.set_b (h : QI s a b c d l A B C D) (ha : b < 16) (hab : a ≠ b) (hac : a ≠ c) (had : a ≠ d) (hbc : b ≠ c) (hbd : b ≠ d) (hcd : c ≠ d) (v : W32) : QI s a b c d (l.set b v) A v C D :=
  ⟨by rw [List.length_set]; exact h.len, by rw [w_far (Ne.symm hab)]; exact h.ea, w_same (by rw [h.len]; exact ha), by rw [w_far hbc]; exact h.ec, by rw [w_far hbd]; exact h.ed, fun i h1 h2 h3 h4 => by rw [w_far (Ne.symm h2)]; exact h.rest i h1 h2 h3 h4⟩
theorem QI.set_c (h : QI s a b c d l A B C D) (ha : c < 16) (hab : a ≠ b) (hac : a ≠ c) (had : a ≠ d) (hbc : b ≠ c) (hbd : b ≠ d) (hcd : c ≠ d) (v : W32) : QI s a b c d (l.set c v) A B v D :=
  ⟨by rw [List.length_set]; exact h.len, by rw [w_far (Ne.symm hac)]; exact h.ea, by rw [w_far (Ne.symm hbc)]; exact h.eb, w_same (by rw [h.len]; exact ha), by rw [w_far hcd]; exact h.ed, fun i h1 h2 h3 h4 => by rw [w_far (Ne.symm h3)]; exact h.rest i h1 h2 h3 h4⟩
theorem QI.set_d (h : QI s a b c d l A B C D) (ha : d < 16) (hab : a ≠ b) (hac : a ≠ c) (had : a ≠ d) (hbc : b ≠ c) (hbd : b ≠ d) (hcd : c ≠ d) (v : W32) : QI s a b c d (l.set d v) A B C v :=
  ⟨by rw [List.length_set]; exact h.len, by rw [w_far (Ne.symm had)]; exact h.ea, by rw [w_far (Ne.symm hbd)]; exact h.eb, by rw [w_far (Ne.symm hcd)]; exact h.ec, w_same (by rw [h.len]; exact ha), fun i h1 h2 h3 h4 => by rw [w_far (Ne.symm h4)]; exact h.rest i h1 h2 h3 h4⟩
theorem QI.eq {l2 : List W32} (h : QI s a b c d l A B C D) (h2 : QI s a b c d l2 A B C D) : l = l2 := by
  apply List.ext_getElem (by rw [h.len, h2.len])
  intro i h3 h4
  have e : l.getD i 0#32 = l2.getD i 0#32 := by
    by_cases e1 : i = a
    · rw [e1, h.ea, h2.ea]
    by_cases e2 : i = b
    · rw [e2, h.eb, h2.eb]
    by_cases e3 : i = c
    · rw [e3, h.ec, h2.ec]
    by_cases e4 : i = d
    · rw [e4, h.ed, h2.ed]
    rw [h.rest i e1 e2 e3 e4, h2.rest i e1 e2 e3 e4]
  simpa [List.getD, h3, h4] using e
end
theorem qi_cell {w : World} {X i : Nat} {l : List W32} {v : W32} {t : TypeId} (hX : Blk w X (ints .u32 (ws l)) t) (hv : l.getD i 0#32 = v) (hl : l.length = 16) (hi : i < 16) : w.cell? ⟨X, i, none⟩ = some (.int .u32 (wi v)) := by
  rw [hX.cell, ints_get (by rw [ws_length, hl]; exact hi), ws_getD, hv]
theorem qi_set {w : World} {X : Nat} {l : List W32} {t : TypeId} (hX : Blk w X (ints .u32 (ws l)) t) (i : Nat) (v : W32) : Blk (w.setCell ⟨X, i, none⟩ (.int .u32 (wi v))) X (ints .u32 (ws (l.set i v))) t := by
  rw [← ws_set]
  exact hX.seti i _

end Go.Proofs.Ytjnnhkodkbhbbaa
