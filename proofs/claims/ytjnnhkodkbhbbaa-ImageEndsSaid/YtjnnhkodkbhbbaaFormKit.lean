/- Forms of rows and of a row of the call's own; a byte turned by another; pieces of a list. Nothing here speaks of a program. Each theorem names its own conditions. -/
import Derived.Test.YtjnnhkodkbhbbaaDigKit
namespace Go.Proofs.Ytjnnhkodkbhbbaa
open Go.RowKit
set_option linter.unusedVariables false
set_option linter.unusedSimpArgs false

theorem own_form {w : World} {base n : Nat} {e : TypeId} {x : Value} {xs : List Value} (h : w.ownsRow base e 1 x n xs) (hn : 0 < n) :
    ∃ g cap cur, x = .slice (some ⟨g, 0, none⟩) n cap ∧ base ≤ g ∧ Blk w g cur e ∧ n ≤ cap ∧ cap ≤ maxLen ∧ cur.take n = xs ∧ n ≤ cur.length := by
  obtain ⟨h1, ⟨_, h0⟩ | ⟨g, cap, cur, rfl, h2, h3, h4, h5, h6, h7⟩⟩ := h
  · omega
  · rw [Nat.mul_one] at h7
    refine ⟨g, cap, cur.toList, rfl, h2, h3, h4, h5, h7, ?_⟩
    have := congrArg List.length h7
    rw [List.length_take] at this
    omega
theorem xor_u8 (a b : UInt8) : bits .xor .u8 (a.toNat : Int) (b.toNat : Int) = ((a ^^^ b).toNat : Int) := by
  have e1 : (BitVec.ofInt 8 (a.toNat : Int)) = a.toBitVec := by
    apply BitVec.eq_of_toNat_eq
    have := a.toNat_lt
    rw [BitVec.toNat_ofInt]
    show _ = a.toNat
    omega
  have e2 : (BitVec.ofInt 8 (b.toNat : Int)) = b.toBitVec := by
    apply BitVec.eq_of_toNat_eq
    have := b.toNat_lt
    rw [BitVec.toNat_ofInt]
    show _ = b.toNat
    omega
  show IntKind.u8.wrap ((BitVec.ofInt 8 (a.toNat : Int) ^^^ BitVec.ofInt 8 (b.toNat : Int)).toNat : Nat) = _
  rw [e1, e2, IntKind.wrap_u8]
  have h := (a ^^^ b).toNat_lt
  have e3 : (a.toBitVec ^^^ b.toBitVec).toNat = (a ^^^ b).toNat := rfl
  rw [e3]
  omega

theorem info_two {P : Program} {t : TypeId} {z : Value} {n : Nat} (h : (P.info? t).map (fun i => (i.zero, i.size)) = some (some z, n)) : ∃ i, P.info? t = some i ∧ i.zero = some z ∧ i.size = n := by
  cases hp : P.info? t with
  | none => rw [hp] at h; cases h
  | some i =>
    rw [hp] at h
    simp only [Option.map_some, Option.some.injEq, Prod.mk.injEq] at h
    exact ⟨i, rfl, h.1, h.2⟩
theorem row_form2 {w : World} {v : Value} {vs : List Value} (h : Row1 w v vs) : ∃ a n c, v = .slice a n c := by
  obtain ⟨a, c, rfl, _⟩ := h
  exact ⟨_, _, _, rfl⟩
theorem row_form {w : World} {v : Value} {vs : List Value} (h : Row1 w v vs) : ∃ a n c, v = .slice a n c := by
  obtain ⟨a, c, rfl, _⟩ := h
  exact ⟨_, _, _, rfl⟩
theorem cut3 (l : List UInt8) (p q : Nat) (h : p ≤ q) : [l.take p, (l.drop p).take (q - p), l.drop q].flatten = l := by
  have e : l.drop q = (l.drop p).drop (q - p) := by rw [List.drop_drop]; congr 1; omega
  simp only [List.flatten_cons, List.flatten_nil, List.append_nil]
  rw [e, List.take_append_drop, List.take_append_drop]
theorem cut4 (l : List UInt8) (q : Nat) : [[], l.take q, [], l.drop q].flatten = l := by
  simp

end Go.Proofs.Ytjnnhkodkbhbbaa
