/- The plain lists of chapter 2: what is read where of what was put; that unlike rows have unlike bytes. No program, no condition beyond those each theorem names. -/
import Derived.Test.YtcgppiniknnjpaaPackRefB
import Derived.Test.YtcgppiniknnjpaaPackRefD
namespace Go.Proofs.Ytcgppiniknnjpaa
open Go.RowKit
set_option linter.unusedVariables false

theorem byteAt_nat (n : Int) (k : Nat) : ((byteAt n k).toNat : Int) = (n / 256 ^ k) % 256 := by
  have := byte_cell n k
  unfold bval at this
  injection this

/-- A number in two's complement comes back. -/
theorem decI_be8 (n : Int) (h1 : -9223372036854775808 ≤ n) (h2 : n ≤ 9223372036854775807) : decI (be8 n) = n := by
  unfold decI
  have e : (accN (be8 n) : Int) = (((((((((byteAt n 7).toNat : Int) * 256 + (byteAt n 6).toNat) * 256 + (byteAt n 5).toNat) * 256 + (byteAt n 4).toNat) * 256 + (byteAt n 3).toNat) * 256 + (byteAt n 2).toNat) * 256 + (byteAt n 1).toNat) * 256 + (byteAt n 0).toNat) := by
    simp [accN, be8]
  rw [e, IntKind.wrap_i64]
  simp only [byteAt_nat]
  have e0 : n / 256 ^ 0 = n := by simp
  have s : ∀ k : Nat, n / 256 ^ (k + 1) = n / 256 ^ k / 256 := by
    intro k
    rw [Int.ediv_ediv_of_nonneg (Int.pow_nonneg (by omega)), Int.pow_succ]
  rw [s 6, s 5, s 4, s 3, s 2, s 1, s 0, e0]
  generalize h1' : n / 256 = x1
  generalize h2' : x1 / 256 = x2
  generalize h3' : x2 / 256 = x3
  generalize h4' : x3 / 256 = x4
  generalize h5' : x4 / 256 = x5
  generalize h6' : x5 / 256 = x6
  generalize h7' : x6 / 256 = x7
  omega

theorem be8_inj {m n : Int} (h1 : -9223372036854775808 ≤ m) (h2 : m ≤ 9223372036854775807) (g1 : -9223372036854775808 ≤ n) (g2 : n ≤ 9223372036854775807) (h : be8 m = be8 n) : m = n := by
  rw [← decI_be8 m h1 h2, h, decI_be8 n g1 g2]

theorem be8s_cons (n : Int) (ns : List Int) : be8s (n :: ns) = be8 n ++ be8s ns := by simp [be8s]
theorem putL_cons (l : List UInt8) (ls : List (List UInt8)) : putL (l :: ls) = be8 l.length ++ l ++ putL ls := by simp [putL]

/-- The i-th number's bytes, where they lie. -/
theorem be8s_at : ∀ (ns : List Int) (i : Nat) (h : i < ns.length) (rest : List UInt8), ((be8s ns ++ rest).drop (8 * i)).take 8 = be8 ns[i]
  | n :: ns, 0, _, rest => by
    rw [be8s_cons, Nat.mul_zero, List.drop_zero, List.append_assoc]
    exact List.take_left' (be8_length n)
  | n :: ns, i + 1, h, rest => by
    have ih := be8s_at ns i (by simpa using h) rest
    rw [be8s_cons, List.append_assoc, show 8 * (i + 1) = (be8 n).length + 8 * i from by rw [be8_length]; omega, ← List.drop_drop, List.drop_left]
    exact ih

theorem putL_split (ls : List (List UInt8)) (i : Nat) (h : i < ls.length) : putL ls = putL (ls.take i) ++ (be8 (ls[i]).length ++ (ls[i] ++ putL (ls.drop (i + 1)))) := by
  have e : ls = ls.take i ++ ls[i] :: ls.drop (i + 1) := by
    rw [← List.drop_eq_getElem_cons h, List.take_append_drop]
  conv => lhs; rw [e]
  have : putL (ls.take i ++ ls[i] :: ls.drop (i + 1)) = putL (ls.take i) ++ putL (ls[i] :: ls.drop (i + 1)) := by unfold putL; rw [List.flatMap_append]
  rw [this, putL_cons]
  simp only [List.append_assoc]

/-- The i-th byte string's length, and itself, where they lie. -/
theorem putL_at (pre : List UInt8) (ls : List (List UInt8)) (i : Nat) (h : i < ls.length) :
    ((pre ++ putL ls).drop (pre.length + (putL (ls.take i)).length)).take 8 = be8 (ls[i]).length ∧
    ((pre ++ putL ls).drop (pre.length + (putL (ls.take i)).length + 8)).take (ls[i]).length = ls[i] := by
  rw [putL_split ls i h, ← List.append_assoc, show pre.length + (putL (ls.take i)).length = (pre ++ putL (ls.take i)).length from by simp]
  constructor
  · rw [List.drop_left]
    exact List.take_left' (be8_length _)
  · rw [← List.drop_drop, List.drop_left, show (8 : Nat) = (be8 ((ls[i]).length : Int)).length from rfl, List.drop_left]
    exact List.take_left

theorem putL_pos (ls : List (List UInt8)) (i : Nat) (h : i < ls.length) : (putL (ls.take (i + 1))).length = (putL (ls.take i)).length + 8 + (ls[i]).length := by
  rw [putL_take_succ h]
  simp only [List.length_append, be8_length]
  omega

/-- Unlike rows of numbers have unlike bytes. -/
theorem be8s_inj : ∀ (ms ns : List Int), (∀ n ∈ ms, -9223372036854775808 ≤ n ∧ n ≤ 9223372036854775807) → (∀ n ∈ ns, -9223372036854775808 ≤ n ∧ n ≤ 9223372036854775807) → be8s ms = be8s ns → ms = ns
  | [], [], _, _, _ => rfl
  | [], n :: ns, _, _, h => by have := congrArg List.length h; simp [be8s_length] at this
  | m :: ms, [], _, _, h => by have := congrArg List.length h; simp [be8s_length] at this
  | m :: ms, n :: ns, hm, hn, h => by
    rw [be8s_cons, be8s_cons] at h
    obtain ⟨h1, h2⟩ := List.append_inj h rfl
    have hm0 := hm m (List.mem_cons_self ..)
    have hn0 := hn n (List.mem_cons_self ..)
    rw [be8_inj hm0.1 hm0.2 hn0.1 hn0.2 h1, be8s_inj ms ns (fun x hx => hm x (List.mem_cons_of_mem _ hx)) (fun x hx => hn x (List.mem_cons_of_mem _ hx)) h2]

/-- Unlike rows of byte strings have unlike bytes. -/
theorem putL_inj : ∀ (xs ys : List (List UInt8)), (∀ l ∈ xs, l.length ≤ 1099511627776) → (∀ l ∈ ys, l.length ≤ 1099511627776) → putL xs = putL ys → xs = ys
  | [], [], _, _, _ => rfl
  | [], b :: ys, _, _, h => by
    have := congrArg List.length h
    rw [putL_cons] at this
    simp [putL, be8_length] at this <;> omega
  | a :: xs, [], _, _, h => by
    have := congrArg List.length h
    rw [putL_cons] at this
    simp [putL, be8_length] at this <;> omega
  | a :: xs, b :: ys, ha, hb, h => by
    rw [putL_cons, putL_cons, List.append_assoc, List.append_assoc] at h
    obtain ⟨h1, h2⟩ := List.append_inj h rfl
    have ha0 := ha a (List.mem_cons_self ..)
    have hb0 := hb b (List.mem_cons_self ..)
    have hlen : (a.length : Int) = b.length := be8_inj (by omega) (by omega) (by omega) (by omega) h1
    obtain ⟨h3, h4⟩ := List.append_inj h2 (by omega)
    rw [h3, putL_inj xs ys (fun x hx => ha x (List.mem_cons_of_mem _ hx)) (fun x hx => hb x (List.mem_cons_of_mem _ hx)) h4]

end Go.Proofs.Ytcgppiniknnjpaa
