/- The rounds of package chacha's mixed. Each theorem names its own conditions. -/
import Derived.Test.YtjnnhkodkbhbbaaChaStart
import Derived.Laws.Tables
import Derived.Deep.QuietTactic
import Derived.BigQuiet
namespace Go.Proofs.Ytjnnhkodkbhbbaa
open Go.RowKit
set_option linter.unusedVariables false
set_option linter.unusedSimpArgs false

theorem cq_at (a b c d a' b' c' d' : W32) (h : qr4 a b c d = (a', b', c', d')) (w : World) : Calls Try.prog 66 #[.int .u32 (wi a), .int .u32 (wi b), .int .u32 (wi c), .int .u32 (wi d)] w fun e w' =>
    e = .returned (.tuple #[.int .u32 (wi a'), .int .u32 (wi b'), .int .u32 (wi c'), .int .u32 (wi d')]) ∧ w = w' := by
  have := cq_any a b c d w
  rw [h] at this
  exact this
theorem qrt_l0 {t0 t1 t2 t3 t4 t5 t6 t7 t8 t9 t10 t11 t12 t13 t14 t15 a b c d : W32} (h : qr4 t0 t4 t8 t12 = (a, b, c, d)) : qrt [t0, t1, t2, t3, t4, t5, t6, t7, t8, t9, t10, t11, t12, t13, t14, t15] 0 4 8 12 = [a, t1, t2, t3, b, t5, t6, t7, c, t9, t10, t11, d, t13, t14, t15] := by
  simp only [qrt, List.getD_cons_zero, List.getD_cons_succ, h, List.set_cons_zero, List.set_cons_succ]
theorem qrt_l1 {t0 t1 t2 t3 t4 t5 t6 t7 t8 t9 t10 t11 t12 t13 t14 t15 a b c d : W32} (h : qr4 t1 t5 t9 t13 = (a, b, c, d)) : qrt [t0, t1, t2, t3, t4, t5, t6, t7, t8, t9, t10, t11, t12, t13, t14, t15] 1 5 9 13 = [t0, a, t2, t3, t4, b, t6, t7, t8, c, t10, t11, t12, d, t14, t15] := by
  simp only [qrt, List.getD_cons_zero, List.getD_cons_succ, h, List.set_cons_zero, List.set_cons_succ]
theorem qrt_l2 {t0 t1 t2 t3 t4 t5 t6 t7 t8 t9 t10 t11 t12 t13 t14 t15 a b c d : W32} (h : qr4 t2 t6 t10 t14 = (a, b, c, d)) : qrt [t0, t1, t2, t3, t4, t5, t6, t7, t8, t9, t10, t11, t12, t13, t14, t15] 2 6 10 14 = [t0, t1, a, t3, t4, t5, b, t7, t8, t9, c, t11, t12, t13, d, t15] := by
  simp only [qrt, List.getD_cons_zero, List.getD_cons_succ, h, List.set_cons_zero, List.set_cons_succ]
theorem qrt_l3 {t0 t1 t2 t3 t4 t5 t6 t7 t8 t9 t10 t11 t12 t13 t14 t15 a b c d : W32} (h : qr4 t3 t7 t11 t15 = (a, b, c, d)) : qrt [t0, t1, t2, t3, t4, t5, t6, t7, t8, t9, t10, t11, t12, t13, t14, t15] 3 7 11 15 = [t0, t1, t2, a, t4, t5, t6, b, t8, t9, t10, c, t12, t13, t14, d] := by
  simp only [qrt, List.getD_cons_zero, List.getD_cons_succ, h, List.set_cons_zero, List.set_cons_succ]
theorem qrt_l4 {t0 t1 t2 t3 t4 t5 t6 t7 t8 t9 t10 t11 t12 t13 t14 t15 a b c d : W32} (h : qr4 t0 t5 t10 t15 = (a, b, c, d)) : qrt [t0, t1, t2, t3, t4, t5, t6, t7, t8, t9, t10, t11, t12, t13, t14, t15] 0 5 10 15 = [a, t1, t2, t3, t4, b, t6, t7, t8, t9, c, t11, t12, t13, t14, d] := by
  simp only [qrt, List.getD_cons_zero, List.getD_cons_succ, h, List.set_cons_zero, List.set_cons_succ]
theorem qrt_l5 {t0 t1 t2 t3 t4 t5 t6 t7 t8 t9 t10 t11 t12 t13 t14 t15 a b c d : W32} (h : qr4 t1 t6 t11 t12 = (a, b, c, d)) : qrt [t0, t1, t2, t3, t4, t5, t6, t7, t8, t9, t10, t11, t12, t13, t14, t15] 1 6 11 12 = [t0, a, t2, t3, t4, t5, b, t7, t8, t9, t10, c, d, t13, t14, t15] := by
  simp only [qrt, List.getD_cons_zero, List.getD_cons_succ, h, List.set_cons_zero, List.set_cons_succ]
theorem qrt_l6 {t0 t1 t2 t3 t4 t5 t6 t7 t8 t9 t10 t11 t12 t13 t14 t15 a b c d : W32} (h : qr4 t2 t7 t8 t13 = (a, b, c, d)) : qrt [t0, t1, t2, t3, t4, t5, t6, t7, t8, t9, t10, t11, t12, t13, t14, t15] 2 7 8 13 = [t0, t1, a, t3, t4, t5, t6, b, c, t9, t10, t11, t12, d, t14, t15] := by
  simp only [qrt, List.getD_cons_zero, List.getD_cons_succ, h, List.set_cons_zero, List.set_cons_succ]
theorem qrt_l7 {t0 t1 t2 t3 t4 t5 t6 t7 t8 t9 t10 t11 t12 t13 t14 t15 a b c d : W32} (h : qr4 t3 t4 t9 t14 = (a, b, c, d)) : qrt [t0, t1, t2, t3, t4, t5, t6, t7, t8, t9, t10, t11, t12, t13, t14, t15] 3 4 9 14 = [t0, t1, t2, a, b, t5, t6, t7, t8, c, t10, t11, t12, t13, d, t15] := by
  simp only [qrt, List.getD_cons_zero, List.getD_cons_succ, h, List.set_cons_zero, List.set_cons_succ]
theorem dround_l {t0 t1 t2 t3 t4 t5 t6 t7 t8 t9 t10 t11 t12 t13 t14 t15 x0 x4 x8 x12 x1 x5 x9 x13 x2 x6 x10 x14 x3 x7 x11 x15 y0 y5 y10 y15 y1 y6 y11 y12 y2 y7 y8 y13 y3 y4 y9 y14 : W32} (q0 : qr4 t0 t4 t8 t12 = (x0, x4, x8, x12)) (q1 : qr4 t1 t5 t9 t13 = (x1, x5, x9, x13)) (q2 : qr4 t2 t6 t10 t14 = (x2, x6, x10, x14)) (q3 : qr4 t3 t7 t11 t15 = (x3, x7, x11, x15)) (q4 : qr4 x0 x5 x10 x15 = (y0, y5, y10, y15)) (q5 : qr4 x1 x6 x11 x12 = (y1, y6, y11, y12)) (q6 : qr4 x2 x7 x8 x13 = (y2, y7, y8, y13)) (q7 : qr4 x3 x4 x9 x14 = (y3, y4, y9, y14)) :
    dround [t0, t1, t2, t3, t4, t5, t6, t7, t8, t9, t10, t11, t12, t13, t14, t15] = [y0, y1, y2, y3, y4, y5, y6, y7, y8, y9, y10, y11, y12, y13, y14, y15] := by
  unfold dround
  rw [qrt_l0 q0, qrt_l1 q1, qrt_l2 q2, qrt_l3 q3, qrt_l4 q4, qrt_l5 q5, qrt_l6 q6, qrt_l7 q7]
theorem cons_of (s : List W32) (n : Nat) (h : s.length = n + 1) : ∃ a t, s = a :: t ∧ t.length = n := by
  match s, h with
  | a :: t, h => exact ⟨a, t, rfl, by simpa using h⟩
theorem cha_list16 (s : List W32) (h : s.length = 16) : ∃ s0 s1 s2 s3 s4 s5 s6 s7 s8 s9 s10 s11 s12 s13 s14 s15 : W32, s = [s0, s1, s2, s3, s4, s5, s6, s7, s8, s9, s10, s11, s12, s13, s14, s15] := by
  obtain ⟨s0, r0, e0, h0⟩ := cons_of s 15 h
  obtain ⟨s1, r1, e1, h1⟩ := cons_of r0 14 h0
  obtain ⟨s2, r2, e2, h2⟩ := cons_of r1 13 h1
  obtain ⟨s3, r3, e3, h3⟩ := cons_of r2 12 h2
  obtain ⟨s4, r4, e4, h4⟩ := cons_of r3 11 h3
  obtain ⟨s5, r5, e5, h5⟩ := cons_of r4 10 h4
  obtain ⟨s6, r6, e6, h6⟩ := cons_of r5 9 h5
  obtain ⟨s7, r7, e7, h7⟩ := cons_of r6 8 h6
  obtain ⟨s8, r8, e8, h8⟩ := cons_of r7 7 h7
  obtain ⟨s9, r9, e9, h9⟩ := cons_of r8 6 h8
  obtain ⟨s10, r10, e10, h10⟩ := cons_of r9 5 h9
  obtain ⟨s11, r11, e11, h11⟩ := cons_of r10 4 h10
  obtain ⟨s12, r12, e12, h12⟩ := cons_of r11 3 h11
  obtain ⟨s13, r13, e13, h13⟩ := cons_of r12 2 h12
  obtain ⟨s14, r14, e14, h14⟩ := cons_of r13 1 h13
  obtain ⟨s15, r15, e15, h15⟩ := cons_of r14 0 h14
  have e := List.eq_nil_of_length_eq_zero h15
  exact ⟨s0, s1, s2, s3, s4, s5, s6, s7, s8, s9, s10, s11, s12, s13, s14, s15, by rw [e0, e1, e2, e3, e4, e5, e6, e7, e8, e9, e10, e11, e12, e13, e14, e15, e]⟩
theorem build_words (t0 t1 t2 t3 t4 t5 t6 t7 t8 t9 t10 t11 t12 t13 t14 t15 : W32) (w : World) : (Instr.build 77 #[(0, .int .u32 (wi t0)), (1, .int .u32 (wi t1)), (2, .int .u32 (wi t2)), (3, .int .u32 (wi t3)), (4, .int .u32 (wi t4)), (5, .int .u32 (wi t5)), (6, .int .u32 (wi t6)), (7, .int .u32 (wi t7)), (8, .int .u32 (wi t8)), (9, .int .u32 (wi t9)), (10, .int .u32 (wi t10)), (11, .int .u32 (wi t11)), (12, .int .u32 (wi t12)), (13, .int .u32 (wi t13)), (14, .int .u32 (wi t14)), (15, .int .u32 (wi t15))]).run Try.prog w = .ok (.agg (ints .u32 (ws [t0, t1, t2, t3, t4, t5, t6, t7, t8, t9, t10, t11, t12, t13, t14, t15])).toArray) w :=
  run_build w 77 _ _ (by kernel_rfl)
/-- The words added, k of them. -/
def addK (t s : List W32) : Nat → List W32
  | 0 => t
  | k + 1 => (addK t s k).set k (t.getD k 0#32 + s.getD k 0#32)
theorem addK_length (t s : List W32) : ∀ k, (addK t s k).length = t.length
  | 0 => rfl
  | k + 1 => by rw [addK, List.length_set, addK_length t s k]
theorem addK_getD (t s : List W32) : ∀ k, k ≤ t.length → ∀ i, (addK t s k).getD i 0#32 = if i < k then t.getD i 0#32 + s.getD i 0#32 else t.getD i 0#32
  | 0, _, i => by rw [if_neg (by omega)]; rfl
  | k + 1, hk, i => by
    rw [addK]
    by_cases e : k = i
    · subst e
      rw [if_pos (by omega), List.getD_eq_getElem?_getD, List.getElem?_set_self (by rw [addK_length]; omega)]
      rfl
    · have h := addK_getD t s k (by omega) i
      rw [List.getD_eq_getElem?_getD, List.getElem?_set_ne e, ← List.getD_eq_getElem?_getD, h]
      by_cases h2 : i < k
      · rw [if_pos h2, if_pos (by omega)]
      · rw [if_neg h2, if_neg (by omega)]
theorem addK_full (t s : List W32) (h : t.length = 16) : addK t s 16 = wAdd t s := by
  apply List.ext_getElem (by rw [addK_length, h]; simp [wAdd])
  intro i h1 h2
  have hi : i < 16 := by rw [addK_length, h] at h1; exact h1
  have e1 := addK_getD t s 16 (by omega) i
  have e2 := wAdd_getD t s hi
  rw [if_pos hi] at e1
  rw [List.getD_eq_getElem?_getD, List.getElem?_eq_getElem h1] at e1
  rw [List.getD_eq_getElem?_getD, List.getElem?_eq_getElem h2] at e2
  exact e1.trans e2.symm
def wordsOut (s : List W32) : List W32 := wAdd (dRun s 10) s
theorem wordsOut_length (s : List W32) : (wordsOut s).length = 16 := by simp [wordsOut, wAdd]

end Go.Proofs.Ytjnnhkodkbhbbaa
