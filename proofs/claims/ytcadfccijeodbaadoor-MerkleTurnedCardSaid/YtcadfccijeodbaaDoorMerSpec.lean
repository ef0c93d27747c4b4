/- Hash trees over lists of lists of bytes: the root, the path of a place, what a path leads to. No program. Each theorem names its own conditions. -/
import Derived.Test.YtcadfccijeodbaaDoorShaSpec
namespace Go.Proofs.YtcadfccijeodbaaDoor
open Go.RowKit
set_option linter.unusedVariables false

/-- The greatest power of 2 below n (from 2 on). -/
def merK (n : Nat) : Nat := 2 ^ Nat.log2 (n - 1)
theorem merK_pos (n : Nat) : 0 < merK n := Nat.pow_pos (by omega)
theorem merK_lt {n : Nat} (h : 2 ≤ n) : merK n < n := by
  have := Nat.log2_self_le (n := n - 1) (by omega)
  unfold merK
  omega
theorem merK_le {n : Nat} (h : 2 ≤ n) : n ≤ 2 * merK n := by
  have := Nat.lt_log2_self (n := n - 1)
  unfold merK
  rw [Nat.pow_succ] at this
  omega
theorem pow_gap {a b : Nat} (h1 : 2 ^ a < 2 * 2 ^ b) (h2 : 2 ^ b < 2 * 2 ^ a) : a = b := by
  rw [Nat.mul_comm, ← Nat.pow_succ] at h1 h2
  have := (Nat.pow_lt_pow_iff_right (by decide : 1 < 2)).1 h1
  have := (Nat.pow_lt_pow_iff_right (by decide : 1 < 2)).1 h2
  omega
/-- It is the only one. -/
theorem merK_of {n j : Nat} (h : 2 ≤ n) (h1 : 2 ^ j < n) (h2 : n ≤ 2 * 2 ^ j) : merK n = 2 ^ j := by
  have h3 := merK_lt h
  have h4 := merK_le h
  unfold merK at h3 h4 ⊢
  rw [pow_gap (a := Nat.log2 (n - 1)) (b := j) (by omega) (by omega)]

def merRF : Nat → List (List UInt8) → List UInt8
  | 0, _ => sha256 []
  | f + 1, l => if l.length = 0 then sha256 [] else if l.length = 1 then sha256 (0 :: l.headD [])
    else sha256 (1 :: (merRF f (l.take (merK l.length)) ++ merRF f (l.drop (merK l.length))))
theorem merRF_more : ∀ (f g : Nat) (l : List (List UInt8)), l.length ≤ f → l.length ≤ g → merRF f l = merRF g l
  | 0, 0, l, _, _ => rfl
  | 0, g + 1, l, h, _ => by
    rw [merRF, merRF, if_pos (by omega)]
  | f + 1, 0, l, _, h => by
    rw [merRF, merRF, if_pos (by omega)]
  | f + 1, g + 1, l, h1, h2 => by
    rw [merRF, merRF]
    by_cases e0 : l.length = 0
    · rw [if_pos e0, if_pos e0]
    · rw [if_neg e0, if_neg e0]
      by_cases e1 : l.length = 1
      · rw [if_pos e1, if_pos e1]
      · have hk := merK_lt (n := l.length) (by omega)
        have hp := merK_pos l.length
        rw [if_neg e1, if_neg e1, merRF_more f g (l.take (merK l.length)) (by rw [List.length_take]; omega) (by rw [List.length_take]; omega),
          merRF_more f g (l.drop (merK l.length)) (by rw [List.length_drop]; omega) (by rw [List.length_drop]; omega)]
/-- The root. -/
def merR (l : List (List UInt8)) : List UInt8 := merRF l.length l
theorem merR_nil {l : List (List UInt8)} (h : l.length = 0) : merR l = sha256 [] := by
  unfold merR
  rw [h]
  rfl
theorem merR_one (b : List UInt8) : merR [b] = sha256 (0 :: b) := rfl
theorem merR_one' {l : List (List UInt8)} (h : l.length = 1) : merR l = sha256 (0 :: l.headD []) := by
  unfold merR
  rw [h, merRF, if_neg (by omega), if_pos h]
theorem merR_two {l : List (List UInt8)} (h : 2 ≤ l.length) : merR l = sha256 (1 :: (merR (l.take (merK l.length)) ++ merR (l.drop (merK l.length)))) := by
  have hk := merK_lt h
  have hp := merK_pos l.length
  obtain ⟨f, hf⟩ : ∃ f, l.length = f + 1 := ⟨l.length - 1, by omega⟩
  have e : merR l = merRF (f + 1) l := by unfold merR; rw [hf]
  rw [e, merRF, if_neg (by omega), if_neg (by omega)]
  unfold merR
  rw [merRF_more f (l.take (merK l.length)).length (l.take (merK l.length)) (by rw [List.length_take]; omega) (Nat.le_refl _),
    merRF_more f (l.drop (merK l.length)).length (l.drop (merK l.length)) (by rw [List.length_drop]; omega) (Nat.le_refl _)]
theorem merRF_length : ∀ (f : Nat) (l : List (List UInt8)), (merRF f l).length = 32
  | 0, l => sha256_length _
  | f + 1, l => by
    rw [merRF]
    split
    · exact sha256_length _
    · split <;> exact sha256_length _
theorem merR_length (l : List (List UInt8)) : (merR l).length = 32 := merRF_length _ _

def merPF : Nat → List (List UInt8) → Nat → List (List UInt8)
  | 0, _, _ => []
  | f + 1, l, i => if l.length < 2 then [] else if i < merK l.length then merPF f (l.take (merK l.length)) i ++ [merR (l.drop (merK l.length))]
    else merPF f (l.drop (merK l.length)) (i - merK l.length) ++ [merR (l.take (merK l.length))]
theorem merPF_more : ∀ (f g : Nat) (l : List (List UInt8)) (i : Nat), l.length ≤ f → l.length ≤ g → merPF f l i = merPF g l i
  | 0, 0, l, i, _, _ => rfl
  | 0, g + 1, l, i, h, _ => by
    rw [merPF, merPF, if_pos (by omega)]
  | f + 1, 0, l, i, _, h => by
    rw [merPF, merPF, if_pos (by omega)]
  | f + 1, g + 1, l, i, h1, h2 => by
    rw [merPF, merPF]
    by_cases e0 : l.length < 2
    · rw [if_pos e0, if_pos e0]
    · have hk := merK_lt (n := l.length) (by omega)
      have hp := merK_pos l.length
      rw [if_neg e0, if_neg e0, merPF_more f g (l.take (merK l.length)) i (by rw [List.length_take]; omega) (by rw [List.length_take]; omega),
        merPF_more f g (l.drop (merK l.length)) (i - merK l.length) (by rw [List.length_drop]; omega) (by rw [List.length_drop]; omega)]
/-- The path of the place i, from the element to the root. -/
def merP (l : List (List UInt8)) (i : Nat) : List (List UInt8) := merPF l.length l i
theorem merP_few {l : List (List UInt8)} (i : Nat) (h : l.length < 2) : merP l i = [] := by
  unfold merP
  obtain e | e : l.length = 0 ∨ l.length = 1 := by omega
  · rw [e]; rfl
  · rw [e, merPF, if_pos h]
theorem merP_low {l : List (List UInt8)} {i : Nat} (h : 2 ≤ l.length) (hi : i < merK l.length) : merP l i = merP (l.take (merK l.length)) i ++ [merR (l.drop (merK l.length))] := by
  have hk := merK_lt h
  have hp := merK_pos l.length
  obtain ⟨f, hf⟩ : ∃ f, l.length = f + 1 := ⟨l.length - 1, by omega⟩
  have e : merP l i = merPF (f + 1) l i := by unfold merP; rw [hf]
  rw [e, merPF, if_neg (by omega), if_pos hi]
  unfold merP
  rw [merPF_more f (l.take (merK l.length)).length (l.take (merK l.length)) i (by rw [List.length_take]; omega) (Nat.le_refl _)]
theorem merP_high {l : List (List UInt8)} {i : Nat} (h : 2 ≤ l.length) (hi : ¬ i < merK l.length) : merP l i = merP (l.drop (merK l.length)) (i - merK l.length) ++ [merR (l.take (merK l.length))] := by
  have hk := merK_lt h
  have hp := merK_pos l.length
  obtain ⟨f, hf⟩ : ∃ f, l.length = f + 1 := ⟨l.length - 1, by omega⟩
  have e : merP l i = merPF (f + 1) l i := by unfold merP; rw [hf]
  rw [e, merPF, if_neg (by omega), if_neg hi]
  unfold merP
  rw [merPF_more f (l.drop (merK l.length)).length (l.drop (merK l.length)) (i - merK l.length) (by rw [List.length_drop]; omega) (Nat.le_refl _)]
theorem merPF_nums : ∀ (f : Nat) (l : List (List UInt8)) (i : Nat), ∀ x ∈ merPF f l i, x.length = 32
  | 0, l, i, x, hx => by rw [merPF] at hx; cases hx
  | f + 1, l, i, x, hx => by
    rw [merPF] at hx
    split at hx
    · cases hx
    · split at hx
      · rcases List.mem_append.1 hx with h | h
        · exact merPF_nums f _ _ x h
        · rw [List.mem_singleton.1 h]; exact merR_length _
      · rcases List.mem_append.1 hx with h | h
        · exact merPF_nums f _ _ x h
        · rw [List.mem_singleton.1 h]; exact merR_length _
theorem merP_nums (l : List (List UInt8)) (i : Nat) : ∀ x ∈ merP l i, x.length = 32 := merPF_nums _ _ _

def merUF : Nat → Nat → Nat → List UInt8 → List (List UInt8) → Option (List UInt8)
  | 0, _, _, _, _ => none
  | f + 1, n, i, b, p => if n = 1 then (if p.length = 0 then some (sha256 (0 :: b)) else none) else if p.length = 0 then none
    else if i < merK n then (merUF f (merK n) i b p.dropLast).map fun h => sha256 (1 :: (h ++ p.getLastD []))
    else (merUF f (n - merK n) (i - merK n) b p.dropLast).map fun h => sha256 (1 :: (p.getLastD [] ++ h))
theorem merUF_more : ∀ (f g n i : Nat) (b : List UInt8) (p : List (List UInt8)), 0 < n → n ≤ f → n ≤ g → merUF f n i b p = merUF g n i b p
  | 0, _, n, _, _, _, h, h1, _ => by omega
  | _ + 1, 0, n, _, _, _, h, _, h2 => by omega
  | f + 1, g + 1, n, i, b, p, h, h1, h2 => by
    rw [merUF, merUF]
    by_cases e : n = 1
    · rw [if_pos e, if_pos e]
    · have hk := merK_lt (n := n) (by omega)
      have hp := merK_pos n
      rw [if_neg e, if_neg e, merUF_more f g (merK n) i b _ hp (by omega) (by omega), merUF_more f g (n - merK n) (i - merK n) b _ (by omega) (by omega) (by omega)]
/-- What a path of the place i among n leads to; nothing, if it is of another length. -/
def merU (n i : Nat) (b : List UInt8) (p : List (List UInt8)) : Option (List UInt8) := merUF n n i b p
theorem merU_one (i : Nat) (b : List UInt8) (p : List (List UInt8)) : merU 1 i b p = if p.length = 0 then some (sha256 (0 :: b)) else none := rfl
theorem merU_none {n : Nat} (i : Nat) (b : List UInt8) {p : List (List UInt8)} (h : 2 ≤ n) (hp : p.length = 0) : merU n i b p = none := by
  obtain ⟨f, rfl⟩ : ∃ f, n = f + 1 := ⟨n - 1, by omega⟩
  unfold merU
  rw [merUF, if_neg (by omega), if_pos hp]
theorem merU_low {n i : Nat} (b : List UInt8) {p : List (List UInt8)} (h : 2 ≤ n) (hp : p.length ≠ 0) (hi : i < merK n) : merU n i b p = (merU (merK n) i b p.dropLast).map fun h => sha256 (1 :: (h ++ p.getLastD [])) := by
  have hk := merK_lt h
  have hq := merK_pos n
  obtain ⟨f, hf⟩ : ∃ f, n = f + 1 := ⟨n - 1, by omega⟩
  have e : merU n i b p = merUF (f + 1) n i b p := by unfold merU; rw [← hf]
  rw [e, merUF, if_neg (by omega), if_neg hp, if_pos hi]
  unfold merU
  rw [merUF_more f (merK n) (merK n) i b _ hq (by omega) (Nat.le_refl _)]
theorem merU_high {n i : Nat} (b : List UInt8) {p : List (List UInt8)} (h : 2 ≤ n) (hp : p.length ≠ 0) (hi : ¬ i < merK n) : merU n i b p = (merU (n - merK n) (i - merK n) b p.dropLast).map fun h => sha256 (1 :: (p.getLastD [] ++ h)) := by
  have hk := merK_lt h
  have hq := merK_pos n
  obtain ⟨f, hf⟩ : ∃ f, n = f + 1 := ⟨n - 1, by omega⟩
  have e : merU n i b p = merUF (f + 1) n i b p := by unfold merU; rw [← hf]
  rw [e, merUF, if_neg (by omega), if_neg hp, if_neg hi]
  unfold merU
  rw [merUF_more f (n - merK n) (n - merK n) (i - merK n) b _ (by omega) (by omega) (Nat.le_refl _)]

/-- Each element's path leads to the root. -/
theorem merU_path : ∀ (m : Nat) (l : List (List UInt8)) (i : Nat), l.length ≤ m → i < l.length → merU l.length i (l.getD i []) (merP l i) = some (merR l)
  | 0, l, i, h, hi => by omega
  | m + 1, l, i, h, hi => by
    by_cases h1 : l.length = 1
    · have h0 : i = 0 := by omega
      subst h0
      rw [h1, merU_one, merP_few 0 (by omega), if_pos (by rfl : ([] : List (List UInt8)).length = 0), merR_one' h1]
      cases l with
      | nil => simp at h1
      | cons a t => rfl
    · have h2 : 2 ≤ l.length := by omega
      have hk := merK_lt h2
      have hq := merK_pos l.length
      by_cases hi2 : i < merK l.length
      · rw [merP_low h2 hi2, merU_low _ h2 (by simp) hi2, List.dropLast_concat, List.getLastD_concat]
        have e := merU_path m (l.take (merK l.length)) i (by rw [List.length_take]; omega) (by rw [List.length_take]; omega)
        rw [List.length_take, Nat.min_eq_left (by omega)] at e
        have eg : (l.take (merK l.length)).getD i [] = l.getD i [] := by
          rw [List.getD_eq_getElem?_getD, List.getElem?_take, if_pos hi2, ← List.getD_eq_getElem?_getD]
        rw [eg] at e
        rw [e, merR_two h2]
        rfl
      · rw [merP_high h2 hi2, merU_high _ h2 (by simp) hi2, List.dropLast_concat, List.getLastD_concat]
        have e := merU_path m (l.drop (merK l.length)) (i - merK l.length) (by rw [List.length_drop]; omega) (by rw [List.length_drop]; omega)
        rw [List.length_drop] at e
        have eg : (l.drop (merK l.length)).getD (i - merK l.length) [] = l.getD i [] := by
          rw [List.getD_eq_getElem?_getD, List.getElem?_drop, show merK l.length + (i - merK l.length) = i by omega, ← List.getD_eq_getElem?_getD]
        rw [eg] at e
        rw [e, merR_two h2]
        rfl
theorem merU_root {l : List (List UInt8)} {i : Nat} (hi : i < l.length) : merU l.length i (l.getD i []) (merP l i) = some (merR l) := merU_path l.length l i (Nat.le_refl _) hi

/-- A path is no longer than the height. -/
theorem merP_most : ∀ (m : Nat) (l : List (List UInt8)) (i : Nat), l.length ≤ 2 ^ m → (merP l i).length ≤ m
  | 0, l, i, h => by rw [merP_few i (by simp at h; omega)]; simp
  | m + 1, l, i, h => by
    by_cases h2 : l.length < 2
    · rw [merP_few i h2]; simp
    · have h2 : 2 ≤ l.length := by omega
      have hk := merK_lt h2
      have hl := merK_le h2
      have hm : merK l.length ≤ 2 ^ m := by
        unfold merK at hk ⊢
        have : 2 ^ Nat.log2 (l.length - 1) < 2 ^ (m + 1) := by omega
        have := (Nat.pow_lt_pow_iff_right (by decide : 1 < 2)).1 this
        exact Nat.pow_le_pow_right (by decide) (by omega)
      by_cases hi : i < merK l.length
      · rw [merP_low h2 hi, List.length_append, List.length_singleton]
        have := merP_most m (l.take (merK l.length)) i (by rw [List.length_take]; omega)
        omega
      · rw [merP_high h2 hi, List.length_append, List.length_singleton]
        have := merP_most m (l.drop (merK l.length)) (i - merK l.length) (by rw [List.length_drop]; omega)
        omega
theorem merP_full : ∀ (m : Nat) (l : List (List UInt8)) (i : Nat), l.length = 2 ^ m → (merP l i).length = m
  | 0, l, i, h => by rw [merP_few i (by simp at h; omega)]; rfl
  | m + 1, l, i, h => by
    have hp : 0 < 2 ^ m := Nat.pow_pos (by decide)
    rw [Nat.pow_succ] at h
    have h2 : 2 ≤ l.length := by omega
    have hk : merK l.length = 2 ^ m := merK_of h2 (by omega) (by omega)
    by_cases hi : i < merK l.length
    · rw [merP_low h2 hi, List.length_append, List.length_singleton, merP_full m (l.take (merK l.length)) i (by rw [List.length_take]; omega)]
    · rw [merP_high h2 hi, List.length_append, List.length_singleton, merP_full m (l.drop (merK l.length)) (i - merK l.length) (by rw [List.length_drop]; omega)]

end Go.Proofs.YtcadfccijeodbaaDoor
