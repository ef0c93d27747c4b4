/- The walks of the document's own products modulo 2^255 - 19. Each theorem names its own conditions. -/
import Derived.Test.YtdjdalaghfknoaaRefAdd
namespace Go.Proofs.Ytdjdalaghfknoaa
open Go.RowKit
set_option linter.unusedVariables false

set_option maxHeartbeats 400000 in
theorem rone_el (n : Int) (w : World) (h1 : -131072 ≤ n) (h2 : n ≤ 131072) :
    Calls Try.prog 27 #[.int .i64 n] w fun e w' => ∃ r, e = .returned r ∧ IsEl r n ∧ Below w.heap.size w w' := by
  have HBX := Lib.hid (boxes2 w (ints .i64 (List.replicate 16 0)) (ints .i64 (List.replicate 16 0)) 48 48)
  go_enter Try.func27, Try.ntmps27
  go_wp2_with (fail)
  refine bodyPost_ret (v := .agg (ints .i64 [n, 0, 0, 0, 0, 0, 0, 0, 0, 0, 0, 0, 0, 0, 0, 0]).toArray) ?_ rfl ⟨_, rfl, ⟨[n, 0, 0, 0, 0, 0, 0, 0, 0, 0, 0, 0, 0, 0, 0, 0], rfl, rfl, fun z hz => ?_, 0, by simp [dV]⟩, ?_⟩
  · exact result_blk (by rfl) _ w.heap.size _ _ _ _ (by rfl) ((Blk.made w (ints .i64 [n, 0, 0, 0, 0, 0, 0, 0, 0, 0, 0, 0, 0, 0, 0, 0]) 48).alloc _) Try.underlying48 Try.arr48
  · simp at hz
    omega
  · exact ((Below.refl _ _).alloc (Nat.le_refl _) _).alloc (by simp) _

/-- What holds of the long product's digits when i rows and k of the next are done. -/
structure MulS (xs ys T : List Int) (i k : Nat) : Prop where
  len : T.length = 31
  val : dV T = dV (xs.take i) * dV ys + xs.getD i 0 * dV (ys.take k) * 65536 ^ i
  bnd : ∀ j, j < 31 → -((16 * (i : Int) + k) * 17179869184) ≤ T.getD j 0 ∧ T.getD j 0 ≤ (16 * (i : Int) + k) * 17179869184

theorem prod_bound {a b : Int} (a1 : -131072 ≤ a) (a2 : a ≤ 131072) (b1 : -131072 ≤ b) (b2 : b ≤ 131072) : -17179869184 ≤ a * b ∧ a * b ≤ 17179869184 := by
  have h1 : (a + 131072) * (b + 131072) ≥ 0 := Int.mul_nonneg (by omega) (by omega)
  have h2 : (131072 - a) * (131072 - b) ≥ 0 := Int.mul_nonneg (by omega) (by omega)
  have h3 : (a + 131072) * (131072 - b) ≥ 0 := Int.mul_nonneg (by omega) (by omega)
  have h4 : (131072 - a) * (b + 131072) ≥ 0 := Int.mul_nonneg (by omega) (by omega)
  have e1 : (a + 131072) * (b + 131072) = a * b + 131072 * a + 131072 * b + 17179869184 := by grind
  have e2 : (131072 - a) * (131072 - b) = a * b - 131072 * a - 131072 * b + 17179869184 := by grind
  have e3 : (a + 131072) * (131072 - b) = -(a * b) + 131072 * a - 131072 * b + 17179869184 := by grind
  have e4 : (131072 - a) * (b + 131072) = -(a * b) - 131072 * a + 131072 * b + 17179869184 := by grind
  omega

theorem MulS.step {xs ys T : List Int} {i k : Nat} (h : MulS xs ys T i k) (hi : i < 16) (hk : k < 16) (ha : ∀ z ∈ xs, -131072 ≤ z ∧ z ≤ 131072) (hb : ∀ z ∈ ys, -131072 ≤ z ∧ z ≤ 131072) (hla : xs.length = 16) (hlb : ys.length = 16) :
    MulS xs ys (T.set (i + k) (T.getD (i + k) 0 + xs.getD i 0 * ys.getD k 0)) i (k + 1) := by
  obtain ⟨h1, h2, h3⟩ := h
  have b1 := getD_of_all (P := fun z => -131072 ≤ z ∧ z ≤ 131072) ha (i := i) (by omega)
  have b2 := getD_of_all (P := fun z => -131072 ≤ z ∧ z ≤ 131072) hb (i := k) (by omega)
  have hp := prod_bound b1.1 b1.2 b2.1 b2.2
  refine ⟨by simp [h1], ?_, fun j hj => ?_⟩
  · rw [dV_set _ _ _ (by omega), h2, dV_take_succ _ _ (by omega), Int.pow_add]
    grind
  · have h4 := h3 j hj
    by_cases e : j = i + k
    · subst e
      rw [getD_set_same (by omega)]
      omega
    · rw [getD_set_far (by omega)]
      omega
theorem MulS.next {xs ys T : List Int} {i : Nat} (h : MulS xs ys T i 16) (hi : i < 16) (hla : xs.length = 16) (hlb : ys.length = 16) : MulS xs ys T (i + 1) 0 := by
  obtain ⟨h1, h2, h3⟩ := h
  refine ⟨h1, ?_, fun j hj => ?_⟩
  · rw [h2, dV_take_succ xs i (by omega), List.take_of_length_le (l := ys) (by omega)]
    simp only [List.take_zero, dV]
    grind
  · have := h3 j hj
    omega
theorem MulS.start {xs ys : List Int} : MulS xs ys (List.replicate 31 0) 0 0 := by
  refine ⟨rfl, ?_, fun j hj => ?_⟩
  · simp [dV, List.replicate]
  · have : (List.replicate 31 (0 : Int)).getD j 0 = 0 := by rw [List.getD_eq_getElem?_getD, List.getElem?_replicate]; split <;> rfl
    rw [this]
    omega

/-- The long product, folded. -/
structure OutS (T o : List Int) (i : Nat) : Prop where
  len : o.length = 16
  low : ∀ j, j < i → j < 16 → o.getD j 0 = if j < 15 then T.getD j 0 + 38 * T.getD (j + 16) 0 else T.getD j 0

theorem list31 (zs : List Int) (h : zs.length = 31) : zs = [zs.getD 0 0, zs.getD 1 0, zs.getD 2 0, zs.getD 3 0, zs.getD 4 0, zs.getD 5 0, zs.getD 6 0, zs.getD 7 0, zs.getD 8 0, zs.getD 9 0, zs.getD 10 0, zs.getD 11 0, zs.getD 12 0, zs.getD 13 0, zs.getD 14 0, zs.getD 15 0,
    zs.getD 16 0, zs.getD 17 0, zs.getD 18 0, zs.getD 19 0, zs.getD 20 0, zs.getD 21 0, zs.getD 22 0, zs.getD 23 0, zs.getD 24 0, zs.getD 25 0, zs.getD 26 0, zs.getD 27 0, zs.getD 28 0, zs.getD 29 0, zs.getD 30 0] := by
  match zs, h with
  | [_, _, _, _, _, _, _, _, _, _, _, _, _, _, _, _, _, _, _, _, _, _, _, _, _, _, _, _, _, _, _], _ => rfl

theorem dV_append : ∀ (xs ys : List Int), dV (xs ++ ys) = dV xs + 65536 ^ xs.length * dV ys
  | [], ys => by simp [dV]
  | a :: r, ys => by
    have := dV_append r ys
    simp only [List.cons_append, dV, this, List.length_cons, Int.pow_succ]
    grind

theorem OutS.fold {T o : List Int} (h : OutS T o 16) (hT : T.length = 31) : dV o = dV (T.take 16) + 38 * dV (T.drop 16) := by
  obtain ⟨h1, h2⟩ := h
  have hd : T.drop 16 = [T.getD 16 0, T.getD 17 0, T.getD 18 0, T.getD 19 0, T.getD 20 0, T.getD 21 0, T.getD 22 0, T.getD 23 0, T.getD 24 0, T.getD 25 0, T.getD 26 0, T.getD 27 0, T.getD 28 0, T.getD 29 0, T.getD 30 0] := by
    match T, hT with
    | [_, _, _, _, _, _, _, _, _, _, _, _, _, _, _, _, _, _, _, _, _, _, _, _, _, _, _, _, _, _, _], _ => rfl
  have ht : T.take 16 = [T.getD 0 0, T.getD 1 0, T.getD 2 0, T.getD 3 0, T.getD 4 0, T.getD 5 0, T.getD 6 0, T.getD 7 0, T.getD 8 0, T.getD 9 0, T.getD 10 0, T.getD 11 0, T.getD 12 0, T.getD 13 0, T.getD 14 0, T.getD 15 0] := by
    match T, hT with
    | [_, _, _, _, _, _, _, _, _, _, _, _, _, _, _, _, _, _, _, _, _, _, _, _, _, _, _, _, _, _, _], _ => rfl
  rw [hd, ht, list16 o h1]
  simp only [h2 0 (by omega) (by omega), h2 1 (by omega) (by omega), h2 2 (by omega) (by omega), h2 3 (by omega) (by omega), h2 4 (by omega) (by omega), h2 5 (by omega) (by omega), h2 6 (by omega) (by omega), h2 7 (by omega) (by omega), h2 8 (by omega) (by omega), h2 9 (by omega) (by omega), h2 10 (by omega) (by omega), h2 11 (by omega) (by omega), h2 12 (by omega) (by omega), h2 13 (by omega) (by omega), h2 14 (by omega) (by omega), h2 15 (by omega) (by omega)]
  simp only [Nat.reduceLT, if_true, if_false, Nat.reduceAdd, dV]
  omega

theorem OutS.done {T o : List Int} (h : OutS T o 16) (hT : T.length = 31) : dV o = dV T - 2 * pP * dV (T.drop 16) := by
  have hp : 2 * pP = bigM - 38 := by rw [bigM_p]; omega
  have e : dV T = dV (T.take 16) + bigM * dV (T.drop 16) := by
    have := dV_append (T.take 16) (T.drop 16)
    rw [List.take_append_drop, List.length_take, show min 16 T.length = 16 from by omega] at this
    exact this
  rw [hp, h.fold hT, e]
  grind

/-- Where the number is nearly below 2^256, there is little to carry round. -/
theorem CZ.sharp {zs zs' : List Int} {B E : Int} (h : CZ zs zs' B) (hE : E ≤ 1152921504606846976) (hE0 : 0 ≤ E) (h1 : -E ≤ dV zs) (h2 : dV zs ≤ bigM + E) : ∀ z ∈ zs', -38 ≤ z ∧ z ≤ 65573 := by
  obtain ⟨hl, ⟨c, c1, c2, c3, c4, c5⟩, h3⟩ := h
  have hc : -1 ≤ c ∧ c ≤ 1 := by
    have e := list16 zs' hl
    have l1 := h3 1 (by omega) (by omega)
    have l2 := h3 2 (by omega) (by omega)
    have l3 := h3 3 (by omega) (by omega)
    have l4 := h3 4 (by omega) (by omega)
    have l5 := h3 5 (by omega) (by omega)
    have l6 := h3 6 (by omega) (by omega)
    have l7 := h3 7 (by omega) (by omega)
    have l8 := h3 8 (by omega) (by omega)
    have l9 := h3 9 (by omega) (by omega)
    have l10 := h3 10 (by omega) (by omega)
    have l11 := h3 11 (by omega) (by omega)
    have l12 := h3 12 (by omega) (by omega)
    have l13 := h3 13 (by omega) (by omega)
    have l14 := h3 14 (by omega) (by omega)
    have l15 := h3 15 (by omega) (by omega)
    have hv : 0 ≤ dV zs' - 38 * c ∧ dV zs' - 38 * c < bigM := by
      have hM : bigM = 115792089237316195423570985008687907853269984665640564039457584007913129639936 := by decide +kernel
      rw [hM, e]
      simp only [dV]
      omega
    have hM : bigM = 115792089237316195423570985008687907853269984665640564039457584007913129639936 := by decide +kernel
    rw [c3, hM] at hv
    rw [hM] at h2
    omega
  refine all_of_getD (P := fun z => -38 ≤ z ∧ z ≤ 65573) hl (fun i hi => ?_)
  rcases Nat.eq_zero_or_pos i with rfl | h0
  · omega
  · have := h3 i h0 hi
    omega

/-- What a carry leaves lies near 0 and 2^256. -/
theorem CZ.near {zs zs' : List Int} {B : Int} (h : CZ zs zs' B) (hB0 : 0 ≤ B) : -(38 * (B / 32768 + 2)) ≤ dV zs' ∧ dV zs' ≤ bigM + 38 * (B / 32768 + 2) := by
  obtain ⟨hl, ⟨c, c1, c2, c3, c4, c5⟩, h3⟩ := h
  have e := list16 zs' hl
  have l1 := h3 1 (by omega) (by omega)
  have l2 := h3 2 (by omega) (by omega)
  have l3 := h3 3 (by omega) (by omega)
  have l4 := h3 4 (by omega) (by omega)
  have l5 := h3 5 (by omega) (by omega)
  have l6 := h3 6 (by omega) (by omega)
  have l7 := h3 7 (by omega) (by omega)
  have l8 := h3 8 (by omega) (by omega)
  have l9 := h3 9 (by omega) (by omega)
  have l10 := h3 10 (by omega) (by omega)
  have l11 := h3 11 (by omega) (by omega)
  have l12 := h3 12 (by omega) (by omega)
  have l13 := h3 13 (by omega) (by omega)
  have l14 := h3 14 (by omega) (by omega)
  have l15 := h3 15 (by omega) (by omega)
  have hM : bigM = 115792089237316195423570985008687907853269984665640564039457584007913129639936 := by decide +kernel
  have hv : 0 ≤ dV zs' - 38 * c ∧ dV zs' - 38 * c < 115792089237316195423570985008687907853269984665640564039457584007913129639936 := by
    rw [e]
    simp only [dV]
    omega
  rw [hM]
  generalize B / 32768 = b at *
  omega

end Go.Proofs.Ytdjdalaghfknoaa
