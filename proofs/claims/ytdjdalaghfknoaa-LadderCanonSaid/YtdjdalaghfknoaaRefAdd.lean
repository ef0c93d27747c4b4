/- The walks of the document's own sums and differences modulo 2^255 - 19. Each theorem names its own conditions. -/
import Derived.Test.YtdjdalaghfknoaaRefIn
import Derived.Test.YtdjdalaghfknoaaFieldP
namespace Go.Proofs.Ytdjdalaghfknoaa
open Go.RowKit
set_option linter.unusedVariables false

theorem bigM_p : bigM = 2 * pP + 38 := by decide +kernel

/-- A value that is the number x modulo p, in digits that are none too great. -/
def IsEl (v : Value) (x : Int) : Prop := ∃ zs : List Int, v = .agg (ints .i64 zs).toArray ∧ zs.length = 16 ∧ (∀ z ∈ zs, -131072 ≤ z ∧ z ≤ 131072) ∧ ∃ q, dV zs = x + pP * q

theorem CZ.el {zs zs' : List Int} {B : Int} (h : CZ zs zs' B) (hB : B ≤ 1048576) : (∀ z ∈ zs', -131072 ≤ z ∧ z ≤ 131072) ∧ ∃ q, dV zs' = dV zs + pP * q := by
  obtain ⟨h1, ⟨c, c1, c2, c3, c4, c5⟩, h3⟩ := h
  refine ⟨all_of_getD (P := fun z => -131072 ≤ z ∧ z ≤ 131072) h1 (fun i hi => ?_), -2 * c, ?_⟩
  · rcases Nat.eq_zero_or_pos i with rfl | h0
    · omega
    · have := h3 i h0 hi
      omega
  · rw [c3, bigM_p]
    grind

theorem dV_take_succ : ∀ (zs : List Int) (k : Nat), k < zs.length → dV (zs.take (k + 1)) = dV (zs.take k) + zs.getD k 0 * 65536 ^ k
  | [], k, h => by simp at h
  | a :: r, 0, h => by simp [dV]
  | a :: r, k + 1, h => by
    have := dV_take_succ r k (by simpa using h)
    simp only [List.take_succ_cons, dV, List.getD_cons_succ, Int.pow_succ] at this ⊢
    rw [this]
    grind

/-- What holds of add's digits when k of them are laid. -/
structure AddS (xs ys zs : List Int) (k : Nat) : Prop where
  len : zs.length = 16
  val : dV zs = dV xs + dV (ys.take k)
  high : ∀ i, k ≤ i → i < 16 → zs.getD i 0 = xs.getD i 0
  low : ∀ i, i < k → i < 16 → -262144 ≤ zs.getD i 0 ∧ zs.getD i 0 ≤ 262144
theorem AddS.step {xs ys zs : List Int} {k : Nat} (h : AddS xs ys zs k) (hk : k < 16) (ha : ∀ z ∈ xs, -131072 ≤ z ∧ z ≤ 131072) (hb : ∀ z ∈ ys, -131072 ≤ z ∧ z ≤ 131072) (hla : xs.length = 16) (hlb : ys.length = 16) :
    AddS xs ys (zs.set k (xs.getD k 0 + ys.getD k 0)) (k + 1) := by
  obtain ⟨h1, h2, h3, h4⟩ := h
  have b1 := getD_of_all (P := fun z => -131072 ≤ z ∧ z ≤ 131072) ha (i := k) (by omega)
  have b2 := getD_of_all (P := fun z => -131072 ≤ z ∧ z ≤ 131072) hb (i := k) (by omega)
  refine ⟨by simp [h1], ?_, fun i hi hi2 => ?_, fun i hi hi2 => ?_⟩
  · rw [dV_set _ _ _ (by omega), h2, h3 k (Nat.le_refl _) hk, dV_take_succ _ _ (by omega)]
    grind
  · rw [getD_set_far (by omega)]
    exact h3 i (by omega) hi2
  · by_cases e : i = k
    · subst e
      rw [getD_set_same (by omega)]
      omega
    · rw [getD_set_far (by omega)]
      exact h4 i (by omega) hi2

/-- What holds of sub's digits when k of them are laid. -/
structure SubS (xs ys zs : List Int) (k : Nat) : Prop where
  len : zs.length = 16
  val : dV zs = dV xs - dV (ys.take k)
  high : ∀ i, k ≤ i → i < 16 → zs.getD i 0 = xs.getD i 0
  low : ∀ i, i < k → i < 16 → -262144 ≤ zs.getD i 0 ∧ zs.getD i 0 ≤ 262144
theorem SubS.step {xs ys zs : List Int} {k : Nat} (h : SubS xs ys zs k) (hk : k < 16) (ha : ∀ z ∈ xs, -131072 ≤ z ∧ z ≤ 131072) (hb : ∀ z ∈ ys, -131072 ≤ z ∧ z ≤ 131072) (hla : xs.length = 16) (hlb : ys.length = 16) :
    SubS xs ys (zs.set k (xs.getD k 0 - ys.getD k 0)) (k + 1) := by
  obtain ⟨h1, h2, h3, h4⟩ := h
  have b1 := getD_of_all (P := fun z => -131072 ≤ z ∧ z ≤ 131072) ha (i := k) (by omega)
  have b2 := getD_of_all (P := fun z => -131072 ≤ z ∧ z ≤ 131072) hb (i := k) (by omega)
  refine ⟨by simp [h1], ?_, fun i hi hi2 => ?_, fun i hi hi2 => ?_⟩
  · rw [dV_set _ _ _ (by omega), h2, h3 k (Nat.le_refl _) hk, dV_take_succ _ _ (by omega)]
    grind
  · rw [getD_set_far (by omega)]
    exact h3 i (by omega) hi2
  · by_cases e : i = k
    · subst e
      rw [getD_set_same (by omega)]
      omega
    · rw [getD_set_far (by omega)]
      exact h4 i (by omega) hi2

set_option maxHeartbeats 2000000 in
theorem rsub_any (u v : Value) (x y : Int) (w : World) (hu : IsEl u x) (hv : IsEl v y) :
    Calls Try.prog 30 #[u, v] w fun e w' => ∃ r, e = .returned r ∧ IsEl r (x - y) ∧ Below w.heap.size w w' := by
  obtain ⟨xs, rfl, la, ba, qa, va⟩ := hu
  obtain ⟨ys, rfl, lb, bb, qb, vb⟩ := hv
  have HA := Lib.hid ba
  have HB := Lib.hid bb
  have LA := Lib.hid la
  have LB := Lib.hid lb
  have VA := Lib.hid va
  have VB := Lib.hid vb
  have HBX := Lib.hid (boxes3 w (ints .i64 xs) (ints .i64 ys) (ints .i64 (List.replicate 16 0)) 48 48 48)
  clear ba bb la lb va vb
  go_enter Try.func30, Try.ntmps30
  go_wp2_with fail
  change Code.wp _ _ _ _ (((w.alloc (.cells (ints .i64 xs).toArray 48)).alloc (.cells (ints .i64 ys).toArray 48)).alloc (.cells (ints .i64 (List.replicate 16 0)).toArray 48))
  generalize ((w.alloc (.cells (ints .i64 xs).toArray 48)).alloc (.cells (ints .i64 ys).toArray 48)).alloc (.cells (ints .i64 (List.replicate 16 0)).toArray 48) = w0 at *
  obtain ⟨h1, h2, h3, h4⟩ := HBX.out
  obtain ⟨A, hA⟩ : ∃ A, A = w.heap.size := ⟨_, rfl⟩
  rw [← hA] at h1 h2 h3 ⊢
  have hA2 : w.heap.size ≤ A := by omega
  have H1 := Lib.hid h1
  have H2 := Lib.hid h2
  have H3 := Lib.hid h3
  have H4 := Lib.hid h4
  clear h1 h2 h3 h4 HBX hA
  go_loopw [5] (fun i wr => ∃ (k : Nat) (zs : List Int), k ≤ 16 ∧ i = .int .i64 k ∧ SubS xs ys zs k ∧ Blk wr A (ints .i64 zs) 48 ∧ Blk wr (A + 1) (ints .i64 ys) 48 ∧ Blk wr (A + 1 + 1) (ints .i64 (List.replicate 16 0)) 48 ∧ Below w.heap.size w wr) (fun i _ => 16 - (intOf i).toNat)
  case atStart => exact ⟨0, xs, by omega, rfl, ⟨LA.out, by simp [dV], fun i _ _ => rfl, fun i hi => by omega⟩, H1.out, H2.out, H3.out, H4.out⟩
  case round =>
    clear H1 H2 H3 H4
    obtain ⟨k, zs, hk, rfl, hin, hb1, hb2, hb3, hbel⟩ := hrel
    have i0' : (0 : Int) ≤ (k : Int) := Int.natCast_nonneg _
    have hl16 := hin.len
    by_cases hlt : k < 16
    · have e1 := hb1.cell k
      rw [ints_get (by omega), hin.high k (Nat.le_refl _) hlt] at e1
      have e2 := hb2.cell k
      rw [ints_get (by have := LB.out; omega)] at e2
      have fk := hb1.free k
      have i1 : (k : Int) < 16 := by omega
      have hst := hin.step hlt HA.out HB.out LA.out LB.out
      have b1 := getD_of_all (P := fun z => -131072 ≤ z ∧ z ≤ 131072) HA.out (i := k) (by have := LA.out; omega)
      have b2 := getD_of_all (P := fun z => -131072 ≤ z ∧ z ≤ 131072) HB.out (i := k) (by have := LB.out; omega)
      generalize xs.getD k 0 = a at *
      generalize ys.getD k 0 = b at *
      obtain ⟨b11, b12⟩ := b1
      obtain ⟨b21, b22⟩ := b2
      have W1 : Hid (wrap64 (a - b) = a - b) := Lib.hid (by rw [← IntWalk.i64_left]; exact IntWalk.i64_in _ (by omega))
      have HST := Lib.hid hst
      have HB1 := Lib.hid hb1
      have HB2 := Lib.hid hb2
      have HB3 := Lib.hid hb3
      have HBE := Lib.hid hbel
      clear hin hst hb1 hb2 hb3 hbel hl16
      go_wp2_with fail
      go_region
      go_wp2_with fail
      go_roundw
      case rel =>
        try rw [W1.out]
        refine ⟨k + 1, _, by omega, by go_num, HST.out, ?_, HB2.out.far (by simp) _, HB3.out.far (by simp; omega) _, (HBE.out.setCell (by simp; omega) _).drew⟩
        rw [← ints_set]
        exact HB1.out.set k _
      case measure => simp [intOf]; omega
    · have hk' : k = 16 := by omega
      subst hk'
      have hval := hin.val
      rw [List.take_of_length_le (by have := LB.out; omega)] at hval
      have hbd : ∀ z ∈ zs, -262144 ≤ z ∧ z ≤ 262144 := all_of_getD (P := fun z => -262144 ≤ z ∧ z ≤ 262144) hl16 (fun i hi => hin.low i hi hi)
      have HB1 := Lib.hid hb1
      have HB3 := Lib.hid hb3
      have HBE := Lib.hid hbel
      have HVAL := Lib.hid hval
      have hi1 : Hid ((Try.prog.info? 48).map (·.size) = some (ints .i64 zs).length) := Lib.hid (by rw [ints_length, hl16]; exact Try.arr48)
      have HC := Lib.hid (carry_any zs 262144 wr hl16 hbd (by omega) (by omega))
      clear hb1 hb2 hb3 hbel hin hl16 hval hbd
      go_wp2_with (refine wpList_load_blk rfl _ _ rfl A rfl _ _ _ _ HB1.out Try.underlying48 hi1.out ?_)
      refine HC.out.mono ?_
      rintro e w5 ⟨zs', rfl, hcz, hb5⟩
      have HB35 : Hid (Blk w5 (A + 1 + 1) (ints .i64 (List.replicate 16 0)) 48) := Lib.hid (HB3.out.same (hb5.block _ HB3.out.lt))
      have HBE5 := Lib.hid (HBE.out.trans (hb5.mono HBE.out.size))
      have hi2 : Hid ((Try.prog.info? 48).map (·.size) = some (ints .i64 zs').length) := Lib.hid (by rw [ints_length, hcz.len]; exact Try.arr48)
      have hl2 : Hid ((ints .i64 zs').length = (ints .i64 (List.replicate 16 0)).length) := Lib.hid (by rw [ints_length, ints_length, hcz.len]; rfl)
      have HCZ := Lib.hid hcz
      clear hb5 hcz
      go_wp2_with (refine wpList_store_blk rfl _ _ _ rfl (A + 1 + 1) _ rfl rfl _ _ HB35.out hl2.out hi2.out (ints_one _ _) ?_; intro w6 hb6 hg6)
      obtain ⟨q1, q, q2⟩ := HCZ.out.el (by omega)
      refine bodyPost_ret (v := .agg (ints .i64 zs').toArray) (result_blk (by rfl) _ (A + 1 + 1) _ _ _ _ (by rfl) hb6 Try.underlying48 hi2.out) rfl ⟨_, rfl, ⟨zs', rfl, HCZ.out.len, q1, qa - qb + q, ?_⟩, HBE5.out.grown hg6 HBE5.out.size (fun r hr => by cases hr; omega)⟩
      rw [q2, HVAL.out, VA.out, VB.out]
      grind

end Go.Proofs.Ytdjdalaghfknoaa
