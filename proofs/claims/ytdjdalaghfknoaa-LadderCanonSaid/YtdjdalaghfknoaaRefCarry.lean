/- The walk of the document's own carry: sixteen digits, each one's too much handed on. Each theorem names its own conditions. -/
import Derived.Test.YtdjdalaghfknoaaProg
import Derived.Test.YtdjdalaghfknoaaByteKit
import Derived.Test.YtdjdalaghfknoaaNumKit
namespace Go.Proofs.Ytdjdalaghfknoaa
open Go.RowKit
set_option linter.unusedVariables false

/-- The number that digits to the base 65536 are, the lowest first. -/
def dV : List Int → Int
  | [] => 0
  | z :: r => z + 65536 * dV r
theorem dV_set : ∀ (zs : List Int) (i : Nat) (z : Int), i < zs.length → dV (zs.set i z) = dV zs + (z - zs.getD i 0) * 65536 ^ i
  | [], i, z, h => by simp at h
  | a :: r, 0, z, h => by simp [dV]; omega
  | a :: r, i + 1, z, h => by
    have := dV_set r i z (by simpa using h)
    simp only [List.set_cons_succ, dV, this, List.getD_cons_succ, Int.pow_succ]
    grind

theorem Try.arr48 : (Try.prog.info? 48).map (·.size) = some 16 := by kernel_rfl

/-- 2^256. -/
def bigM : Int := 65536 ^ 16
theorem bigM_15 : (65536 : Int) ^ 15 * 65536 = bigM := rfl

/-- What holds of the digits when k of them are done. -/
structure CY (zs zs' : List Int) (B : Int) (k : Nat) : Prop where
  len : zs'.length = 16
  val : dV zs' = dV zs
  low : ∀ i, i < k → 0 ≤ zs'.getD i 0 ∧ zs'.getD i 0 ≤ 65535
  here : -(B + B / 32768 + 2) ≤ zs'.getD k 0 ∧ zs'.getD k 0 ≤ B + B / 32768 + 2
  high : ∀ i, k < i → i < 16 → -B ≤ zs'.getD i 0 ∧ zs'.getD i 0 ≤ B

/-- What holds behind the last. -/
structure CZ (zs zs' : List Int) (B : Int) : Prop where
  len : zs'.length = 16
  ex : ∃ c, -(B / 32768 + 2) ≤ c ∧ c ≤ B / 32768 + 2 ∧ dV zs' = dV zs - (bigM - 38) * c ∧ 0 ≤ zs'.getD 0 0 - 38 * c ∧ zs'.getD 0 0 - 38 * c ≤ 65535
  low : ∀ i, 0 < i → i < 16 → 0 ≤ zs'.getD i 0 ∧ zs'.getD i 0 ≤ 65535

theorem CY.start {zs : List Int} {B : Int} (hl : zs.length = 16) (hB : ∀ z ∈ zs, -B ≤ z ∧ z ≤ B) (h0 : 0 ≤ B) : CY zs zs B 0 := by
  have g : ∀ i, i < 16 → -B ≤ zs.getD i 0 ∧ zs.getD i 0 ≤ B := fun i hi => by
    have : zs.getD i 0 = zs[i]'(by omega) := by simp [List.getD, show i < zs.length from by omega]
    rw [this]
    exact hB _ (List.getElem_mem _)
  have := g 0 (by omega)
  exact ⟨hl, rfl, fun i hi => by omega, by omega, fun i _ hi => g i hi⟩

theorem CY.step {zs zs' : List Int} {B : Int} {k : Nat} (h : CY zs zs' B k) (hk : k < 15) (h0 : 0 ≤ B) :
    CY zs ((zs'.set k (zs'.getD k 0 - zs'.getD k 0 / 65536 * 65536)).set (k + 1) (zs'.getD (k + 1) 0 + zs'.getD k 0 / 65536)) B (k + 1) := by
  obtain ⟨h1, h2, h3, h4, h5⟩ := h
  have h6 := h5 (k + 1) (by omega) (by omega)
  refine ⟨by simp [h1], ?_, fun i hi => ?_, ?_, fun i hi hi2 => ?_⟩
  · rw [dV_set _ _ _ (by simp; omega), dV_set _ _ _ (by omega), getD_set_far (by omega), h2, Int.pow_succ]
    generalize (65536 : Int) ^ k = X
    grind
  · by_cases e : i = k
    · subst e
      rw [getD_set_far (by omega), getD_set_same (by omega)]
      omega
    · rw [getD_set_far (by omega), getD_set_far (by omega)]
      exact h3 i (by omega)
  · rw [getD_set_same (by simp; omega)]
    omega
  · rw [getD_set_far (by omega), getD_set_far (by omega)]
    exact h5 i (by omega) hi2

theorem CY.last {zs zs' : List Int} {B : Int} (h : CY zs zs' B 15) (h0 : 0 ≤ B) :
    CZ zs ((zs'.set 15 (zs'.getD 15 0 - zs'.getD 15 0 / 65536 * 65536)).set 0 (zs'.getD 0 0 + 38 * (zs'.getD 15 0 / 65536))) B := by
  obtain ⟨h1, h2, h3, h4, h5⟩ := h
  have h6 := h3 0 (by omega)
  refine ⟨by simp [h1], ⟨zs'.getD 15 0 / 65536, by omega, by omega, ?_, ?_, ?_⟩, fun i hi hi2 => ?_⟩
  · rw [dV_set _ _ _ (by simp; omega), dV_set _ _ _ (by omega), getD_set_far (by omega), h2, ← bigM_15]
    generalize (65536 : Int) ^ 15 = X
    rw [Int.pow_zero]
    grind
  · rw [getD_set_same (by simp; omega)]
    omega
  · rw [getD_set_same (by simp; omega)]
    omega
  · by_cases e : i = 15
    · subst e
      rw [getD_set_far (by omega), getD_set_same (by omega)]
      omega
    · rw [getD_set_far (by omega), getD_set_far (by omega)]
      exact h3 i (by omega)

/-- What holds at the loop's head. -/
def CS (zs zs' : List Int) (B : Int) (k : Nat) : Prop := (k ≤ 15 ∧ CY zs zs' B k) ∨ (k = 16 ∧ CZ zs zs' B)

set_option maxHeartbeats 2000000 in
theorem carry_any (zs : List Int) (B : Int) (w : World) (hl : zs.length = 16) (hB : ∀ z ∈ zs, -B ≤ z ∧ z ≤ B) (hB0 : 0 ≤ B) (hB1 : B ≤ 576460752303423488) :
    Calls Try.prog 42 #[.agg (ints .i64 zs).toArray] w fun e w' => ∃ zs' : List Int, e = .returned (.agg (ints .i64 zs').toArray) ∧ CZ zs zs' B ∧ Below w.heap.size w w' := by
  have HS := Lib.hid (CY.start hl hB hB0)
  have hbl0 := Lib.hid (Blk.made w (ints .i64 zs) 48)
  clear hl hB
  go_enter Try.func42, Try.ntmps42
  go_wp2_with fail
  generalize hz : (#[Value.int .i64 0, .int .i64 0, .int .i64 0, .int .i64 0, .int .i64 0, .int .i64 0, .int .i64 0, .int .i64 0, .int .i64 0, .int .i64 0, .int .i64 0, .int .i64 0, .int .i64 0, .int .i64 0, .int .i64 0, .int .i64 0] : Array Value) = Z
  have HZ : Hid (Z = (ints .i64 (List.replicate 16 0)).toArray) := Lib.hid (by rw [← hz]; rfl)
  clear hz
  obtain ⟨A, hA⟩ : ∃ A, A = w.heap.size := ⟨_, rfl⟩
  have h1 : Blk ((w.alloc (.cells (ints .i64 zs).toArray 48)).alloc (.cells Z 48)) A (ints .i64 zs) 48 := by
    rw [hA]
    exact hbl0.out.alloc _
  have h2 : Blk ((w.alloc (.cells (ints .i64 zs).toArray 48)).alloc (.cells Z 48)) (A + 1) (ints .i64 (List.replicate 16 0)) 48 := by
    rw [HZ.out]
    have := Blk.made (w.alloc (.cells (ints .i64 zs).toArray 48)) (ints .i64 (List.replicate 16 0)) 48
    rw [hA]
    simpa using this
  have h3 : Below w.heap.size w ((w.alloc (.cells (ints .i64 zs).toArray 48)).alloc (.cells Z 48)) := ((Below.refl _ _).alloc (Nat.le_refl _) _).alloc (by simp) _
  have hA2 : w.heap.size ≤ A := by omega
  rw [← hA]
  generalize (w.alloc (.cells (ints .i64 zs).toArray 48)).alloc (.cells Z 48) = w0 at *
  have H1 := Lib.hid h1
  have H2 := Lib.hid h2
  have H3 := Lib.hid h3
  clear h1 h2 h3 hA HZ
  go_loopw [3] (fun i wr => ∃ (k : Nat) (zs' : List Int), k ≤ 16 ∧ i = .int .i64 k ∧ CS zs zs' B k ∧ Blk wr A (ints .i64 zs') 48 ∧ Blk wr (A + 1) (ints .i64 (List.replicate 16 0)) 48 ∧ Below w.heap.size w wr) (fun i _ => 16 - (intOf i).toNat)
  case atStart => exact ⟨0, zs, by omega, rfl, Or.inl ⟨by omega, HS.out⟩, H1.out, H2.out, H3.out⟩
  case round =>
    clear HS H1 H2 H3 hbl0
    obtain ⟨k, zs', hk, rfl, hcs, hb1, hb2, hbel⟩ := hrel
    have i0' : (0 : Int) ≤ (k : Int) := Int.natCast_nonneg _
    rcases hcs with ⟨hk15, hcy⟩ | ⟨rfl, hcz⟩
    · have hl16 := hcy.len
      have hh := hcy.here
      have ck := hb1.cell k
      rw [ints_get (by omega)] at ck
      have fk := hb1.free k
      by_cases hlt : k < 15
      · have hh2 := hcy.high (k + 1) (by omega) (by omega)
        have ck2 := hb1.cell (k + 1)
        rw [ints_get (by omega)] at ck2
        have fk2 := hb1.free (k + 1)
        have hst := hcy.step hlt hB0
        generalize zs'.getD k 0 = x at *
        generalize zs'.getD (k + 1) 0 = y at *
        have HST := Lib.hid hst
        have HB1 := Lib.hid hb1
        have HB2 := Lib.hid hb2
        have HBE := Lib.hid hbel
        clear hcy hst hb1 hb2 hbel hl16
        go_wp2_with fail
        go_roundw
        case rel =>
          refine ⟨k + 1, _, by omega, by go_num, Or.inl ⟨by omega, HST.out⟩, ?_, (HB2.out.far (by simp) _).far (by simp) _, (HBE.out.setCell hA2 _).setCell hA2 _⟩
          rw [← ints_set, ← ints_set]
          exact (HB1.out.set k _).set (k + 1) _
        case measure => simp [intOf]; omega
      · have hk' : k = 15 := by omega
        subst hk'
        have hh2 := hcy.low 0 (by omega)
        have ck2 := hb1.cell 0
        rw [ints_get (by omega)] at ck2
        have fk2 := hb1.free 0
        have hst := hcy.last hB0
        generalize zs'.getD 15 0 = x at *
        generalize zs'.getD 0 0 = y at *
        have HST := Lib.hid hst
        have HB1 := Lib.hid hb1
        have HB2 := Lib.hid hb2
        have HBE := Lib.hid hbel
        clear hcy hst hb1 hb2 hbel hl16
        go_wp2_with fail
        go_roundw
        case rel =>
          refine ⟨16, _, by omega, by go_num, Or.inr ⟨rfl, HST.out⟩, ?_, (HB2.out.far (by simp) _).far (by simp) _, (HBE.out.setCell hA2 _).setCell hA2 _⟩
          rw [← ints_set, ← ints_set]
          exact (HB1.out.set 15 _).set 0 _
        case measure => simp [intOf]
    · have HB1 := Lib.hid hb1
      have HB2 := Lib.hid hb2
      have HBE := Lib.hid hbel
      have HCZ := Lib.hid hcz
      have hi1 : Hid ((Try.prog.info? 48).map (·.size) = some (ints .i64 zs').length) := Lib.hid (by rw [ints_length, hcz.len]; exact Try.arr48)
      have hl1 : Hid ((ints .i64 zs').length = (ints .i64 (List.replicate 16 0)).length) := Lib.hid (by rw [ints_length, ints_length, hcz.len]; rfl)
      clear hb1 hb2 hbel hcz
      go_wp2_with (first | (refine wpList_load_blk rfl _ _ rfl A rfl _ _ _ _ HB1.out Try.underlying48 hi1.out ?_) | (refine wpList_store_blk rfl _ _ _ rfl (A + 1) _ rfl rfl _ _ HB2.out hl1.out hi1.out (ints_one _ _) ?_; intro w5 hb5 hg5))
      exact bodyPost_ret (v := .agg (ints .i64 zs').toArray) (result_blk (by rfl) _ (A + 1) _ _ _ _ (by rfl) hb5 Try.underlying48 hi1.out) rfl ⟨zs', rfl, HCZ.out, HBE.out.grown hg5 HBE.out.size (fun r hr => by cases hr; omega)⟩

end Go.Proofs.Ytdjdalaghfknoaa
