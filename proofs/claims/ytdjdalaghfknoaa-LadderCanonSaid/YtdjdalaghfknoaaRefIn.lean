/- The walks of the document's own numbers modulo 2^255 - 19: in, one, add, sub. Each theorem names its own conditions. -/
import Derived.Test.YtdjdalaghfknoaaRefCarry
namespace Go.Proofs.Ytdjdalaghfknoaa
open Go.RowKit
set_option linter.unusedVariables false

theorem list16 (zs : List Int) (h : zs.length = 16) : zs = [zs.getD 0 0, zs.getD 1 0, zs.getD 2 0, zs.getD 3 0, zs.getD 4 0, zs.getD 5 0, zs.getD 6 0, zs.getD 7 0, zs.getD 8 0, zs.getD 9 0, zs.getD 10 0, zs.getD 11 0, zs.getD 12 0, zs.getD 13 0, zs.getD 14 0, zs.getD 15 0] := by
  match zs, h with
  | [_, _, _, _, _, _, _, _, _, _, _, _, _, _, _, _], _ => rfl
/-- Two bytes as a digit. -/
def pairAt (l : List UInt8) (i : Nat) : Int := (l.getD (2 * i) 0).toNat + 256 * (l.getD (2 * i + 1) 0).toNat
theorem pairAt_range (l : List UInt8) (i : Nat) : 0 ≤ pairAt l i ∧ pairAt l i ≤ 65535 := by
  unfold pairAt
  have h1 := (l.getD (2 * i) 0).toNat_lt
  have h2 := (l.getD (2 * i + 1) 0).toNat_lt
  omega
theorem dV_pairs (zs : List Int) (l : List UInt8) (hz : zs.length = 16) (hl : l.length = 32) (h : ∀ i, i < 16 → zs.getD i 0 = pairAt l i) : dV zs = leN l := by
  rw [list16 zs hz, bytes32 l hl]
  simp only [h 0 (by omega), h 1 (by omega), h 2 (by omega), h 3 (by omega), h 4 (by omega), h 5 (by omega), h 6 (by omega), h 7 (by omega), h 8 (by omega), h 9 (by omega), h 10 (by omega), h 11 (by omega), h 12 (by omega), h 13 (by omega), h 14 (by omega), h 15 (by omega)]
  simp only [dV, leN, pairAt, Nat.reduceMul, Nat.reduceAdd]
  omega

theorem or8 (x y : Nat) (hx : x < 256) (hy : y < 256) : bits .or .i64 (x : Int) ((y : Int) * 256) = x + 256 * (y : Int) := by
  have e1 : (BitVec.ofInt 64 (x : Int)).toNat = x := by rw [BitVec.toNat_ofInt]; omega
  have e2 : (BitVec.ofInt 64 ((y : Int) * 256)).toNat = 256 * y := by rw [BitVec.toNat_ofInt]; omega
  show IntKind.i64.wrap ((BitVec.ofInt 64 (x : Int) ||| BitVec.ofInt 64 ((y : Int) * 256)).toNat : Nat) = _
  rw [BitVec.toNat_or, e1, e2, Nat.or_comm]
  have := Nat.two_pow_add_eq_or_of_lt (i := 8) (b := x) (by simpa using hx) y
  have h2 : 256 * y ||| x = 256 * y + x := this.symm
  rw [h2, IntKind.wrap_i64]
  omega

/-- What holds of in's digits when k of them are laid. -/
structure InS (l : List UInt8) (zs : List Int) (k : Nat) : Prop where
  len : zs.length = 16
  low : ∀ i, i < k → zs.getD i 0 = pairAt l i
theorem InS.step {l : List UInt8} {zs : List Int} {k : Nat} (h : InS l zs k) (hk : k < 16) : InS l (zs.set k (pairAt l k)) (k + 1) := by
  obtain ⟨h1, h2⟩ := h
  refine ⟨by simp [h1], fun i hi => ?_⟩
  by_cases e : i = k
  · subst e
    rw [getD_set_same (by omega)]
  · rw [getD_set_far (by omega)]
    exact h2 i (by omega)
theorem InS.done {l : List UInt8} {zs : List Int} (h : InS l zs 16) (hl : l.length = 32) : (∀ z ∈ zs, 0 ≤ z ∧ z ≤ 65535) ∧ dV zs = leN l := by
  refine ⟨fun z hz => ?_, dV_pairs zs l h.len hl h.low⟩
  obtain ⟨i, hi, rfl⟩ := List.getElem_of_mem hz
  have hlen := h.len
  have := h.low i (by omega)
  rw [show zs[i] = zs.getD i 0 from by simp [List.getD, hi], this]
  exact pairAt_range l i

set_option maxHeartbeats 2000000 in
/-- in: the digits of a Num. -/
theorem rin_any (l : List UInt8) (w : World) (hl : l.length = 32) :
    Calls Try.prog 26 #[.agg (l.map bval).toArray] w fun e w' => ∃ zs : List Int, e = .returned (.agg (ints .i64 zs).toArray) ∧ zs.length = 16 ∧ (∀ z ∈ zs, 0 ≤ z ∧ z ≤ 65535) ∧ dV zs = leN l ∧ Below w.heap.size w w' := by
  have HL := Lib.hid hl
  have hbx := boxes3 w (l.map bval) (ints .i64 (List.replicate 16 0)) (ints .i64 (List.replicate 16 0)) 23 48 48
  have HBX := Lib.hid hbx
  clear hl hbx
  go_enter Try.func26, Try.ntmps26
  go_wp2_with fail
  change Code.wp _ _ _ _ (((w.alloc (.cells (l.map bval).toArray 23)).alloc (.cells (ints .i64 (List.replicate 16 0)).toArray 48)).alloc (.cells (ints .i64 (List.replicate 16 0)).toArray 48))
  generalize ((w.alloc (.cells (l.map bval).toArray 23)).alloc (.cells (ints .i64 (List.replicate 16 0)).toArray 48)).alloc (.cells (ints .i64 (List.replicate 16 0)).toArray 48) = w0 at *
  obtain ⟨h1, h2, h3, h4⟩ := HBX.out
  obtain ⟨A, hA⟩ : ∃ A, A = w.heap.size := ⟨_, rfl⟩
  rw [← hA] at h1 h2 h3 ⊢
  have hA2 : w.heap.size ≤ A := by omega
  have H1 := Lib.hid h1
  have H2 := Lib.hid h2
  have H3 := Lib.hid h3
  have H4 := Lib.hid h4
  clear h1 h2 h3 h4 HBX hA
  go_loopw [4] (fun i wr => ∃ (k : Nat) (zs : List Int), k ≤ 16 ∧ i = .int .i64 k ∧ InS l zs k ∧ Blk wr A (l.map bval) 23 ∧ Blk wr (A + 1) (ints .i64 (List.replicate 16 0)) 48 ∧ Blk wr (A + 1 + 1) (ints .i64 zs) 48 ∧ Below w.heap.size w wr) (fun i _ => 16 - (intOf i).toNat)
  case atStart => exact ⟨0, _, by omega, rfl, ⟨rfl, fun i hi => by omega⟩, H1.out, H2.out, H3.out, H4.out⟩
  case round =>
    clear H1 H2 H3 H4
    obtain ⟨k, zs, hk, rfl, hin, hb1, hb2, hb3, hbel⟩ := hrel
    have i0' : (0 : Int) ≤ (k : Int) := Int.natCast_nonneg _
    have hl16 := hin.len
    by_cases hlt : k < 16
    · have hl := HL.out
      have e1 := hb1.cell (2 * k)
      rw [bval_get (by omega)] at e1
      have e2 := hb1.cell (2 * k + 1)
      rw [bval_get (by omega)] at e2
      have e3 := hb3.cell k
      rw [ints_get (by omega)] at e3
      have fk := hb3.free k
      have i1 : (k : Int) < 16 := by omega
      have s1 : IntKind.i64.wrap (2 * (k : Int)) = 2 * k := IntWalk.i64_in _ (by omega)
      have s2 : IntKind.i64.wrap (2 * (k : Int) + 1) = 2 * k + 1 := IntWalk.i64_in _ (by omega)
      have s3 : (2 * (k : Int)).toNat = 2 * k := by omega
      have s4 : (2 * (k : Int) + 1).toNat = 2 * k + 1 := by omega
      have s5 : (0 : Int) ≤ 2 * (k : Int) := by omega
      have s6 : (0 : Int) ≤ 2 * (k : Int) + 1 := by omega
      have s7 : 2 * (k : Int) < 32 := by omega
      have s8 : 2 * (k : Int) + 1 < 32 := by omega
      have hx := (l.getD (2 * k) 0).toNat_lt
      have hy := (l.getD (2 * k + 1) 0).toNat_lt
      have hor := or8 (l.getD (2 * k) 0).toNat (l.getD (2 * k + 1) 0).toNat (by simpa using hx) (by simpa using hy)
      have hst := hin.step hlt
      have hpa : pairAt l k = (l.getD (2 * k) 0).toNat + 256 * ((l.getD (2 * k + 1) 0).toNat : Int) := rfl
      rw [hpa, ← hor] at hst
      generalize (l.getD (2 * k) 0).toNat = x at *
      generalize (l.getD (2 * k + 1) 0).toNat = y at *
      have hy2 : y < 256 := by simpa using hy
      have hx2 : x < 256 := by simpa using hx
      have W1 : Hid (wrap64 (x : Int) = x) := Lib.hid (by rw [← IntWalk.i64_left]; exact IntWalk.i64_in _ (by omega))
      have W2 : Hid (wrap64 (y : Int) = y) := Lib.hid (by rw [← IntWalk.i64_left]; exact IntWalk.i64_in _ (by omega))
      have W3 : Hid (wrap64 ((y : Int) * 256) = y * 256) := Lib.hid (by rw [← IntWalk.i64_left]; exact IntWalk.i64_in _ (by omega))
      have HST := Lib.hid hst
      have HB1 := Lib.hid hb1
      have HB2 := Lib.hid hb2
      have HB3 := Lib.hid hb3
      have HBE := Lib.hid hbel
      clear hin hst hb1 hb2 hb3 hbel hl16 hl hor hpa hx hy hx2 hy2
      go_wp2_with fail
      go_region
      go_wp2_with fail
      go_roundw
      case rel =>
        rw [W1.out, W2.out, W3.out]
        refine ⟨k + 1, _, by omega, by go_num, HST.out, HB1.out.far (by simp; omega) _, HB2.out.far (by simp) _, ?_, (HBE.out.setCell (by simp; omega) _).drew⟩
        rw [← ints_set]
        exact HB3.out.set k _
      case measure => simp [intOf]; omega
    · have hk' : k = 16 := by omega
      subst hk'
      have HB2 := Lib.hid hb2
      have HB3 := Lib.hid hb3
      have HBE := Lib.hid hbel
      have HIN := Lib.hid hin
      have hi1 : Hid ((Try.prog.info? 48).map (·.size) = some (ints .i64 zs).length) := Lib.hid (by rw [ints_length, hin.len]; exact Try.arr48)
      have hl1 : Hid ((ints .i64 zs).length = (ints .i64 (List.replicate 16 0)).length) := Lib.hid (by rw [ints_length, ints_length, hin.len]; rfl)
      clear hb1 hb2 hb3 hbel hin hl16
      go_wp2_with (first | (refine wpList_load_blk rfl _ _ rfl (A + 1 + 1) rfl _ _ _ _ HB3.out Try.underlying48 hi1.out ?_) | (refine wpList_store_blk rfl _ _ _ rfl (A + 1) _ rfl rfl _ _ HB2.out hl1.out hi1.out (ints_one _ _) ?_; intro w5 hb5 hg5))
      obtain ⟨q1, q2⟩ := HIN.out.done HL.out
      exact bodyPost_ret (v := .agg (ints .i64 zs).toArray) (result_blk (by rfl) _ (A + 1) _ _ _ _ (by rfl) hb5 Try.underlying48 hi1.out) rfl ⟨zs, rfl, HIN.out.len, q1, q2, HBE.out.grown hg5 HBE.out.size (fun r hr => by cases hr; omega)⟩

end Go.Proofs.Ytdjdalaghfknoaa
