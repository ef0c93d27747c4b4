/- Texts that belong together, one behind the other. -/
import Derived.Laws.ResultCell
import Derived.Deep.MidRow
import Derived.WalkKit
import Derived.WalkSpells
import Derived.WalkLawsBesides
import Derived.Lib.Hide
import Derived.Deep.QuietTactic
import Derived.BigQuiet
import Derived.Deep.RegionHeld3
import Derived.Deep.AppendLies
import Derived.OneCell
import Derived.Deep.Quiet
import Derived.OrdersHeld
import Derived.Deep.RegionHeld
import Derived.ChangeKeysEq
import Derived.KernelRfl
import Derived.Great.BuildSlice
import Derived.Laws.Tables
import Derived.LaidMore
import Derived.OpenShut
import Derived.Stop.Joined
import Derived.SevenTiedAt
import Derived.ProofKit
import Derived.Deep.Slices
import Derived.Laws.Cover2
import Derived.Deep.CutRange
import Derived.Deep.RegionWith
import Derived.WalkMore
import Derived.StillTailTactics
import Derived.Laws.Entries
import Derived.ScopeJumps
import Derived.Control
import Derived.Test.YtckggbkoabmjiaaDoorRows
import Derived.Test.YtckggbkoabmjiaaDoorQz01
namespace Go.Proofs.YtckggbkoabmjiaaDoor
set_option linter.unusedVariables false
set_option linter.unusedSimpArgs false
open Go.RowKit
section
theorem all_of_getD {zs : List Int} {n : Nat} {P : Int → Prop} (hl : zs.length = n) (h : ∀ i, i < n → P (zs.getD i 0)) : ∀ z ∈ zs, P z := by
 intro z hz
 obtain ⟨i, hi, rfl⟩ := List.getElem_of_mem hz
 have := h i (by omega)
 rwa [show zs.getD i 0 = zs[i] from by simp [List.getD, hi]] at this
theorem getD_of_all {zs : List Int} {P : Int → Prop} (h : ∀ z ∈ zs, P z) {i : Nat} (hi : i < zs.length) : P (zs.getD i 0) := by
 rw [show zs.getD i 0 = zs[i] from by simp [List.getD, hi]]
 exact h _ (List.getElem_mem _)
theorem bl_blk {w w' : World} {c : Nat} {cs : List Value} {t : TypeId} (h : Blk w c cs t) (hb : Below w.heap.size w w') : Blk w' c cs t := h.same (hb.block _ h.lt)
end
def dV : List Int → Int
 | [] => 0
 | z :: r => z + 65536 * dV r
theorem dV_set : ∀ (zs : List Int) (i : Nat) (z : Int), i < zs.length → dV (zs.set i z) = dV zs + (z - zs.getD i 0) * 65536 ^ i
 | [], i, z, h => by simp at h
 | a :: r, 0, z, h => by simp [dV]; omega
 | a :: r, i + 1, z, h => by
  have := dV_set r i z (by simpa using h)
  simp only [List.set_cons_succ, dV, this, List.getD_cons_succ, Int.pow_succ]
  grind
theorem Tryd.arr54 : (Tryd.prog.info? 54).map (·.size) = some 16 := by kernel_rfl
def bigM : Int := 65536 ^ 16
theorem bigM_15 : (65536 : Int) ^ 15 * 65536 = bigM := rfl
structure CY (zs zs' : List Int) (B : Int) (k : Nat) : Prop where
 len : zs'.length = 16
 val : dV zs' = dV zs
 low : ∀ i, i < k → 0 ≤ zs'.getD i 0 ∧ zs'.getD i 0 ≤ 65535
 here : -(B + B / 32768 + 2) ≤ zs'.getD k 0 ∧ zs'.getD k 0 ≤ B + B / 32768 + 2
 high : ∀ i, k < i → i < 16 → -B ≤ zs'.getD i 0 ∧ zs'.getD i 0 ≤ B
structure CZ (zs zs' : List Int) (B : Int) : Prop where
 len : zs'.length = 16
 ex : ∃ c, -(B / 32768 + 2) ≤ c ∧ c ≤ B / 32768 + 2 ∧ dV zs' = dV zs - (bigM - 38) * c ∧ 0 ≤ zs'.getD 0 0 - 38 * c ∧ zs'.getD 0 0 - 38 * c ≤ 65535
 low : ∀ i, 0 < i → i < 16 → 0 ≤ zs'.getD i 0 ∧ zs'.getD i 0 ≤ 65535
theorem CY.start {zs : List Int} {B : Int} (hl : zs.length = 16) (hB : ∀ z ∈ zs, -B ≤ z ∧ z ≤ B) (h0 : 0 ≤ B) : CY zs zs B 0 := by
 have g : ∀ i, i < 16 → -B ≤ zs.getD i 0 ∧ zs.getD i 0 ≤ B := fun i hi => by
  have : zs.getD i 0 = zs[i]'(by omega) := by simp [List.getD, show i < zs.length from by omega]
  rw [this]
  exact hB _ (List.getElem_mem _)
 have := g 0 (by omega)
 exact ⟨hl, rfl, fun i hi => by omega, by omega, fun i _ hi => g i hi⟩
theorem CY.step {zs zs' : List Int} {B : Int} {k : Nat} (h : CY zs zs' B k) (hk : k < 15) (h0 : 0 ≤ B) :
  CY zs ((zs'.set k (zs'.getD k 0 - zs'.getD k 0 / 65536 * 65536)).set (k + 1) (zs'.getD (k + 1) 0 + zs'.getD k 0 / 65536)) B (k + 1) := by
 obtain ⟨h1, h2, h3, h4, h5⟩ := h
 have h6 := h5 (k + 1) (by omega) (by omega)
 refine ⟨by simp [h1], ?_, fun i hi => ?_, ?_, fun i hi hi2 => ?_⟩
 ·rw [dV_set _ _ _ (by simp; omega), dV_set _ _ _ (by omega), getD_set_far (by omega), h2, Int.pow_succ]
  generalize (65536 : Int) ^ k = X
  grind
 ·by_cases e : i = k
  ·subst e
   rw [getD_set_far (by omega), getD_set_same (by omega)]
   omega
  ·rw [getD_set_far (by omega), getD_set_far (by omega)]
   exact h3 i (by omega)
 ·rw [getD_set_same (by simp; omega)]
  omega
 ·rw [getD_set_far (by omega), getD_set_far (by omega)]
  exact h5 i (by omega) hi2
theorem CY.last {zs zs' : List Int} {B : Int} (h : CY zs zs' B 15) (h0 : 0 ≤ B) :
  CZ zs ((zs'.set 15 (zs'.getD 15 0 - zs'.getD 15 0 / 65536 * 65536)).set 0 (zs'.getD 0 0 + 38 * (zs'.getD 15 0 / 65536))) B := by
 obtain ⟨h1, h2, h3, h4, h5⟩ := h
 have h6 := h3 0 (by omega)
 refine ⟨by simp [h1], ⟨zs'.getD 15 0 / 65536, by omega, by omega, ?_, ?_, ?_⟩, fun i hi hi2 => ?_⟩
 ·rw [dV_set _ _ _ (by simp; omega), dV_set _ _ _ (by omega), getD_set_far (by omega), h2, ← bigM_15]
  generalize (65536 : Int) ^ 15 = X
  rw [Int.pow_zero]
  grind
 ·rw [getD_set_same (by simp; omega)]
  omega
 ·rw [getD_set_same (by simp; omega)]
  omega
 ·by_cases e : i = 15
  ·subst e
   rw [getD_set_far (by omega), getD_set_same (by omega)]
   omega
  ·rw [getD_set_far (by omega), getD_set_far (by omega)]
   exact h3 i (by omega)
def CS (zs zs' : List Int) (B : Int) (k : Nat) : Prop := (k ≤ 15 ∧ CY zs zs' B k) ∨ (k = 16 ∧ CZ zs zs' B)
set_option maxHeartbeats 2000000 in
theorem carry_any (zs : List Int) (B : Int) (w : World) (hl : zs.length = 16) (hB : ∀ z ∈ zs, -B ≤ z ∧ z ≤ B) (hB0 : 0 ≤ B) (hB1 : B ≤ 576460752303423488) :
  Calls Tryd.prog 93 #[.agg (ints .i64 zs).toArray] w fun e w' => ∃ zs' : List Int, e = .returned (.agg (ints .i64 zs').toArray) ∧ CZ zs zs' B ∧ Below w.heap.size w w' := by
 have HS := Lib.hid (CY.start hl hB hB0)
 have hbl0 := Lib.hid (Blk.made w (ints .i64 zs) 54)
 clear hl hB
 go_enter Tryd.func93, Tryd.ntmps93
 go_wp2_with fail
 generalize hz : (#[Value.int .i64 0, .int .i64 0, .int .i64 0, .int .i64 0, .int .i64 0, .int .i64 0, .int .i64 0, .int .i64 0, .int .i64 0, .int .i64 0, .int .i64 0, .int .i64 0, .int .i64 0, .int .i64 0, .int .i64 0, .int .i64 0] : Array Value) = Z
 have HZ : Hid (Z = (ints .i64 (List.replicate 16 0)).toArray) := Lib.hid (by rw [← hz]; rfl)
 clear hz
 obtain ⟨A, hA⟩ : ∃ A, A = w.heap.size := ⟨_, rfl⟩
 have h1 : Blk ((w.alloc (.cells (ints .i64 zs).toArray 54)).alloc (.cells Z 54)) A (ints .i64 zs) 54 := by
  rw [hA]
  exact hbl0.out.alloc _
 have h2 : Blk ((w.alloc (.cells (ints .i64 zs).toArray 54)).alloc (.cells Z 54)) (A + 1) (ints .i64 (List.replicate 16 0)) 54 := by
  rw [HZ.out]
  have := Blk.made (w.alloc (.cells (ints .i64 zs).toArray 54)) (ints .i64 (List.replicate 16 0)) 54
  rw [hA]
  simpa using this
 have h3 : Below w.heap.size w ((w.alloc (.cells (ints .i64 zs).toArray 54)).alloc (.cells Z 54)) := ((Below.refl _ _).alloc (Nat.le_refl _) _).alloc (by simp) _
 have hA2 : w.heap.size ≤ A := by omega
 rw [← hA]
 generalize (w.alloc (.cells (ints .i64 zs).toArray 54)).alloc (.cells Z 54) = w0 at *
 have H1 := Lib.hid h1
 have H2 := Lib.hid h2
 have H3 := Lib.hid h3
 clear h1 h2 h3 hA HZ
 go_loopw [3] (fun i wr => ∃ (k : Nat) (zs' : List Int), k ≤ 16 ∧ i = .int .i64 k ∧ CS zs zs' B k ∧ Blk wr A (ints .i64 zs') 54 ∧ Blk wr (A + 1) (ints .i64 (List.replicate 16 0)) 54 ∧ Below w.heap.size w wr) (fun i _ => 16 - (intOf i).toNat)
 case atStart => exact ⟨0, zs, by omega, rfl, Or.inl ⟨by omega, HS.out⟩, H1.out, H2.out, H3.out⟩
 case round =>
  clear HS H1 H2 H3 hbl0
  obtain ⟨k, zs', hk, rfl, hcs, hb1, hb2, hbel⟩ := hrel
  have i0' : (0 : Int) ≤ (k : Int) := Int.natCast_nonneg _
  rcases hcs with ⟨hk15, hcy⟩ | ⟨rfl, hcz⟩
  ·have hl16 := hcy.len
   have hh := hcy.here
   have ck := hb1.cell k
   rw [ints_get (by omega)] at ck
   have fk := hb1.free k
   by_cases hlt : k < 15
   ·have hh2 := hcy.high (k + 1) (by omega) (by omega)
    have ck2 := hb1.cell (k + 1)
    rw [ints_get (by omega)] at ck2
    have fk2 := hb1.free (k + 1)
    have hst := hcy.step hlt hB0
    generalize zs'.getD k 0 = x at *
    generalize zs'.getD (k + 1) 0 = y at *
    have HST := Lib.hid hst
    have HB1 := Lib.hid hb1
    have HB2 := Lib.hid hb2
    have HBE := Lib.hid hbel
    clear hcy hst hb1 hb2 hbel hl16
    go_wp2_with fail
    go_roundw
    case rel =>
     refine ⟨k + 1, _, by omega, by go_num, Or.inl ⟨by omega, HST.out⟩, ?_, (HB2.out.far (by simp) _).far (by simp) _, (HBE.out.setCell hA2 _).setCell hA2 _⟩
     rw [← ints_set, ← ints_set]
     exact (HB1.out.set k _).set (k + 1) _
    case measure => simp [intOf]; omega
   ·have hk' : k = 15 := by omega
    subst hk'
    have hh2 := hcy.low 0 (by omega)
    have ck2 := hb1.cell 0
    rw [ints_get (by omega)] at ck2
    have fk2 := hb1.free 0
    have hst := hcy.last hB0
    generalize zs'.getD 15 0 = x at *
    generalize zs'.getD 0 0 = y at *
    have HST := Lib.hid hst
    have HB1 := Lib.hid hb1
    have HB2 := Lib.hid hb2
    have HBE := Lib.hid hbel
    clear hcy hst hb1 hb2 hbel hl16
    go_wp2_with fail
    go_roundw
    case rel =>
     refine ⟨16, _, by omega, by go_num, Or.inr ⟨rfl, HST.out⟩, ?_, (HB2.out.far (by simp) _).far (by simp) _, (HBE.out.setCell hA2 _).setCell hA2 _⟩
     rw [← ints_set, ← ints_set]
     exact (HB1.out.set 15 _).set 0 _
    case measure => simp [intOf]
  ·have HB1 := Lib.hid hb1
   have HB2 := Lib.hid hb2
   have HBE := Lib.hid hbel
   have HCZ := Lib.hid hcz
   have hi1 : Hid ((Tryd.prog.info? 54).map (·.size) = some (ints .i64 zs').length) := Lib.hid (by rw [ints_length, hcz.len]; exact Tryd.arr54)
   have hl1 : Hid ((ints .i64 zs').length = (ints .i64 (List.replicate 16 0)).length) := Lib.hid (by rw [ints_length, ints_length, hcz.len]; rfl)
   clear hb1 hb2 hbel hcz
   go_wp2_with (first | (refine wpList_load_blk rfl _ _ rfl A rfl _ _ _ _ HB1.out Tryd.underlying54 hi1.out ?_) | (refine wpList_store_blk rfl _ _ _ rfl (A + 1) _ rfl rfl _ _ HB2.out hl1.out hi1.out (ints_one _ _) ?_; intro w5 hb5 hg5))
   exact bodyPost_ret (v := .agg (ints .i64 zs').toArray) (result_blk (by rfl) _ (A + 1) _ _ _ _ (by rfl) hb5 Tryd.underlying54 hi1.out) rfl ⟨zs', rfl, HCZ.out, HBE.out.grown hg5 HBE.out.size (fun r hr => by cases hr; omega)⟩
theorem list16 (zs : List Int) (h : zs.length = 16) : zs = [zs.getD 0 0, zs.getD 1 0, zs.getD 2 0, zs.getD 3 0, zs.getD 4 0, zs.getD 5 0, zs.getD 6 0, zs.getD 7 0, zs.getD 8 0, zs.getD 9 0, zs.getD 10 0, zs.getD 11 0, zs.getD 12 0, zs.getD 13 0, zs.getD 14 0, zs.getD 15 0] := by
 match zs, h with
 | [_, _, _, _, _, _, _, _, _, _, _, _, _, _, _, _], _ => rfl
def pairAt (l : List UInt8) (i : Nat) : Int := (l.getD (2 * i) 0).toNat + 256 * (l.getD (2 * i + 1) 0).toNat
theorem dV_pairs (zs : List Int) (l : List UInt8) (hz : zs.length = 16) (hl : l.length = 32) (h : ∀ i, i < 16 → zs.getD i 0 = pairAt l i) : dV zs = leN l := by
 rw [list16 zs hz, bytes32 l hl]
 simp only [h 0 (by omega), h 1 (by omega), h 2 (by omega), h 3 (by omega), h 4 (by omega), h 5 (by omega), h 6 (by omega), h 7 (by omega), h 8 (by omega), h 9 (by omega), h 10 (by omega), h 11 (by omega), h 12 (by omega), h 13 (by omega), h 14 (by omega), h 15 (by omega)]
 simp only [dV, leN, pairAt, Nat.reduceMul, Nat.reduceAdd]
 omega
theorem bigM_p : bigM = 2 * pP + 38 := by decide +kernel
def IsEl (v : Value) (x : Int) : Prop := ∃ zs : List Int, v = .agg (ints .i64 zs).toArray ∧ zs.length = 16 ∧ (∀ z ∈ zs, -131072 ≤ z ∧ z ≤ 131072) ∧ ∃ q, dV zs = x + pP * q
theorem CZ.el {zs zs' : List Int} {B : Int} (h : CZ zs zs' B) (hB : B ≤ 1048576) : (∀ z ∈ zs', -131072 ≤ z ∧ z ≤ 131072) ∧ ∃ q, dV zs' = dV zs + pP * q := by
 obtain ⟨h1, ⟨c, c1, c2, c3, c4, c5⟩, h3⟩ := h
 refine ⟨all_of_getD (P := fun z => -131072 ≤ z ∧ z ≤ 131072) h1 (fun i hi => ?_), -2 * c, ?_⟩
 ·rcases Nat.eq_zero_or_pos i with rfl | h0
  ·omega
  ·have := h3 i h0 hi
   omega
 ·rw [c3, bigM_p]
  grind
theorem dV_take_succ : ∀ (zs : List Int) (k : Nat), k < zs.length → dV (zs.take (k + 1)) = dV (zs.take k) + zs.getD k 0 * 65536 ^ k
 | [], k, h => by simp at h
 | a :: r, 0, h => by simp [dV]
 | a :: r, k + 1, h => by
  have := dV_take_succ r k (by simpa using h)
  simp only [List.take_succ_cons, dV, List.getD_cons_succ, Int.pow_succ] at this ⊢
  rw [this]
  grind
structure AddS (xs ys zs : List Int) (k : Nat) : Prop where
 len : zs.length = 16
 val : dV zs = dV xs + dV (ys.take k)
 high : ∀ i, k ≤ i → i < 16 → zs.getD i 0 = xs.getD i 0
 low : ∀ i, i < k → i < 16 → -262144 ≤ zs.getD i 0 ∧ zs.getD i 0 ≤ 262144
theorem AddS.step {xs ys zs : List Int} {k : Nat} (h : AddS xs ys zs k) (hk : k < 16) (ha : ∀ z ∈ xs, -131072 ≤ z ∧ z ≤ 131072) (hb : ∀ z ∈ ys, -131072 ≤ z ∧ z ≤ 131072) (hla : xs.length = 16) (hlb : ys.length = 16) :
  AddS xs ys (zs.set k (xs.getD k 0 + ys.getD k 0)) (k + 1) := by
 obtain ⟨h1, h2, h3, h4⟩ := h
 have b1 := getD_of_all (P := fun z => -131072 ≤ z ∧ z ≤ 131072) ha (i := k) (by omega)
 have b2 := getD_of_all (P := fun z => -131072 ≤ z ∧ z ≤ 131072) hb (i := k) (by omega)
 refine ⟨by simp [h1], ?_, fun i hi hi2 => ?_, fun i hi hi2 => ?_⟩
 ·rw [dV_set _ _ _ (by omega), h2, h3 k (Nat.le_refl _) hk, dV_take_succ _ _ (by omega)]
  grind
 ·rw [getD_set_far (by omega)]
  exact h3 i (by omega) hi2
 ·by_cases e : i = k
  ·subst e
   rw [getD_set_same (by omega)]
   omega
  ·rw [getD_set_far (by omega)]
   exact h4 i (by omega) hi2
structure SubS (xs ys zs : List Int) (k : Nat) : Prop where
 len : zs.length = 16
 val : dV zs = dV xs - dV (ys.take k)
 high : ∀ i, k ≤ i → i < 16 → zs.getD i 0 = xs.getD i 0
 low : ∀ i, i < k → i < 16 → -262144 ≤ zs.getD i 0 ∧ zs.getD i 0 ≤ 262144
theorem SubS.step {xs ys zs : List Int} {k : Nat} (h : SubS xs ys zs k) (hk : k < 16) (ha : ∀ z ∈ xs, -131072 ≤ z ∧ z ≤ 131072) (hb : ∀ z ∈ ys, -131072 ≤ z ∧ z ≤ 131072) (hla : xs.length = 16) (hlb : ys.length = 16) :
  SubS xs ys (zs.set k (xs.getD k 0 - ys.getD k 0)) (k + 1) := by
 obtain ⟨h1, h2, h3, h4⟩ := h
 have b1 := getD_of_all (P := fun z => -131072 ≤ z ∧ z ≤ 131072) ha (i := k) (by omega)
 have b2 := getD_of_all (P := fun z => -131072 ≤ z ∧ z ≤ 131072) hb (i := k) (by omega)
 refine ⟨by simp [h1], ?_, fun i hi hi2 => ?_, fun i hi hi2 => ?_⟩
 ·rw [dV_set _ _ _ (by omega), h2, h3 k (Nat.le_refl _) hk, dV_take_succ _ _ (by omega)]
  grind
 ·rw [getD_set_far (by omega)]
  exact h3 i (by omega) hi2
 ·by_cases e : i = k
  ·subst e
   rw [getD_set_same (by omega)]
   omega
  ·rw [getD_set_far (by omega)]
   exact h4 i (by omega) hi2
set_option maxHeartbeats 2000000 in
theorem rsub_any (u v : Value) (x y : Int) (w : World) (hu : IsEl u x) (hv : IsEl v y) :
  Calls Tryd.prog 72 #[u, v] w fun e w' => ∃ r, e = .returned r ∧ IsEl r (x - y) ∧ Below w.heap.size w w' := by
 obtain ⟨xs, rfl, la, ba, qa, va⟩ := hu
 obtain ⟨ys, rfl, lb, bb, qb, vb⟩ := hv
 have HA := Lib.hid ba
 have HB := Lib.hid bb
 have LA := Lib.hid la
 have LB := Lib.hid lb
 have VA := Lib.hid va
 have VB := Lib.hid vb
 have HBX := Lib.hid (boxes3 w (ints .i64 xs) (ints .i64 ys) (ints .i64 (List.replicate 16 0)) 54 54 54)
 clear ba bb la lb va vb
 go_enter Tryd.func72, Tryd.ntmps72
 go_wp2_with fail
 change Code.wp _ _ _ _ (((w.alloc (.cells (ints .i64 xs).toArray 54)).alloc (.cells (ints .i64 ys).toArray 54)).alloc (.cells (ints .i64 (List.replicate 16 0)).toArray 54))
 generalize ((w.alloc (.cells (ints .i64 xs).toArray 54)).alloc (.cells (ints .i64 ys).toArray 54)).alloc (.cells (ints .i64 (List.replicate 16 0)).toArray 54) = w0 at *
 obtain ⟨h1, h2, h3, h4⟩ := HBX.out
 obtain ⟨A, hA⟩ : ∃ A, A = w.heap.size := ⟨_, rfl⟩
 rw [← hA] at h1 h2 h3 ⊢
 have hA2 : w.heap.size ≤ A := by omega
 have H1 := Lib.hid h1
 have H2 := Lib.hid h2
 have H3 := Lib.hid h3
 have H4 := Lib.hid h4
 clear h1 h2 h3 h4 HBX hA
 go_loopw [5] (fun i wr => ∃ (k : Nat) (zs : List Int), k ≤ 16 ∧ i = .int .i64 k ∧ SubS xs ys zs k ∧ Blk wr A (ints .i64 zs) 54 ∧ Blk wr (A + 1) (ints .i64 ys) 54 ∧ Blk wr (A + 1 + 1) (ints .i64 (List.replicate 16 0)) 54 ∧ Below w.heap.size w wr) (fun i _ => 16 - (intOf i).toNat)
 case atStart => exact ⟨0, xs, by omega, rfl, ⟨LA.out, by simp [dV], fun i _ _ => rfl, fun i hi => by omega⟩, H1.out, H2.out, H3.out, H4.out⟩
 case round =>
  clear H1 H2 H3 H4
  obtain ⟨k, zs, hk, rfl, hin, hb1, hb2, hb3, hbel⟩ := hrel
  have i0' : (0 : Int) ≤ (k : Int) := Int.natCast_nonneg _
  have hl16 := hin.len
  by_cases hlt : k < 16
  ·have e1 := hb1.cell k
   rw [ints_get (by omega), hin.high k (Nat.le_refl _) hlt] at e1
   have e2 := hb2.cell k
   rw [ints_get (by have := LB.out; omega)] at e2
   have fk := hb1.free k
   have i1 : (k : Int) < 16 := by omega
   have hst := hin.step hlt HA.out HB.out LA.out LB.out
   have b1 := getD_of_all (P := fun z => -131072 ≤ z ∧ z ≤ 131072) HA.out (i := k) (by have := LA.out; omega)
   have b2 := getD_of_all (P := fun z => -131072 ≤ z ∧ z ≤ 131072) HB.out (i := k) (by have := LB.out; omega)
   generalize xs.getD k 0 = a at *
   generalize ys.getD k 0 = b at *
   obtain ⟨b11, b12⟩ := b1
   obtain ⟨b21, b22⟩ := b2
   have W1 : Hid (wrap64 (a - b) = a - b) := Lib.hid (by rw [← IntWalk.i64_left]; exact IntWalk.i64_in _ (by omega))
   have HST := Lib.hid hst
   have HB1 := Lib.hid hb1
   have HB2 := Lib.hid hb2
   have HB3 := Lib.hid hb3
   have HBE := Lib.hid hbel
   clear hin hst hb1 hb2 hb3 hbel hl16
   go_wp2_with fail
   go_region
   go_wp2_with fail
   go_roundw
   case rel =>
    try rw [W1.out]
    refine ⟨k + 1, _, by omega, by go_num, HST.out, ?_, HB2.out.far (by simp) _, HB3.out.far (by simp; omega) _, (HBE.out.setCell (by simp; omega) _).drew⟩
    rw [← ints_set]
    exact HB1.out.set k _
   case measure => simp [intOf]; omega
  ·have hk' : k = 16 := by omega
   subst hk'
   have hval := hin.val
   rw [List.take_of_length_le (by have := LB.out; omega)] at hval
   have hbd : ∀ z ∈ zs, -262144 ≤ z ∧ z ≤ 262144 := all_of_getD (P := fun z => -262144 ≤ z ∧ z ≤ 262144) hl16 (fun i hi => hin.low i hi hi)
   have HB1 := Lib.hid hb1
   have HB3 := Lib.hid hb3
   have HBE := Lib.hid hbel
   have HVAL := Lib.hid hval
   have hi1 : Hid ((Tryd.prog.info? 54).map (·.size) = some (ints .i64 zs).length) := Lib.hid (by rw [ints_length, hl16]; exact Tryd.arr54)
   have HC := Lib.hid (carry_any zs 262144 wr hl16 hbd (by omega) (by omega))
   clear hb1 hb2 hb3 hbel hin hl16 hval hbd
   go_wp2_with (refine wpList_load_blk rfl _ _ rfl A rfl _ _ _ _ HB1.out Tryd.underlying54 hi1.out ?_)
   refine HC.out.mono ?_
   rintro e w5 ⟨zs', rfl, hcz, hb5⟩
   have HB35 : Hid (Blk w5 (A + 1 + 1) (ints .i64 (List.replicate 16 0)) 54) := Lib.hid (HB3.out.same (hb5.block _ HB3.out.lt))
   have HBE5 := Lib.hid (HBE.out.trans (hb5.mono HBE.out.size))
   have hi2 : Hid ((Tryd.prog.info? 54).map (·.size) = some (ints .i64 zs').length) := Lib.hid (by rw [ints_length, hcz.len]; exact Tryd.arr54)
   have hl2 : Hid ((ints .i64 zs').length = (ints .i64 (List.replicate 16 0)).length) := Lib.hid (by rw [ints_length, ints_length, hcz.len]; rfl)
   have HCZ := Lib.hid hcz
   clear hb5 hcz
   go_wp2_with (refine wpList_store_blk rfl _ _ _ rfl (A + 1 + 1) _ rfl rfl _ _ HB35.out hl2.out hi2.out (ints_one _ _) ?_; intro w6 hb6 hg6)
   obtain ⟨q1, q, q2⟩ := HCZ.out.el (by omega)
   refine bodyPost_ret (v := .agg (ints .i64 zs').toArray) (result_blk (by rfl) _ (A + 1 + 1) _ _ _ _ (by rfl) hb6 Tryd.underlying54 hi2.out) rfl ⟨_, rfl, ⟨zs', rfl, HCZ.out.len, q1, qa - qb + q, ?_⟩, HBE5.out.grown hg6 HBE5.out.size (fun r hr => by cases hr; omega)⟩
   rw [q2, HVAL.out, VA.out, VB.out]
   grind
set_option maxHeartbeats 400000 in
theorem rone_el (n : Int) (w : World) (h1 : -131072 ≤ n) (h2 : n ≤ 131072) :
  Calls Tryd.prog 57 #[.int .i64 n] w fun e w' => ∃ r, e = .returned r ∧ IsEl r n ∧ Below w.heap.size w w' := by
 have HBX := Lib.hid (boxes2 w (ints .i64 (List.replicate 16 0)) (ints .i64 (List.replicate 16 0)) 54 54)
 go_enter Tryd.func57, Tryd.ntmps57
 go_wp2_with (fail)
 refine bodyPost_ret (v := .agg (ints .i64 [n, 0, 0, 0, 0, 0, 0, 0, 0, 0, 0, 0, 0, 0, 0, 0]).toArray) ?_ rfl ⟨_, rfl, ⟨[n, 0, 0, 0, 0, 0, 0, 0, 0, 0, 0, 0, 0, 0, 0, 0], rfl, rfl, fun z hz => ?_, 0, by simp [dV]⟩, ?_⟩
 ·exact result_blk (by rfl) _ w.heap.size _ _ _ _ (by rfl) ((Blk.made w (ints .i64 [n, 0, 0, 0, 0, 0, 0, 0, 0, 0, 0, 0, 0, 0, 0, 0]) 54).alloc _) Tryd.underlying54 Tryd.arr54
 ·simp at hz
  omega
 ·exact ((Below.refl _ _).alloc (Nat.le_refl _) _).alloc (by simp) _
structure MulS (xs ys T : List Int) (i k : Nat) : Prop where
 len : T.length = 31
 val : dV T = dV (xs.take i) * dV ys + xs.getD i 0 * dV (ys.take k) * 65536 ^ i
 bnd : ∀ j, j < 31 → -((16 * (i : Int) + k) * 17179869184) ≤ T.getD j 0 ∧ T.getD j 0 ≤ (16 * (i : Int) + k) * 17179869184
theorem prod_bound {a b : Int} (a1 : -131072 ≤ a) (a2 : a ≤ 131072) (b1 : -131072 ≤ b) (b2 : b ≤ 131072) : -17179869184 ≤ a * b ∧ a * b ≤ 17179869184 := by
 have h1 : (a + 131072) * (b + 131072) ≥ 0 := Int.mul_nonneg (by omega) (by omega)
 have h2 : (131072 - a) * (131072 - b) ≥ 0 := Int.mul_nonneg (by omega) (by omega)
 have h3 : (a + 131072) * (131072 - b) ≥ 0 := Int.mul_nonneg (by omega) (by omega)
 have h4 : (131072 - a) * (b + 131072) ≥ 0 := Int.mul_nonneg (by omega) (by omega)
 have e1 : (a + 131072) * (b + 131072) = a * b + 131072 * a + 131072 * b + 17179869184 := by grind
 have e2 : (131072 - a) * (131072 - b) = a * b - 131072 * a - 131072 * b + 17179869184 := by grind
 have e3 : (a + 131072) * (131072 - b) = -(a * b) + 131072 * a - 131072 * b + 17179869184 := by grind
 have e4 : (131072 - a) * (b + 131072) = -(a * b) - 131072 * a + 131072 * b + 17179869184 := by grind
 omega
theorem MulS.step {xs ys T : List Int} {i k : Nat} (h : MulS xs ys T i k) (hi : i < 16) (hk : k < 16) (ha : ∀ z ∈ xs, -131072 ≤ z ∧ z ≤ 131072) (hb : ∀ z ∈ ys, -131072 ≤ z ∧ z ≤ 131072) (hla : xs.length = 16) (hlb : ys.length = 16) :
  MulS xs ys (T.set (i + k) (T.getD (i + k) 0 + xs.getD i 0 * ys.getD k 0)) i (k + 1) := by
 obtain ⟨h1, h2, h3⟩ := h
 have b1 := getD_of_all (P := fun z => -131072 ≤ z ∧ z ≤ 131072) ha (i := i) (by omega)
 have b2 := getD_of_all (P := fun z => -131072 ≤ z ∧ z ≤ 131072) hb (i := k) (by omega)
 have hp := prod_bound b1.1 b1.2 b2.1 b2.2
 refine ⟨by simp [h1], ?_, fun j hj => ?_⟩
 ·rw [dV_set _ _ _ (by omega), h2, dV_take_succ _ _ (by omega), Int.pow_add]
  grind
 ·have h4 := h3 j hj
  by_cases e : j = i + k
  ·subst e
   rw [getD_set_same (by omega)]
   omega
  ·rw [getD_set_far (by omega)]
   omega
theorem MulS.next {xs ys T : List Int} {i : Nat} (h : MulS xs ys T i 16) (hi : i < 16) (hla : xs.length = 16) (hlb : ys.length = 16) : MulS xs ys T (i + 1) 0 := by
 obtain ⟨h1, h2, h3⟩ := h
 refine ⟨h1, ?_, fun j hj => ?_⟩
 ·rw [h2, dV_take_succ xs i (by omega), List.take_of_length_le (l := ys) (by omega)]
  simp only [List.take_zero, dV]
  grind
 ·have := h3 j hj
  omega
theorem MulS.start {xs ys : List Int} : MulS xs ys (List.replicate 31 0) 0 0 := by
 refine ⟨rfl, ?_, fun j hj => ?_⟩
 ·simp [dV, List.replicate]
 ·have : (List.replicate 31 (0 : Int)).getD j 0 = 0 := by rw [List.getD_eq_getElem?_getD, List.getElem?_replicate]; split <;> rfl
  rw [this]
  omega
structure OutS (T o : List Int) (i : Nat) : Prop where
 len : o.length = 16
 low : ∀ j, j < i → j < 16 → o.getD j 0 = if j < 15 then T.getD j 0 + 38 * T.getD (j + 16) 0 else T.getD j 0
theorem dV_append : ∀ (xs ys : List Int), dV (xs ++ ys) = dV xs + 65536 ^ xs.length * dV ys
 | [], ys => by simp [dV]
 | a :: r, ys => by
  have := dV_append r ys
  simp only [List.cons_append, dV, this, List.length_cons, Int.pow_succ]
  grind
theorem OutS.fold {T o : List Int} (h : OutS T o 16) (hT : T.length = 31) : dV o = dV (T.take 16) + 38 * dV (T.drop 16) := by
 obtain ⟨h1, h2⟩ := h
 have hd : T.drop 16 = [T.getD 16 0, T.getD 17 0, T.getD 18 0, T.getD 19 0, T.getD 20 0, T.getD 21 0, T.getD 22 0, T.getD 23 0, T.getD 24 0, T.getD 25 0, T.getD 26 0, T.getD 27 0, T.getD 28 0, T.getD 29 0, T.getD 30 0] := by
  match T, hT with
  | [_, _, _, _, _, _, _, _, _, _, _, _, _, _, _, _, _, _, _, _, _, _, _, _, _, _, _, _, _, _, _], _ => rfl
 have ht : T.take 16 = [T.getD 0 0, T.getD 1 0, T.getD 2 0, T.getD 3 0, T.getD 4 0, T.getD 5 0, T.getD 6 0, T.getD 7 0, T.getD 8 0, T.getD 9 0, T.getD 10 0, T.getD 11 0, T.getD 12 0, T.getD 13 0, T.getD 14 0, T.getD 15 0] := by
  match T, hT with
  | [_, _, _, _, _, _, _, _, _, _, _, _, _, _, _, _, _, _, _, _, _, _, _, _, _, _, _, _, _, _, _], _ => rfl
 rw [hd, ht, list16 o h1]
 simp only [h2 0 (by omega) (by omega), h2 1 (by omega) (by omega), h2 2 (by omega) (by omega), h2 3 (by omega) (by omega), h2 4 (by omega) (by omega), h2 5 (by omega) (by omega), h2 6 (by omega) (by omega), h2 7 (by omega) (by omega), h2 8 (by omega) (by omega), h2 9 (by omega) (by omega), h2 10 (by omega) (by omega), h2 11 (by omega) (by omega), h2 12 (by omega) (by omega), h2 13 (by omega) (by omega), h2 14 (by omega) (by omega), h2 15 (by omega) (by omega)]
 simp only [Nat.reduceLT, if_true, if_false, Nat.reduceAdd, dV]
 omega
theorem OutS.done {T o : List Int} (h : OutS T o 16) (hT : T.length = 31) : dV o = dV T - 2 * pP * dV (T.drop 16) := by
 have hp : 2 * pP = bigM - 38 := by rw [bigM_p]; omega
 have e : dV T = dV (T.take 16) + bigM * dV (T.drop 16) := by
  have := dV_append (T.take 16) (T.drop 16)
  rw [List.take_append_drop, List.length_take, show min 16 T.length = 16 from by omega] at this
  exact this
 rw [hp, h.fold hT, e]
 grind
theorem CZ.sharp {zs zs' : List Int} {B E : Int} (h : CZ zs zs' B) (hE : E ≤ 1152921504606846976) (hE0 : 0 ≤ E) (h1 : -E ≤ dV zs) (h2 : dV zs ≤ bigM + E) : ∀ z ∈ zs', -38 ≤ z ∧ z ≤ 65573 := by
 obtain ⟨hl, ⟨c, c1, c2, c3, c4, c5⟩, h3⟩ := h
 have hc : -1 ≤ c ∧ c ≤ 1 := by
  have e := list16 zs' hl
  have l1 := h3 1 (by omega) (by omega)
  have l2 := h3 2 (by omega) (by omega)
  have l3 := h3 3 (by omega) (by omega)
  have l4 := h3 4 (by omega) (by omega)
  have l5 := h3 5 (by omega) (by omega)
  have l6 := h3 6 (by omega) (by omega)
  have l7 := h3 7 (by omega) (by omega)
  have l8 := h3 8 (by omega) (by omega)
  have l9 := h3 9 (by omega) (by omega)
  have l10 := h3 10 (by omega) (by omega)
  have l11 := h3 11 (by omega) (by omega)
  have l12 := h3 12 (by omega) (by omega)
  have l13 := h3 13 (by omega) (by omega)
  have l14 := h3 14 (by omega) (by omega)
  have l15 := h3 15 (by omega) (by omega)
  have hv : 0 ≤ dV zs' - 38 * c ∧ dV zs' - 38 * c < bigM := by
   have hM : bigM = 115792089237316195423570985008687907853269984665640564039457584007913129639936 := by decide +kernel
   rw [hM, e]
   simp only [dV]
   omega
  have hM : bigM = 115792089237316195423570985008687907853269984665640564039457584007913129639936 := by decide +kernel
  rw [c3, hM] at hv
  rw [hM] at h2
  omega
 refine all_of_getD (P := fun z => -38 ≤ z ∧ z ≤ 65573) hl (fun i hi => ?_)
 rcases Nat.eq_zero_or_pos i with rfl | h0
 ·omega
 ·have := h3 i h0 hi
  omega
theorem CZ.near {zs zs' : List Int} {B : Int} (h : CZ zs zs' B) (hB0 : 0 ≤ B) : -(38 * (B / 32768 + 2)) ≤ dV zs' ∧ dV zs' ≤ bigM + 38 * (B / 32768 + 2) := by
 obtain ⟨hl, ⟨c, c1, c2, c3, c4, c5⟩, h3⟩ := h
 have e := list16 zs' hl
 have l1 := h3 1 (by omega) (by omega)
 have l2 := h3 2 (by omega) (by omega)
 have l3 := h3 3 (by omega) (by omega)
 have l4 := h3 4 (by omega) (by omega)
 have l5 := h3 5 (by omega) (by omega)
 have l6 := h3 6 (by omega) (by omega)
 have l7 := h3 7 (by omega) (by omega)
 have l8 := h3 8 (by omega) (by omega)
 have l9 := h3 9 (by omega) (by omega)
 have l10 := h3 10 (by omega) (by omega)
 have l11 := h3 11 (by omega) (by omega)
 have l12 := h3 12 (by omega) (by omega)
 have l13 := h3 13 (by omega) (by omega)
 have l14 := h3 14 (by omega) (by omega)
 have l15 := h3 15 (by omega) (by omega)
 have hM : bigM = 115792089237316195423570985008687907853269984665640564039457584007913129639936 := by decide +kernel
 have hv : 0 ≤ dV zs' - 38 * c ∧ dV zs' - 38 * c < 115792089237316195423570985008687907853269984665640564039457584007913129639936 := by
  rw [e]
  simp only [dV]
  omega
 rw [hM]
 generalize B / 32768 = b at *
 omega
theorem bound_i64 {z : Int} {i k : Nat} (hi : i ≤ 16) (hk : k ≤ 16) (h : -((16 * (i : Int) + k) * 17179869184) ≤ z ∧ z ≤ (16 * (i : Int) + k) * 17179869184) : -4672924418048 ≤ z ∧ z ≤ 4672924418048 := by omega
theorem OutS.step1 {T o : List Int} {i : Nat} (h : OutS T o i) (hi : i < 15) : OutS T ((o.set i (T.getD i 0)).set i (T.getD i 0 + 38 * T.getD (i + 16) 0)) (i + 1) := by
 obtain ⟨h1, h2⟩ := h
 refine ⟨by simp [h1], fun j hj hj2 => ?_⟩
 by_cases e : j = i
 ·subst e
  rw [getD_set_same (by simp; omega), if_pos hi]
 ·rw [getD_set_far (by omega), getD_set_far (by omega)]
  exact h2 j (by omega) hj2
theorem OutS.step2 {T o : List Int} (h : OutS T o 15) : OutS T (o.set 15 (T.getD 15 0)) 16 := by
 obtain ⟨h1, h2⟩ := h
 refine ⟨by simp [h1], fun j hj hj2 => ?_⟩
 by_cases e : j = 15
 ·subst e
  rw [getD_set_same (by omega), if_neg (by omega)]
 ·rw [getD_set_far (by omega)]
  exact h2 j (by omega) hj2
theorem OutS.bnd {T o : List Int} (h : OutS T o 16) (hT : ∀ j, j < 31 → -4672924418048 ≤ T.getD j 0 ∧ T.getD j 0 ≤ 4672924418048) : ∀ z ∈ o, -281474976710656 ≤ z ∧ z ≤ 281474976710656 := by
 refine all_of_getD (P := fun z => -281474976710656 ≤ z ∧ z ≤ 281474976710656) h.len (fun i hi => ?_)
 rw [h.low i hi hi]
 have h1 := hT i (by omega)
 split
 ·have h2 := hT (i + 16) (by omega)
  omega
 ·omega
set_option maxRecDepth 100000 in
set_option maxHeartbeats 4000000 in
theorem rmul_any (u v : Value) (x y : Int) (w : World) (hu : IsEl u x) (hv : IsEl v y) :
  Calls Tryd.prog 55 #[u, v] w fun e w' => ∃ r, e = .returned r ∧ IsEl r (x * y) ∧ Below w.heap.size w w' := by
 obtain ⟨xs, rfl, la, ba, qa, va⟩ := hu
 obtain ⟨ys, rfl, lb, bb, qb, vb⟩ := hv
 have HA := Lib.hid ba
 have HB := Lib.hid bb
 have LA := Lib.hid la
 have LB := Lib.hid lb
 have VA := Lib.hid va
 have VB := Lib.hid vb
 have HBX := Lib.hid (boxes4 w (ints .i64 xs) (ints .i64 ys) (ints .i64 (List.replicate 16 0)) (ints .i64 (List.replicate 31 0)) 54 54 54 122)
 clear ba bb la lb va vb
 go_enter Tryd.func55, Tryd.ntmps55
 go_wp2_with fail
 change Code.wp _ _ _ _ ((((w.alloc (.cells (ints .i64 xs).toArray 54)).alloc (.cells (ints .i64 ys).toArray 54)).alloc (.cells (ints .i64 (List.replicate 16 0)).toArray 54)).alloc (.cells (ints .i64 (List.replicate 31 0)).toArray 122))
 generalize (((w.alloc (.cells (ints .i64 xs).toArray 54)).alloc (.cells (ints .i64 ys).toArray 54)).alloc (.cells (ints .i64 (List.replicate 16 0)).toArray 54)).alloc (.cells (ints .i64 (List.replicate 31 0)).toArray 122) = w0 at *
 obtain ⟨h1, h2, h3, h4, h5⟩ := HBX.out
 obtain ⟨A, hA⟩ : ∃ A, A = w.heap.size := ⟨_, rfl⟩
 rw [← hA] at h1 h2 h3 h4 ⊢
 have hA2 : w.heap.size ≤ A := by omega
 have H1 := Lib.hid h1
 have H2 := Lib.hid h2
 have H3 := Lib.hid h3
 have H4 := Lib.hid h4
 have H5 := Lib.hid h5
 clear h1 h2 h3 h4 h5 HBX hA
 go_loopw [6] (fun i wr => ∃ (k : Nat) (T : List Int), k ≤ 16 ∧ i = .int .i64 k ∧ MulS xs ys T k 0 ∧ Blk wr A (ints .i64 xs) 54 ∧ Blk wr (A + 1) (ints .i64 ys) 54 ∧ Blk wr (A + 1 + 1) (ints .i64 (List.replicate 16 0)) 54 ∧ Blk wr (A + 1 + 1 + 1) (ints .i64 T) 122 ∧ Below w.heap.size w wr) (fun i _ => 16 - (intOf i).toNat)
 case atStart => exact ⟨0, _, by omega, rfl, MulS.start, H1.out, H2.out, H3.out, H4.out, H5.out⟩
 case round =>
  clear H1 H2 H3 H4 H5
  obtain ⟨i, T0, hi, rfl, hms0, hb1, hb2, hb3, hb4, hbel⟩ := hrel
  have i0' : (0 : Int) ≤ (i : Int) := Int.natCast_nonneg _
  by_cases hlt : i < 16
  ·have i1 : (i : Int) < 16 := by omega
   have H1 := Lib.hid hb1
   have H2 := Lib.hid hb2
   have H3 := Lib.hid hb3
   have H4 := Lib.hid hb4
   have H5 := Lib.hid hbel
   have H6 := Lib.hid hms0
   clear hb1 hb2 hb3 hb4 hbel hms0
   go_wp2_with fail
   obtain ⟨wo, rfl⟩ : ∃ wo : World, wo = wr := ⟨_, rfl⟩
   go_loopw [7] (fun j wr => ∃ (k : Nat) (T : List Int), k ≤ 16 ∧ j = .int .i64 k ∧ MulS xs ys T i k ∧ Blk wr A (ints .i64 xs) 54 ∧ Blk wr (A + 1) (ints .i64 ys) 54 ∧ Blk wr (A + 1 + 1) (ints .i64 (List.replicate 16 0)) 54 ∧ Blk wr (A + 1 + 1 + 1) (ints .i64 T) 122 ∧ Below w.heap.size w wr) (fun j _ => 16 - (intOf j).toNat)
   case atStart => exact ⟨0, T0, by omega, rfl, H6.out, H1.out, H2.out, H3.out, H4.out, H5.out⟩
   case round =>
    clear H1 H2 H3 H4 H5 H6
    obtain ⟨k, T, hk, rfl, hms, hb1, hb2, hb3, hb4, hbel⟩ := hrel
    have j0' : (0 : Int) ≤ (k : Int) := Int.natCast_nonneg _
    by_cases hlt2 : k < 16
    ·have j1 : (k : Int) < 16 := by omega
     have e1 := hb1.cell i
     rw [ints_get (by have := LA.out; omega)] at e1
     have e2 := hb2.cell k
     rw [ints_get (by have := LB.out; omega)] at e2
     have e3 := hb4.cell (i + k)
     rw [ints_get (by have := hms.len; omega)] at e3
     have f3 := hb4.free (i + k)
     have hst := hms.step hlt hlt2 HA.out HB.out LA.out LB.out
     have b1 := getD_of_all (P := fun z => -131072 ≤ z ∧ z ≤ 131072) HA.out (i := i) (by have := LA.out; omega)
     have b2 := getD_of_all (P := fun z => -131072 ≤ z ∧ z ≤ 131072) HB.out (i := k) (by have := LB.out; omega)
     have b3 := bound_i64 (by omega) (by omega) (hms.bnd (i + k) (by omega))
     have b4 := prod_bound b1.1 b1.2 b2.1 b2.2
     generalize xs.getD i 0 = a at *
     generalize ys.getD k 0 = b at *
     generalize T.getD (i + k) 0 = t at *
     obtain ⟨b31, b32⟩ := b3
     obtain ⟨b41, b42⟩ := b4
     have s1 : IntKind.i64.wrap ((i : Int) + (k : Int)) = (i : Int) + k := IntWalk.i64_in _ (by omega)
     have s2 : ((i : Int) + (k : Int)).toNat = i + k := by omega
     have s3 : (0 : Int) ≤ (i : Int) + (k : Int) := by omega
     have s4 : (i : Int) + (k : Int) < 31 := by omega
     have W1 : Hid (wrap64 (a * b) = a * b) := Lib.hid (by rw [← IntWalk.i64_left]; exact IntWalk.i64_in _ (by omega))
     have W2 : Hid (wrap64 (t + a * b) = t + a * b) := Lib.hid (by rw [← IntWalk.i64_left]; exact IntWalk.i64_in _ (by omega))
     have HST := Lib.hid hst
     have H1 := Lib.hid hb1
     have H2 := Lib.hid hb2
     have H3 := Lib.hid hb3
     have H4 := Lib.hid hb4
     have H5 := Lib.hid hbel
     clear hb1 hb2 hb3 hb4 hbel hst hms b1 b2 b31 b32 b41 b42
     go_wp2_with fail
     go_region
     go_wp2_with fail
     go_roundw
     case rel =>
      rw [W1.out, W2.out]
      refine ⟨k + 1, _, by omega, by go_num, HST.out, H1.out.far (by simp; omega) _, H2.out.far (by simp; omega) _, H3.out.far (by simp) _, ?_, (H5.out.setCell (by simp; omega) _).drew⟩
      rw [← ints_set]
      exact H4.out.set (i + k) _
     case measure => simp [intOf]; omega
    ·have hk' : k = 16 := by omega
     subst hk'
     have hnx := hms.next hlt LA.out LB.out
     have H1 := Lib.hid hb1
     have H2 := Lib.hid hb2
     have H3 := Lib.hid hb3
     have H4 := Lib.hid hb4
     have H5 := Lib.hid hbel
     have HNX := Lib.hid hnx
     clear hb1 hb2 hb3 hb4 hbel hms hnx
     go_wp2_with fail
     go_roundw
     case rel => exact ⟨i + 1, T, by omega, by go_num, HNX.out, H1.out, H2.out, H3.out, H4.out, H5.out⟩
     case measure => simp [intOf]; omega
  ·have hi' : i = 16 := by omega
   subst hi'
   have hT31 := hms0.len
   have hTb : ∀ j, j < 31 → -4672924418048 ≤ T0.getD j 0 ∧ T0.getD j 0 ≤ 4672924418048 := fun j hj => bound_i64 (i := 16) (k := 0) (by omega) (by omega) (hms0.bnd j hj)
   have hTv := hms0.val
   rw [List.take_of_length_le (l := xs) (by have := LA.out; omega), List.take_zero] at hTv
   simp only [dV, Int.mul_zero, Int.zero_mul, Int.add_zero] at hTv
   have HT31 := Lib.hid hT31
   have HTB := Lib.hid hTb
   have HTV := Lib.hid hTv
   obtain ⟨O, hO⟩ : ∃ O, O = wr.heap.size := ⟨_, rfl⟩
   have hO4 : A + 1 + 1 + 1 < O := by have := hb4.lt; omega
   have HO0 := Lib.hid (Blk.made wr (ints .i64 (List.replicate 16 0)) 54)
   rw [← hO] at HO0
   have H3 := Lib.hid (hb3.alloc (.cells (ints .i64 (List.replicate 16 0)).toArray 54))
   have H4 := Lib.hid (hb4.alloc (.cells (ints .i64 (List.replicate 16 0)).toArray 54))
   have H5 := Lib.hid (hbel.alloc hbel.size (.cells (ints .i64 (List.replicate 16 0)).toArray 54))
   clear hb1 hb2 hb3 hb4 hbel hms0 hT31 hTb hTv
   go_wp2_with fail
   rw [← hO]
   change Code.wp _ _ _ _ (wr.alloc (.cells (ints .i64 (List.replicate 16 0)).toArray 54))
   generalize wr.alloc (.cells (ints .i64 (List.replicate 16 0)).toArray 54) = w2 at *
   clear hO
   obtain ⟨wo, rfl⟩ : ∃ wo : World, wo = wr := ⟨_, rfl⟩
   go_loopw [9] (fun j wr => ∃ (k : Nat) (o : List Int), k ≤ 16 ∧ j = .int .i64 k ∧ OutS T0 o k ∧ Blk wr (A + 1 + 1) (ints .i64 (List.replicate 16 0)) 54 ∧ Blk wr (A + 1 + 1 + 1) (ints .i64 T0) 122 ∧ Blk wr O (ints .i64 o) 54 ∧ Below w.heap.size w wr) (fun j _ => 16 - (intOf j).toNat)
   case atStart => exact ⟨0, _, by omega, rfl, ⟨rfl, fun j hj => by omega⟩, H3.out, H4.out, HO0.out, H5.out⟩
   case round =>
    clear H3 H4 H5 HO0
    obtain ⟨k, o, hk, rfl, hos, hb3, hb4, hbo, hbel⟩ := hrel
    have j0' : (0 : Int) ≤ (k : Int) := Int.natCast_nonneg _
    have ho16 := hos.len
    by_cases hlt2 : k < 16
    ·have j1 : (k : Int) < 16 := by omega
     have e1 := hb4.cell k
     rw [ints_get (by have := HT31.out; omega)] at e1
     have e2 := hbo.cell k
     rw [ints_get (by omega)] at e2
     have f2 := hbo.free k
     have b1 := HTB.out k (by omega)
     by_cases h15 : k < 15
     ·have e3 := hb4.cell (k + 16)
      rw [ints_get (by have := HT31.out; omega)] at e3
      have b2 := HTB.out (k + 16) (by omega)
      have hst := hos.step1 h15
      generalize T0.getD k 0 = a at *
      generalize T0.getD (k + 16) 0 = b at *
      obtain ⟨b11, b12⟩ := b1
      obtain ⟨b21, b22⟩ := b2
      have s1 : IntKind.i64.wrap ((k : Int) + 16) = (k : Int) + 16 := IntWalk.i64_in _ (by omega)
      have s2 : ((k : Int) + 16).toNat = k + 16 := by omega
      have s3 : (0 : Int) ≤ (k : Int) + 16 := by omega
      have s4 : (k : Int) + 16 < 31 := by omega
      have j2 : (k : Int) < 15 := by omega
      have W1 : Hid (wrap64 (38 * b) = 38 * b) := Lib.hid (by rw [← IntWalk.i64_left]; exact IntWalk.i64_in _ (by omega))
      have W2 : Hid (wrap64 (a + 38 * b) = a + 38 * b) := Lib.hid (by rw [← IntWalk.i64_left]; exact IntWalk.i64_in _ (by omega))
      have HST := Lib.hid hst
      have H3 := Lib.hid hb3
      have H4 := Lib.hid hb4
      have H5 := Lib.hid hbel
      have HO := Lib.hid hbo
      clear hb3 hb4 hbo hbel hst hos b11 b12 b21 b22 ho16
      go_wp2_with fail
      go_region
      go_wp2_with fail
      go_roundw
      case rel =>
       rw [W1.out, W2.out]
       refine ⟨k + 1, _, by omega, by go_num, HST.out, (H3.out.far (by simp; omega) _).far (by simp; omega) _, (H4.out.far (by simp; omega) _).far (by simp; omega) _, ?_, ((H5.out.setCell (by simp; omega) _).setCell (by simp; omega) _).drew⟩
       rw [← ints_set, ← ints_set]
       exact (HO.out.set k _).set k _
      case measure => simp [intOf]; omega
     ·have hk15 : k = 15 := by omega
      subst hk15
      have hst := hos.step2
      generalize T0.getD 15 0 = a at *
      have HST := Lib.hid hst
      have H3 := Lib.hid hb3
      have H4 := Lib.hid hb4
      have H5 := Lib.hid hbel
      have HO := Lib.hid hbo
      clear hb3 hb4 hbo hbel hst hos b1 ho16
      go_wp2_with fail
      go_roundw
      case rel =>
       refine ⟨16, _, by omega, by go_num, HST.out, H3.out.far (by simp; omega) _, H4.out.far (by simp; omega) _, ?_, H5.out.setCell (by simp; omega) _⟩
       rw [← ints_set]
       exact HO.out.set 15 _
      case measure => simp [intOf]
    ·have hk' : k = 16 := by omega
     subst hk'
     have hdone := hos.done HT31.out
     have hbd := hos.bnd HTB.out
     have H3 := Lib.hid hb3
     have H5 := Lib.hid hbel
     have HO := Lib.hid hbo
     have HD := Lib.hid hdone
     have hi1 : Hid ((Tryd.prog.info? 54).map (·.size) = some (ints .i64 o).length) := Lib.hid (by rw [ints_length, ho16]; exact Tryd.arr54)
     have HC := Lib.hid (carry_any o 281474976710656 wr ho16 hbd (by omega) (by omega))
     clear hb3 hb4 hbo hbel hos ho16 hdone hbd
     go_wp2_with (refine wpList_load_blk rfl _ _ rfl O rfl _ _ _ _ HO.out Tryd.underlying54 hi1.out ?_)
     refine HC.out.mono ?_
     rintro e w5 ⟨z1, rfl, hz1, hb5⟩
     have hn1 := hz1.near (by omega)
     have hbz1 : ∀ z ∈ z1, -1099511627776 ≤ z ∧ z ≤ 1099511627776 := all_of_getD (P := fun z => -1099511627776 ≤ z ∧ z ≤ 1099511627776) hz1.len (fun i hi => by
      obtain ⟨_, ⟨c, c1, c2, _, c4, c5⟩, h3⟩ := hz1
      rcases Nat.eq_zero_or_pos i with rfl | h0
      ·omega
      ·have := h3 i h0 hi
       omega)
     have HC2 := Lib.hid (carry_any z1 1099511627776 w5 hz1.len hbz1 (by omega) (by omega))
     have H35 := Lib.hid (H3.out.same (hb5.block _ H3.out.lt))
     have H55 := Lib.hid (H5.out.trans (hb5.mono H5.out.size))
     have HZ1 := Lib.hid hz1
     have HN1 := Lib.hid hn1
     clear hb5 hz1 hn1 hbz1
     go_wp2_with fail
     refine HC2.out.mono ?_
     rintro e w6 ⟨z2, rfl, hz2, hb6⟩
     have H36 := Lib.hid (H35.out.same (hb6.block _ H35.out.lt))
     have H56 := Lib.hid (H55.out.trans (hb6.mono H55.out.size))
     have hi2 : Hid ((Tryd.prog.info? 54).map (·.size) = some (ints .i64 z2).length) := Lib.hid (by rw [ints_length, hz2.len]; exact Tryd.arr54)
     have hl2 : Hid ((ints .i64 z2).length = (ints .i64 (List.replicate 16 0)).length) := Lib.hid (by rw [ints_length, ints_length, hz2.len]; rfl)
     have HZ2 := Lib.hid hz2
     clear hb6 hz2
     go_wp2_with (refine wpList_store_blk rfl _ _ _ rfl (A + 1 + 1) _ rfl rfl _ _ H36.out hl2.out hi2.out (ints_one _ _) ?_; intro w7 hb7 hg7)
     obtain ⟨_, ⟨c1, _, _, v1, _, _⟩, _⟩ := HZ1.out
     obtain ⟨hlen2, ⟨c2, _, _, v2, _, _⟩, _⟩ := id HZ2.out
     refine bodyPost_ret (v := .agg (ints .i64 z2).toArray) (result_blk (by rfl) _ (A + 1 + 1) _ _ _ _ (by rfl) hb7 Tryd.underlying54 hi2.out) rfl ⟨_, rfl, ⟨z2, rfl, hlen2, fun z hz => ?_, qa * y + qb * x + qa * qb * pP - 2 * dV (T0.drop 16) - 2 * c1 - 2 * c2, ?_⟩, H56.out.grown hg7 H56.out.size (fun r hr => by cases hr; omega)⟩
     ·have := HZ2.out.sharp (E := 1152921504606846976) (by omega) (by omega) (by have := HN1.out.1; omega) (by have := HN1.out.2; omega) z hz
      omega
     ·rw [v2, v1, HD.out, HTV.out, VA.out, VB.out, bigM_p]
      grind
theorem bigM_lit : bigM = 115792089237316195423570985008687907853269984665640564039457584007913129639936 := by decide +kernel
theorem dV_range {zs : List Int} (hl : zs.length = 16) (h : ∀ i, i < 16 → 0 ≤ zs.getD i 0 ∧ zs.getD i 0 ≤ 65535) : 0 ≤ dV zs ∧ dV zs < bigM := by
 have l0 := h 0 (by omega)
 have l1 := h 1 (by omega)
 have l2 := h 2 (by omega)
 have l3 := h 3 (by omega)
 have l4 := h 4 (by omega)
 have l5 := h 5 (by omega)
 have l6 := h 6 (by omega)
 have l7 := h 7 (by omega)
 have l8 := h 8 (by omega)
 have l9 := h 9 (by omega)
 have l10 := h 10 (by omega)
 have l11 := h 11 (by omega)
 have l12 := h 12 (by omega)
 have l13 := h 13 (by omega)
 have l14 := h 14 (by omega)
 have l15 := h 15 (by omega)
 rw [list16 zs hl, bigM_lit]
 simp only [dV]
 omega
theorem CZ.inner {zs zs' : List Int} {B : Int} (h : CZ zs zs' B) : ∃ c, -(B / 32768 + 2) ≤ c ∧ c ≤ B / 32768 + 2 ∧ dV zs' = dV zs - (bigM - 38) * c ∧ 0 ≤ dV zs' - 38 * c ∧ dV zs' - 38 * c < bigM ∧ 0 ≤ zs'.getD 0 0 - 38 * c ∧ zs'.getD 0 0 - 38 * c ≤ 65535 := by
 obtain ⟨hl, ⟨c, c1, c2, c3, c4, c5⟩, h3⟩ := h
 have hr := dV_range (zs := zs'.set 0 (zs'.getD 0 0 - 38 * c)) (by simp [hl]) (fun i hi => by
  rcases Nat.eq_zero_or_pos i with rfl | h0
  ·rw [getD_set_same (by omega)]
   exact ⟨c4, c5⟩
  ·rw [getD_set_far (by omega)]
   exact h3 i h0 hi)
 rw [dV_set _ _ _ (by omega)] at hr
 simp only [Int.pow_zero, Int.mul_one] at hr
 exact ⟨c, c1, c2, c3, by omega, by omega, c4, c5⟩
theorem CZ.second {zs zs' : List Int} {B E : Int} (h : CZ zs zs' B) (hE : E ≤ 1152921504606846976) (h1 : -E ≤ dV zs) (h2 : dV zs ≤ bigM + E) : 0 ≤ dV zs' ∧ dV zs' < bigM := by
 obtain ⟨c, c1, c2, c3, c4, c5, _, _⟩ := h.inner
 rw [c3] at c4 c5 ⊢
 rw [bigM_lit] at *
 omega
theorem CZ.tidy {zs zs' : List Int} {B : Int} (h : CZ zs zs' B) (h1 : 0 ≤ dV zs) (h2 : dV zs < bigM) : dV zs' = dV zs ∧ ∀ i, i < 16 → 0 ≤ zs'.getD i 0 ∧ zs'.getD i 0 ≤ 65535 := by
 obtain ⟨c, c1, c2, c3, c4, c5, c6, c7⟩ := h.inner
 have hc : c = 0 := by
  rw [c3] at c4 c5
  rw [bigM_lit] at *
  omega
 subst hc
 refine ⟨by rw [c3]; omega, fun i hi => ?_⟩
 rcases Nat.eq_zero_or_pos i with rfl | h0
 ·omega
 ·exact h.low i h0 hi
def pL : List Int := [65517, 65535, 65535, 65535, 65535, 65535, 65535, 65535, 65535, 65535, 65535, 65535, 65535, 65535, 65535, 32767]
theorem dV_pL : dV pL = pP := by decide +kernel
theorem dV_take_set {zs : List Int} {i k : Nat} {z : Int} (hi : i < k) (hk : k ≤ zs.length) : dV ((zs.set i z).take k) = dV (zs.take k) + (z - zs.getD i 0) * 65536 ^ i := by
 rw [List.take_set, dV_set _ _ _ (by simp; omega)]
 congr 3
 simp [List.getD, hi]
theorem dV_take_far {zs : List Int} {i k : Nat} {z : Int} (hi : k ≤ i) : dV ((zs.set i z).take k) = dV (zs.take k) := by
 rw [List.take_set]
 rw [List.set_eq_of_length_le (by simp; omega)]
theorem and1 {t : Int} (h : t = -1 ∨ t = 0) : bits .and .i64 t 1 = -t := by
 rcases h with rfl | rfl <;> decide
theorem and16 (n : Int) : bits .and .i64 n 65535 = n % 65536 := by
 have h : (BitVec.ofInt 64 65535).toNat = 2 ^ 16 - 1 := by decide
 have key : (BitVec.ofInt 64 n &&& BitVec.ofInt 64 65535).toNat = (n % ((2 ^ 64 : Nat) : Int)).toNat % 2 ^ 16 := by
  rw [BitVec.toNat_and, BitVec.toNat_ofInt, h, Nat.and_two_pow_sub_one_eq_mod]
 show IntKind.i64.wrap ((BitVec.ofInt 64 n &&& BitVec.ofInt 64 65535).toNat : Nat) = n % 65536
 rw [key, IntKind.wrap_i64]
 omega
theorem and8 (n : Int) : bits .and .i64 n 255 = n % 256 := by
 have h255 : (BitVec.ofInt 64 255).toNat = 2 ^ 8 - 1 := by decide
 have key : (BitVec.ofInt 64 n &&& BitVec.ofInt 64 255).toNat = (n % ((2 ^ 64 : Nat) : Int)).toNat % 2 ^ 8 := by
  rw [BitVec.toNat_and, BitVec.toNat_ofInt, h255, Nat.and_two_pow_sub_one_eq_mod]
 show IntKind.i64.wrap ((BitVec.ofInt 64 n &&& BitVec.ofInt 64 255).toNat : Nat) = n % 256
 rw [key, IntKind.wrap_i64]
 omega
structure SubP (a m : List Int) (i : Nat) : Prop where
 len : m.length = 16
 val : dV (m.take (i + 1)) = dV (a.take (i + 1)) - dV (pL.take (i + 1))
 low : ∀ j, j < i → 0 ≤ m.getD j 0 ∧ m.getD j 0 ≤ 65535
 top : -65536 ≤ m.getD i 0 ∧ m.getD i 0 ≤ 65535
theorem SubP.start {a m : List Int} (hm : m.length = 16) (ha : a.length = 16) (h0 : 0 ≤ a.getD 0 0 ∧ a.getD 0 0 ≤ 65535) : SubP a (m.set 0 (a.getD 0 0 - 65517)) 0 := by
 refine ⟨by simp [hm], ?_, fun j hj => by omega, ?_⟩
 ·rw [dV_take_set (by omega) (by omega), dV_take_succ m 0 (by omega), dV_take_succ a 0 (by omega)]
  simp only [List.take_zero, pL, List.take_succ_cons, dV]
  omega
 ·rw [getD_set_same (by omega)]
  omega
theorem SubP.step {a m : List Int} {i : Nat} {P : Int} (h : SubP a m i) (hi : i < 15) (ha : a.length = 16) (h1 : 0 ≤ a.getD (i + 1) 0 ∧ a.getD (i + 1) 0 ≤ 65535) (hP : pL.getD (i + 1) 0 = P) (hP0 : 0 ≤ P) (hP1 : P ≤ 65535) :
  SubP a ((m.set (i + 1) (a.getD (i + 1) 0 - P - bits .and .i64 (m.getD i 0 / 65536) 1)).set i (bits .and .i64 (m.getD i 0) 65535)) (i + 1) := by
 obtain ⟨hl, h2, h3, h4⟩ := h
 have hp : pL.length = 16 := rfl
 rw [and16, and1 (by omega)]
 refine ⟨by simp [hl], ?_, fun j hj => ?_, ?_⟩
 ·rw [dV_take_set (by omega) (by simp; omega), getD_set_far (by omega), dV_take_succ _ (i + 1) (by simp; omega), dV_take_far (by omega), getD_set_same (by omega), h2, dV_take_succ a (i + 1) (by omega), dV_take_succ pL (i + 1) (by omega), hP, Int.pow_succ]
  have e : m.getD i 0 % 65536 = m.getD i 0 - m.getD i 0 / 65536 * 65536 := by omega
  rw [e]
  generalize (65536 : Int) ^ i = X
  grind
 ·by_cases e : j = i
  ·subst e
   rw [getD_set_same (by simp; omega)]
   omega
  ·rw [getD_set_far (by omega), getD_set_far (by omega)]
   exact h3 j (by omega)
 ·rw [getD_set_far (by omega), getD_set_same (by omega)]
  omega
theorem SubP.done {a m : List Int} (h : SubP a m 15) (ha : a.length = 16) : dV m = dV a - pP ∧ (0 ≤ m.getD 15 0 ↔ pP ≤ dV a) ∧ (0 ≤ m.getD 15 0 → ∀ i, i < 16 → 0 ≤ m.getD i 0 ∧ m.getD i 0 ≤ 65535) := by
 obtain ⟨hl, h2, h3, h4⟩ := h
 rw [List.take_of_length_le (by omega), List.take_of_length_le (by omega), List.take_of_length_le (by simp [pL]), dV_pL] at h2
 refine ⟨h2, ?_, fun h i hi => ?_⟩
 ·have e := list16 m hl
  have l0 := h3 0 (by omega)
  have l1 := h3 1 (by omega)
  have l2 := h3 2 (by omega)
  have l3 := h3 3 (by omega)
  have l4 := h3 4 (by omega)
  have l5 := h3 5 (by omega)
  have l6 := h3 6 (by omega)
  have l7 := h3 7 (by omega)
  have l8 := h3 8 (by omega)
  have l9 := h3 9 (by omega)
  have l10 := h3 10 (by omega)
  have l11 := h3 11 (by omega)
  have l12 := h3 12 (by omega)
  have l13 := h3 13 (by omega)
  have l14 := h3 14 (by omega)
  have hv : dV m = dV a - pP := h2
  rw [e] at hv
  simp only [dV] at hv
  generalize dV a = V at *
  generalize pP = p at *
  constructor <;> intro h <;> omega
 ·rcases Nat.lt_or_ge i 15 with h5 | h5
  ·exact h3 i h5
  ·obtain rfl : i = 15 := by omega
   omega
def bndK (k : Nat) : Int := if k = 0 then bigM else if k = 1 then pP + 38 else pP
structure OutR (x : Int) (zs : List Int) (k : Nat) : Prop where
 len : zs.length = 16
 dig : ∀ i, i < 16 → 0 ≤ zs.getD i 0 ∧ zs.getD i 0 ≤ 65535
 val : ∃ q, dV zs = x + pP * q
 bnd : 0 ≤ dV zs ∧ dV zs < bndK k
theorem OutR.keep {x : Int} {zs : List Int} {k : Nat} (h : OutR x zs k) (hk : k < 3) (hp : ¬ pP ≤ dV zs) : OutR x zs (k + 1) := by
 obtain ⟨h1, h2, h3, h4, h5⟩ := h
 refine ⟨h1, h2, h3, h4, ?_⟩
 have hp0 : (0 : Int) < pP := by decide +kernel
 unfold bndK
 rw [if_neg (by omega)]
 split <;> omega
theorem OutR.less {x : Int} {zs ms : List Int} {k : Nat} (h : OutR x zs k) (hk : k < 3) (hm : ms.length = 16) (hd : ∀ i, i < 16 → 0 ≤ ms.getD i 0 ∧ ms.getD i 0 ≤ 65535) (hv : dV ms = dV zs - pP) (hp : pP ≤ dV zs) : OutR x ms (k + 1) := by
 obtain ⟨h1, h2, ⟨q, h3⟩, h4, h5⟩ := h
 refine ⟨hm, hd, ⟨q - 1, by rw [hv, h3]; grind⟩, by omega, ?_⟩
 have hM := bigM_p
 have hp0 : (0 : Int) < pP := by decide +kernel
 unfold bndK at *
 rw [if_neg (by omega)]
 have hp38 : (38 : Int) < pP := by decide +kernel
 generalize pP = p at *
 generalize bigM = M at *
 rcases (by omega : k = 0 ∨ k = 1 ∨ k = 2) with rfl | rfl | rfl
 ·simp at *
  omega
 ·simp at *
  omega
 ·simp at *
  omega
theorem OutR.start {x qa : Int} {xs z1 z2 z3 z4 : List Int} (hv : dV xs = x + pP * qa) (h1 : CZ xs z1 131072) (h2 : CZ z1 z2 131072) (h3 : CZ z2 z3 131072) (h4 : CZ z3 z4 131072) : OutR x z4 0 := by
 obtain ⟨_, q1, e1⟩ := h1.el (by omega)
 obtain ⟨_, q2, e2⟩ := h2.el (by omega)
 have n1 := h1.near (by omega)
 have r2 := h2.second (E := 1152921504606846976) (by omega) (by have := n1.1; omega) (by have := n1.2; omega)
 obtain ⟨e3, _⟩ := h3.tidy r2.1 r2.2
 obtain ⟨e4, d4⟩ := h4.tidy (by rw [e3]; exact r2.1) (by rw [e3]; exact r2.2)
 refine ⟨h4.len, d4, ⟨qa + q1 + q2, ?_⟩, ?_⟩
 ·rw [e4, e3, e2, e1, hv]
  grind
 ·rw [e4, e3]
  exact r2
structure OutB (zs bs : List Int) (k : Nat) : Prop where
 len : bs.length = 32
 low : ∀ j, j < k → bs.getD (2 * j) 0 = zs.getD j 0 % 256 ∧ bs.getD (2 * j + 1) 0 = zs.getD j 0 / 256 % 256
theorem OutB.step {zs bs : List Int} {k : Nat} (h : OutB zs bs k) (hk : k < 16) : OutB zs ((bs.set (2 * k) (bits .and .i64 (zs.getD k 0) 255 % 256)).set (2 * k + 1) (bits .and .i64 (zs.getD k 0 / 256) 255 % 256)) (k + 1) := by
 obtain ⟨h1, h2⟩ := h
 refine ⟨by simp [h1], fun j hj => ?_⟩
 rw [and8, and8, Int.emod_emod, Int.emod_emod]
 by_cases e : j = k
 ·subst e
  rw [getD_set_far (by omega), getD_set_same (by omega), getD_set_same (by simp; omega)]
  exact ⟨rfl, rfl⟩
 ·rw [getD_set_far (by omega), getD_set_far (by omega), getD_set_far (by omega), getD_set_far (by omega)]
  exact h2 j (by omega)
theorem OutB.done {x : Int} {zs bs : List Int} (h : OutB zs bs 16) (hr : OutR x zs 3) : ints .u8 bs = (bytesN 32 (x % pP).toNat).map bval := by
 obtain ⟨h1, h2⟩ := h
 have hb : ∀ i, i < 32 → 0 ≤ bs.getD i 0 ∧ bs.getD i 0 ≤ 255 := fun i hi => by
  have := h2 (i / 2) (by omega)
  rcases (by omega : i = 2 * (i / 2) ∨ i = 2 * (i / 2) + 1) with e | e
  ·rw [e, this.1]
   omega
  ·rw [e, this.2]
   omega
 have hg : ∀ i, i < 32 → ((bs.map fun z => UInt8.ofNat z.toNat).getD i 0).toNat = (bs.getD i 0).toNat := fun i hi => by
  have := hb i hi
  have e : (bs.map fun z => UInt8.ofNat z.toNat).getD i 0 = UInt8.ofNat (bs.getD i 0).toNat := by simp [List.getD, show i < bs.length from by omega]
  rw [e, UInt8.toNat_ofNat']
  omega
 have hv : dV zs = leN (bs.map fun z => UInt8.ofNat z.toNat) := dV_pairs zs _ hr.len (by simp [h1]) (fun i hi => by
  unfold pairAt
  rw [hg _ (by omega), hg _ (by omega), (h2 i hi).1, (h2 i hi).2]
  have := hr.dig i hi
  omega)
 have hx : x % pP = dV zs := by
  obtain ⟨q, hq⟩ := hr.val
  have hb := hr.bnd
  have : bndK 3 = pP := rfl
  rw [this] at hb
  have e : x = dV zs + pP * (-q) := by rw [hq]; grind
  rw [e, Int.add_mul_emod_self_left]
  exact Int.emod_eq_of_lt hb.1 hb.2
 rw [hx, hv, Int.toNat_natCast]
 have := bytesN_leN (bs.map fun z => UInt8.ofNat z.toNat)
 rw [List.length_map, h1] at this
 rw [this, List.map_map]
 unfold ints
 refine List.map_congr_left (fun z hz => ?_)
 have hz2 := (all_of_getD (P := fun z => 0 ≤ z ∧ z ≤ 255) h1 hb) z hz
 simp only [Function.comp, bval]
 congr 1
 rw [UInt8.toNat_ofNat']
 omega
set_option maxRecDepth 100000 in
set_option maxHeartbeats 4000000 in
theorem rout_any (v : Value) (x : Int) (w : World) (hv : IsEl v x) :
  Calls Tryd.prog 54 #[v] w fun e w' => e = .returned (.agg ((bytesN 32 (x % pP).toNat).map bval).toArray) ∧ Below w.heap.size w w' := by
 obtain ⟨xs, rfl, la, ba, qa, va⟩ := hv
 have LA := Lib.hid la
 have VA := Lib.hid va
 have HBX := Lib.hid (boxes2 w (ints .i64 xs) (ints .u8 (List.replicate 32 0)) 54 23)
 have hi0 : Hid ((Tryd.prog.info? 54).map (·.size) = some (ints .i64 xs).length) := Lib.hid (by rw [ints_length, la]; exact Tryd.arr54)
 have HC := Lib.hid (carry_any xs 131072 ((w.alloc (.cells (ints .i64 xs).toArray 54)).alloc (.cells (ints .u8 (List.replicate 32 0)).toArray 23)) la ba (by omega) (by omega))
 have BA := Lib.hid ba
 clear la ba va
 go_enter Tryd.func54, Tryd.ntmps54
 go_wp2_with (refine wpList_load_blk rfl _ _ rfl w.heap.size rfl _ _ _ _ HBX.out.1 Tryd.underlying54 hi0.out ?_)
 change Calls _ _ _ ((w.alloc (.cells (ints .i64 xs).toArray 54)).alloc (.cells (ints .u8 (List.replicate 32 0)).toArray 23)) _
 generalize (w.alloc (.cells (ints .i64 xs).toArray 54)).alloc (.cells (ints .u8 (List.replicate 32 0)).toArray 23) = w0 at *
 obtain ⟨h1, h2, h3⟩ := HBX.out
 obtain ⟨A, hA⟩ : ∃ A, A = w.heap.size := ⟨_, rfl⟩
 rw [← hA] at h1 h2 ⊢
 have hA2 : w.heap.size ≤ A := by omega
 have H1 := Lib.hid h1
 have H2 := Lib.hid h2
 have H3 := Lib.hid h3
 clear h1 h2 h3 HBX hA
 refine HC.out.mono ?_
 rintro e w1 ⟨z1, rfl, hz1, hb1⟩
 have HC1 := Lib.hid (carry_any z1 131072 w1 hz1.len (hz1.el (by omega)).1 (by omega) (by omega))
 have HZ1 := Lib.hid hz1
 have HB1 := Lib.hid hb1
 clear hz1 hb1
 go_wp2_with fail
 refine HC1.out.mono ?_
 rintro e w2 ⟨z2, rfl, hz2, hb2⟩
 have HC2 := Lib.hid (carry_any z2 131072 w2 hz2.len (hz2.el (by omega)).1 (by omega) (by omega))
 have HZ2 := Lib.hid hz2
 have HB2 := Lib.hid (HB1.out.trans (hb2.mono HB1.out.size))
 clear hz2 hb2
 go_wp2_with fail
 refine HC2.out.mono ?_
 rintro e w3 ⟨z3, rfl, hz3, hb3⟩
 have HC3 := Lib.hid (carry_any z3 131072 w3 hz3.len (hz3.el (by omega)).1 (by omega) (by omega))
 have HZ3 := Lib.hid hz3
 have HB3 := Lib.hid (HB2.out.trans (hb3.mono HB2.out.size))
 clear hz3 hb3
 go_wp2_with fail
 refine HC3.out.mono ?_
 rintro e w4 ⟨z4, rfl, hz4, hb4⟩
 have hbB := HB3.out.trans (hb4.mono HB3.out.size)
 have hOR := OutR.start VA.out HZ1.out HZ2.out HZ3.out hz4
 have H14 := Lib.hid (H1.out.same (hbB.block _ H1.out.lt))
 have H24 := Lib.hid (H2.out.same (hbB.block _ H2.out.lt))
 have H34 := Lib.hid (H3.out.trans (hbB.mono H3.out.size))
 have hi4 : Hid ((Tryd.prog.info? 54).map (·.size) = some (ints .i64 z4).length) := Lib.hid (by rw [ints_length, hz4.len]; exact Tryd.arr54)
 have hl4 : Hid ((ints .i64 z4).length = (ints .i64 xs).length) := Lib.hid (by rw [ints_length, ints_length, hz4.len, LA.out])
 have HOR := Lib.hid hOR
 clear hz4 hb4 hbB hOR
 go_wp2_with (refine wpList_store_blk rfl _ _ _ rfl A _ rfl rfl _ _ H14.out hl4.out hi4.out (ints_one _ _) ?_; intro w5 hb5 hg5)
 have H15 := Lib.hid hb5
 have H25 := Lib.hid (H24.out.grown hg5 (by simp))
 have H35 := Lib.hid (H34.out.grown hg5 H34.out.size (fun r hr => by cases hr; omega))
 clear hb5 hg5
 go_loopw [3] (fun i wr => ∃ (k : Nat) (zs : List Int), k ≤ 3 ∧ i = .int .i64 k ∧ OutR x zs k ∧ Blk wr A (ints .i64 zs) 54 ∧ Blk wr (A + 1) (ints .u8 (List.replicate 32 0)) 23 ∧ Below w.heap.size w wr) (fun i _ => 3 - (intOf i).toNat)
 case atStart => exact ⟨0, z4, by omega, rfl, HOR.out, H15.out, H25.out, H35.out⟩
 case round =>
  clear H1 H2 H3 HC HB1 HB2 HB3 HZ1 HZ2 HZ3 H14 H24 H34 H15 H25 H35 HC1 HC2 HC3 hi4 hl4 HOR hi0 VA LA BA
  obtain ⟨k, zs, hk, rfl, hor, hb1, hb2, hbel⟩ := hrel
  have i0' : (0 : Int) ≤ (k : Int) := Int.natCast_nonneg _
  by_cases hlt : k < 3
  ·have i1 : (k : Int) < 3 := by omega
   obtain ⟨M, hM⟩ : ∃ M, M = wr.heap.size := ⟨_, rfl⟩
   have hMA : A + 1 < M := by have := hb2.lt; omega
   have hmk := Blk.made wr (ints .i64 ((List.replicate 16 0).set 0 (zs.getD 0 0 - 65517))) 54
   rw [← hM] at hmk
   have e0 : (wr.alloc (.cells #[.int .i64 0, .int .i64 0, .int .i64 0, .int .i64 0, .int .i64 0, .int .i64 0, .int .i64 0, .int .i64 0, .int .i64 0, .int .i64 0, .int .i64 0, .int .i64 0, .int .i64 0, .int .i64 0, .int .i64 0, .int .i64 0] 54)).cell? ⟨A, 0, none⟩ = some (.int .i64 (zs.getD 0 0)) := by
    have := (hb1.alloc (.cells (ints .i64 (List.replicate 16 0)).toArray 54)).cell 0
    rw [ints_get (by have := hor.len; omega)] at this
    exact this
   have d0 := hor.dig 0 (by omega)
   have hst := SubP.start (m := List.replicate 16 0) rfl hor.len d0
   have H1 := Lib.hid (hb1.alloc (.cells (ints .i64 ((List.replicate 16 0).set 0 (zs.getD 0 0 - 65517))).toArray 54))
   have H2 := Lib.hid (hb2.alloc (.cells (ints .i64 ((List.replicate 16 0).set 0 (zs.getD 0 0 - 65517))).toArray 54))
   have H3 := Lib.hid (hbel.alloc hbel.size (.cells (ints .i64 ((List.replicate 16 0).set 0 (zs.getD 0 0 - 65517))).toArray 54))
   have H4 := Lib.hid hmk
   have HST := Lib.hid hst
   have HOR := Lib.hid hor
   generalize zs.getD 0 0 = a0 at *
   clear hb1 hb2 hbel hmk hst hor
   go_wp2_with fail
   rw [← hM]
   change Code.wp _ _ _ _ (wr.alloc (.cells (ints .i64 ((List.replicate 16 0).set 0 (a0 - 65517))).toArray 54))
   generalize wr.alloc (.cells (ints .i64 ((List.replicate 16 0).set 0 (a0 - 65517))).toArray 54) = w6 at *
   clear hM e0 d0
   obtain ⟨wo, rfl⟩ : ∃ wo : World, wo = wr := ⟨_, rfl⟩
   go_loopw [5] (fun i wr => ∃ (j : Nat) (ms : List Int), j ≤ 14 ∧ i = .int .i64 ((j + 1 : Nat) : Int) ∧ SubP zs ms j ∧ Blk wr A (ints .i64 zs) 54 ∧ Blk wr (A + 1) (ints .u8 (List.replicate 32 0)) 23 ∧ Blk wr M (ints .i64 ms) 54 ∧ Below w.heap.size w wr) (fun i _ => 16 - (intOf i).toNat)
   case atStart => exact ⟨0, _, by omega, rfl, HST.out, H1.out, H2.out, H4.out, H3.out⟩
   case round =>
    clear H1 H2 H3 H4 HST
    obtain ⟨j, ms, hj, rfl, hsp, hb1, hb2, hbm, hbel⟩ := hrel
    have hz16 := HOR.out.len
    have hm16 := hsp.len
    have j0' : (0 : Int) ≤ (j : Int) := Int.natCast_nonneg _
    by_cases hlt2 : j < 14
    ·have e1 := hb1.cell (j + 1)
     rw [ints_get (by omega)] at e1
     have e2 := hbm.cell j
     rw [ints_get (by omega)] at e2
     have e3 := hbm.cell (j + 1)
     rw [ints_get (by omega)] at e3
     have f2 := hbm.free j
     have f3 := hbm.free (j + 1)
     have d1 := HOR.out.dig (j + 1) (by omega)
     have hpL : pL.getD (j + 1) 0 = 65535 := by
      have : ∀ j, j < 14 → pL.getD (j + 1) 0 = 65535 := by decide +kernel
      exact this j hlt2
     have hst := hsp.step (by omega) hz16 d1 hpL (by omega) (by omega)
     have ht := hsp.top
     generalize zs.getD (j + 1) 0 = a at *
     generalize ms.getD j 0 = m at *
     obtain ⟨d11, d12⟩ := d1
     obtain ⟨ht1, ht2⟩ := ht
     have s1 : IntKind.i64.wrap ((j : Int) + 1 - 1) = (j : Int) := IntWalk.i64_in _ (by omega) |>.trans (by omega)
     have s2 : ((j : Int) + 1 - 1) = (j : Int) := by omega
     have s3 : ((j : Int) + 1).toNat = j + 1 := by omega
     have s4 : (0 : Int) ≤ (j : Int) + 1 := by omega
     have s5 : (j : Int) + 1 < 16 := by omega
     have s6 : (j : Int) < 16 := by omega
     have hb01 : bits .and .i64 (m / 65536) 1 = -(m / 65536) := and1 (by omega)
     have W1 : Hid (wrap64 (a - 65535 - bits .and .i64 (m / 65536) 1) = a - 65535 - bits .and .i64 (m / 65536) 1) := Lib.hid (by rw [← IntWalk.i64_left]; exact IntWalk.i64_in _ (by rw [hb01]; omega))
     have HST := Lib.hid hst
     have H1 := Lib.hid hb1
     have H2 := Lib.hid hb2
     have H3 := Lib.hid hbel
     have H4 := Lib.hid hbm
     clear hb1 hb2 hbel hbm hst hsp hpL hz16 hm16 hb01
     go_wp2_with fail
     go_region
     go_wp2_with fail
     go_roundw
     case rel =>
      rw [W1.out]
      refine ⟨j + 1, _, by omega, by go_num, HST.out, (H1.out.far (by simp; omega) _).far (by simp; omega) _, (H2.out.far (by simp; omega) _).far (by simp; omega) _, ?_, ((H3.out.setCell (by simp; omega) _).setCell (by simp; omega) _).drew⟩
      rw [← ints_set, ← ints_set]
      exact (H4.out.set (j + 1) _).set j _
     case measure => simp [intOf]; omega
    ·have hj' : j = 14 := by omega
     subst hj'
     have e1 := hb1.cell 15
     rw [ints_get (by omega)] at e1
     have e2 := hbm.cell 14
     rw [ints_get (by omega)] at e2
     have e3 := hbm.cell 15
     rw [ints_get (by omega)] at e3
     have f2 := hbm.free 14
     have f3 := hbm.free 15
     have d1 := HOR.out.dig 15 (by omega)
     have hst := hsp.step (by omega) hz16 d1 (P := 32767) rfl (by omega) (by omega)
     have ht := hsp.top
     generalize zs.getD 15 0 = a at *
     generalize ms.getD 14 0 = m at *
     obtain ⟨d11, d12⟩ := d1
     obtain ⟨ht1, ht2⟩ := ht
     have hb01 : bits .and .i64 (m / 65536) 1 = -(m / 65536) := and1 (by omega)
     have b0 : 0 ≤ bits .and .i64 (m / 65536) 1 := by rw [hb01]; omega
     have b1 : bits .and .i64 (m / 65536) 1 ≤ 1 := by rw [hb01]; omega
     have hdone := hst.done hz16
     have hlen := hst.len
     have h15 : ((ms.set 15 (a - 32767 - bits .and .i64 (m / 65536) 1)).set 14 (bits .and .i64 m 65535)).getD 15 0 = a - 32767 - bits .and .i64 (m / 65536) 1 := by
      rw [getD_set_far (by omega), getD_set_same (by omega)]
     simp only [Nat.reduceAdd] at hdone hlen
     rw [h15] at hdone
     obtain ⟨v1, v2, v3⟩ := hdone
     have H1 := Lib.hid hb1
     have H2 := Lib.hid hb2
     have H3 := Lib.hid hbel
     have H4 := Lib.hid hbm
     have V1 := Lib.hid v1
     have V2 := Lib.hid v2
     have V3 := Lib.hid v3
     have HLEN := Lib.hid hlen
     have Z16 := Lib.hid hz16
     clear hb1 hb2 hbel hbm hst hsp hz16 hm16 hb01 h15 v1 v2 v3 hlen
     have HM2 : Hid (Blk ((wr.setCell ⟨M, 15, none⟩ (.int .i64 (a - 32767 - bits .and .i64 (m / 65536) 1))).setCell ⟨M, 14, none⟩ (.int .i64 (bits .and .i64 m 65535))) M (ints .i64 ((ms.set 15 (a - 32767 - bits .and .i64 (m / 65536) 1)).set 14 (bits .and .i64 m 65535))) 54) := Lib.hid (by
      rw [← ints_set, ← ints_set]
      exact (H4.out.set 15 _).set 14 _)
     have HA2 := Lib.hid ((H1.out.far (a := ⟨M, 15, none⟩) (by simp; omega) (.int .i64 (a - 32767 - bits .and .i64 (m / 65536) 1))).far (a := ⟨M, 14, none⟩) (by simp; omega) (.int .i64 (bits .and .i64 m 65535)))
     have HN2 := Lib.hid ((H2.out.far (a := ⟨M, 15, none⟩) (by simp; omega) (.int .i64 (a - 32767 - bits .and .i64 (m / 65536) 1))).far (a := ⟨M, 14, none⟩) (by simp; omega) (.int .i64 (bits .and .i64 m 65535)))
     have HBE2 : Hid (Below w.heap.size w ((wr.setCell ⟨M, 15, none⟩ (.int .i64 (a - 32767 - bits .and .i64 (m / 65536) 1))).setCell ⟨M, 14, none⟩ (.int .i64 (bits .and .i64 m 65535)))) := Lib.hid ((H3.out.setCell (by simp; omega) _).setCell (by simp; omega) _)
     have hiN : Hid ((Tryd.prog.info? 54).map (·.size) = some (ints .i64 ((ms.set 15 (a - 32767 - bits .and .i64 (m / 65536) 1)).set 14 (bits .and .i64 m 65535))).length) := Lib.hid (by rw [ints_length, HLEN.out]; exact Tryd.arr54)
     have hlN : Hid ((ints .i64 ((ms.set 15 (a - 32767 - bits .and .i64 (m / 65536) 1)).set 14 (bits .and .i64 m 65535))).length = (ints .i64 zs).length) := Lib.hid (by rw [ints_length, ints_length, HLEN.out, Z16.out])
     by_cases hge : 0 ≤ a - 32767 - bits .and .i64 (m / 65536) 1
     ·have hge2 : bits .and .i64 (m / 65536) 1 ≤ a - 32767 := by omega
      go_wp2_with (first | (refine wpList_load_blk rfl _ _ rfl M rfl _ _ _ _ HM2.out Tryd.underlying54 hiN.out ?_) | (refine wpList_store_blk rfl _ _ _ rfl A _ rfl rfl _ _ HA2.out hlN.out hiN.out (ints_one _ _) ?_; intro w7 hb7 hg7))
      go_roundw
      case rel => exact ⟨k + 1, _, by omega, by go_num, HOR.out.less hlt HLEN.out (V3.out hge) V1.out (V2.out.1 hge), hb7, HN2.out.grown hg7 (by simp), HBE2.out.grown hg7 HBE2.out.size (fun r hr => by cases hr; omega)⟩
      case measure => simp [intOf]; omega
     ·have hlt3 : a - 32767 - bits .and .i64 (m / 65536) 1 < 0 := by omega
      go_wp2_with fail
      go_roundw
      case rel => exact ⟨k + 1, zs, by omega, by go_num, HOR.out.keep hlt (fun h => hge (V2.out.2 h)), HA2.out, HN2.out, HBE2.out⟩
      case measure => simp [intOf]; omega
  ·have hk' : k = 3 := by omega
   subst hk'
   obtain ⟨N, hN⟩ : ∃ N, N = wr.heap.size := ⟨_, rfl⟩
   have hNA : A + 1 < N := by have := hb2.lt; omega
   have hmk := Blk.made wr (ints .u8 (List.replicate 32 0)) 23
   rw [← hN] at hmk
   have H1 := Lib.hid (hb1.alloc (.cells (ints .u8 (List.replicate 32 0)).toArray 23))
   have H2 := Lib.hid (hb2.alloc (.cells (ints .u8 (List.replicate 32 0)).toArray 23))
   have H3 := Lib.hid (hbel.alloc hbel.size (.cells (ints .u8 (List.replicate 32 0)).toArray 23))
   have H4 := Lib.hid hmk
   have HOR := Lib.hid hor
   clear hb1 hb2 hbel hmk hor
   go_wp2_with fail
   rw [← hN]
   change Code.wp _ _ _ _ (wr.alloc (.cells (ints .u8 (List.replicate 32 0)).toArray 23))
   generalize wr.alloc (.cells (ints .u8 (List.replicate 32 0)).toArray 23) = w6 at *
   clear hN
   obtain ⟨wo, rfl⟩ : ∃ wo : World, wo = wr := ⟨_, rfl⟩
   go_loopw [7] (fun i wr => ∃ (j : Nat) (bs : List Int), j ≤ 16 ∧ i = .int .i64 j ∧ OutB zs bs j ∧ Blk wr A (ints .i64 zs) 54 ∧ Blk wr (A + 1) (ints .u8 (List.replicate 32 0)) 23 ∧ Blk wr N (ints .u8 bs) 23 ∧ Below w.heap.size w wr) (fun i _ => 16 - (intOf i).toNat)
   case atStart => exact ⟨0, _, by omega, rfl, ⟨rfl, fun j hj => by omega⟩, H1.out, H2.out, H4.out, H3.out⟩
   case round =>
    clear H1 H2 H3 H4
    obtain ⟨j, bs, hj, rfl, hob, hb1, hb2, hbn, hbel⟩ := hrel
    have hz16 := HOR.out.len
    have hb32 := hob.len
    have j0' : (0 : Int) ≤ (j : Int) := Int.natCast_nonneg _
    by_cases hlt2 : j < 16
    ·have e1 := hb1.cell j
     rw [ints_get (by omega)] at e1
     have e2 := hbn.cell (2 * j)
     rw [ints_get (by omega)] at e2
     have e3 := hbn.cell (2 * j + 1)
     rw [ints_get (by omega)] at e3
     have f2 := hbn.free (2 * j)
     have f3 := hbn.free (2 * j + 1)
     have j1 : (j : Int) < 16 := by omega
     have s3 : (2 * (j : Int)).toNat = 2 * j := by omega
     have s4 : (2 * (j : Int) + 1).toNat = 2 * j + 1 := by omega
     have s5 : (0 : Int) ≤ 2 * (j : Int) := by omega
     have s6 : (0 : Int) ≤ 2 * (j : Int) + 1 := by omega
     have s7 : 2 * (j : Int) < 32 := by omega
     have s8 : 2 * (j : Int) + 1 < 32 := by omega
     have hst := hob.step hlt2
     generalize zs.getD j 0 = a at *
     have HST := Lib.hid hst
     have H1 := Lib.hid hb1
     have H2 := Lib.hid hb2
     have H3 := Lib.hid hbel
     have H4 := Lib.hid hbn
     clear hb1 hb2 hbel hbn hst hob hz16 hb32
     go_wp2_with fail
     go_roundw
     case rel =>
      refine ⟨j + 1, _, by omega, by go_num, HST.out, (H1.out.far (by simp; omega) _).far (by simp; omega) _, (H2.out.far (by simp; omega) _).far (by simp; omega) _, ?_, (H3.out.setCell (by simp; omega) _).setCell (by simp; omega) _⟩
      rw [← ints_set, ← ints_set]
      exact (H4.out.set (2 * j) _).set (2 * j + 1) _
     case measure => simp [intOf]; omega
    ·have hj' : j = 16 := by omega
     subst hj'
     have hfin := hob.done HOR.out
     have hi1 : Hid ((Tryd.prog.info? 23).map (·.size) = some (ints .u8 bs).length) := Lib.hid (by rw [ints_length, hb32]; exact Tryd.arr23)
     have hl1 : Hid ((ints .u8 bs).length = (ints .u8 (List.replicate 32 0)).length) := Lib.hid (by rw [ints_length, ints_length, hb32]; rfl)
     have H2 := Lib.hid hb2
     have H3 := Lib.hid hbel
     have H4 := Lib.hid hbn
     have HF := Lib.hid hfin
     clear hb1 hb2 hbel hbn hob hz16 hb32 hfin
     go_wp2_with (first | (refine wpList_load_blk rfl _ _ rfl N rfl _ _ _ _ H4.out Tryd.underlying23 hi1.out ?_) | (refine wpList_store_blk rfl _ _ _ rfl (A + 1) _ rfl rfl _ _ H2.out hl1.out hi1.out (ints_one _ _) ?_; intro w7 hb7 hg7))
     exact bodyPost_ret (v := .agg (ints .u8 bs).toArray) (result_blk (by rfl) _ (A + 1) _ _ _ _ (by rfl) hb7 Tryd.underlying23 hi1.out) rfl ⟨by rw [HF.out], H3.out.grown hg7 H3.out.size (fun r hr => by cases hr; omega)⟩
theorem half_step {E k : Nat} (hk : k < 256) : E / 2 ^ (255 - k) = 2 * (E / 2 ^ (256 - k)) + E / 2 ^ (255 - k) % 2 := by
 have e : E / 2 ^ (256 - k) = E / 2 ^ (255 - k) / 2 := by
  rw [Nat.div_div_eq_div_mul, ← Nat.pow_succ]
  congr 2
  omega
 rw [e]
 omega
theorem el_len {zs : List Int} {x : Int} (h : IsEl (.agg (ints .i64 zs).toArray) x) : zs.length = 16 := by
 obtain ⟨zs', e, h, _⟩ := h
 have := congrArg (fun v : Value => match v with | .agg c => c.size | _ => 0) e
 simp [ints] at this
 omega
set_option maxRecDepth 100000 in
set_option maxHeartbeats 4000000 in
theorem rpow_any (u : Value) (x : Int) (l : List UInt8) (w : World) (hu : IsEl u x) (hl : l.length = 32) :
  Calls Tryd.prog 91 #[u, .agg (l.map bval).toArray] w fun e w' => ∃ r, e = .returned r ∧ IsEl r (x ^ leN l) ∧ Below w.heap.size w w' := by
 have HU := Lib.hid hu
 obtain ⟨xs, rfl, la, ba, qa, va⟩ := hu
 have HL := Lib.hid hl
 have LA := Lib.hid la
 have HBX := Lib.hid (boxes3 w (ints .i64 xs) (l.map bval) (ints .i64 (List.replicate 16 0)) 54 23 54)
 have HONE := Lib.hid (rone_el 1 (((w.alloc (.cells (ints .i64 xs).toArray 54)).alloc (.cells (l.map bval).toArray 23)).alloc (.cells (ints .i64 (List.replicate 16 0)).toArray 54)) (by omega) (by omega))
 clear la ba va hl
 go_enter Tryd.func91, Tryd.ntmps91
 go_wp2_with fail
 change Calls _ _ _ (((w.alloc (.cells (ints .i64 xs).toArray 54)).alloc (.cells (l.map bval).toArray 23)).alloc (.cells (ints .i64 (List.replicate 16 0)).toArray 54)) _
 generalize ((w.alloc (.cells (ints .i64 xs).toArray 54)).alloc (.cells (l.map bval).toArray 23)).alloc (.cells (ints .i64 (List.replicate 16 0)).toArray 54) = w0 at *
 obtain ⟨h1, h2, h3, h4⟩ := HBX.out
 obtain ⟨A, hA⟩ : ∃ A, A = w.heap.size := ⟨_, rfl⟩
 rw [← hA] at h1 h2 h3 ⊢
 have hA2 : w.heap.size ≤ A := by omega
 have H1 := Lib.hid h1
 have H2 := Lib.hid h2
 have H3 := Lib.hid h3
 have H4 := Lib.hid h4
 clear h1 h2 h3 h4 HBX hA
 refine HONE.out.mono ?_
 rintro e w1 ⟨r1, rfl, hr1, hb1⟩
 obtain ⟨z1, rfl, lz1, bz1, qz1, vz1⟩ := id hr1
 obtain ⟨X, hX⟩ : ∃ X, X = w1.heap.size := ⟨_, rfl⟩
 have h11 := H1.out.same (hb1.block _ H1.out.lt)
 have h21 := H2.out.same (hb1.block _ H2.out.lt)
 have h31 := H3.out.same (hb1.block _ H3.out.lt)
 have hXA : A + 1 + 1 < X := by have := h31.lt; omega
 have hmk := Blk.made w1 (ints .i64 (List.replicate 16 0)) 54
 have hbel := H4.out.trans (hb1.mono H4.out.size)
 have K1 := Lib.hid (h11.alloc (.cells (ints .i64 (List.replicate 16 0)).toArray 54))
 have K2 := Lib.hid (h21.alloc (.cells (ints .i64 (List.replicate 16 0)).toArray 54))
 have K3 := Lib.hid (h31.alloc (.cells (ints .i64 (List.replicate 16 0)).toArray 54))
 have K4 := Lib.hid (hbel.alloc hbel.size (.cells (ints .i64 (List.replicate 16 0)).toArray 54))
 have K5 := Lib.hid hmk
 have hi1 : Hid ((Tryd.prog.info? 54).map (·.size) = some (ints .i64 z1).length) := Lib.hid (by rw [ints_length, lz1]; exact Tryd.arr54)
 have hl1 : Hid ((ints .i64 z1).length = (ints .i64 (List.replicate 16 0)).length) := Lib.hid (by rw [ints_length, ints_length, lz1]; rfl)
 have HR1 := Lib.hid hr1
 clear hb1 h11 h21 h31 hmk hbel lz1 bz1 vz1 hr1
 go_wp2_with (refine wpList_store_blk rfl _ _ _ rfl w1.heap.size (ints .i64 z1) rfl rfl _ _ K5.out hl1.out hi1.out (ints_one _ _) ?_; intro w5 hb5 hg5)
 rw [← hX] at hb5 hg5 ⊢
 have J1 := Lib.hid (K1.out.grown hg5 (by simp; omega))
 have J2 := Lib.hid (K2.out.grown hg5 (by simp; omega))
 have J3 := Lib.hid (K3.out.grown hg5 (by simp; omega))
 have J4 := Lib.hid (K4.out.grown hg5 K4.out.size (fun r hr => by cases hr; omega))
 have J5 := Lib.hid hb5
 have hE : leN l < 2 ^ 256 := by
  have := leN_lt l
  rw [HL.out] at this
  have e : (256 : Nat) ^ 32 = 2 ^ 256 := by decide +kernel
  rw [e] at this
  exact this
 have HE := Lib.hid hE
 clear hb5 hg5 hX K1 K2 K3 K4 K5 H1 H2 H3 H4 hl1 hi1 HONE hE
 go_loopw [6] (fun i wr => ∃ (k : Nat) (zs : List Int), k ≤ 256 ∧ i = .int .i64 (255 - (k : Int)) ∧ IsEl (.agg (ints .i64 zs).toArray) (x ^ (leN l / 2 ^ (256 - k))) ∧ Blk wr A (ints .i64 xs) 54 ∧ Blk wr (A + 1) (l.map bval) 23 ∧ Blk wr (A + 1 + 1) (ints .i64 (List.replicate 16 0)) 54 ∧ Blk wr X (ints .i64 zs) 54 ∧ Below w.heap.size w wr) (fun i _ => (intOf i + 1).toNat)
 case atStart => exact ⟨0, z1, by omega, rfl, by rw [Nat.sub_zero, Nat.div_eq_of_lt HE.out, Int.pow_zero]; exact HR1.out, J1.out, J2.out, J3.out, J5.out, J4.out⟩
 case round =>
  clear J1 J2 J3 J4 J5 HR1
  obtain ⟨k, zs, hk, rfl, hel, hb1, hb2, hb3, hbx, hbel⟩ := hrel
  have i0' : (0 : Int) ≤ (k : Int) := Int.natCast_nonneg _
  by_cases hlt : k < 256
  ·have i1 : (0 : Int) ≤ 255 - (k : Int) := by omega
   have i2 : (k : Int) ≤ 255 := by omega
   have hsq := rmul_any _ _ _ _ wr hel hel
   have hzl : zs.length = 16 := by
    obtain ⟨zs', e, h, _⟩ := hel
    have := congrArg (fun v : Value => match v with | .agg c => c.size | _ => 0) e
    simp [ints] at this
    omega
   have e1 := hb2.cell ((255 - k) / 8)
   rw [bval_get (by have := HL.out; omega)] at e1
   have H1 := Lib.hid hb1
   have H2 := Lib.hid hb2
   have H3 := Lib.hid hb3
   have HX := Lib.hid hbx
   have HB := Lib.hid hbel
   have HEL := Lib.hid hel
   have HSQ := Lib.hid hsq
   have hiz : Hid ((Tryd.prog.info? 54).map (·.size) = some (ints .i64 zs).length) := Lib.hid (by rw [ints_length, hzl]; exact Tryd.arr54)
   clear hb1 hb2 hb3 hbx hbel hel hsq
   go_wp2_with (refine wpList_load_blk rfl _ _ rfl X rfl _ _ _ _ HX.out Tryd.underlying54 hiz.out ?_)
   refine HSQ.out.mono ?_
   rintro e w6 ⟨r6, rfl, hr6, hb6⟩
   obtain ⟨z6, rfl, lz6, bz6, qz6, vz6⟩ := id hr6
   have e16 := hb6.cell (p := ⟨A + 1, (255 - k) / 8, none⟩) (H2.out.lt)
   rw [e1] at e16
   have K1 := Lib.hid (H1.out.same (hb6.block _ H1.out.lt))
   have K2 := Lib.hid (H2.out.same (hb6.block _ H2.out.lt))
   have K3 := Lib.hid (H3.out.same (hb6.block _ H3.out.lt))
   have KX := Lib.hid (HX.out.same (hb6.block _ HX.out.lt))
   have KB := Lib.hid (HB.out.trans (hb6.mono HB.out.size))
   have hi6 : Hid ((Tryd.prog.info? 54).map (·.size) = some (ints .i64 z6).length) := Lib.hid (by rw [ints_length, lz6]; exact Tryd.arr54)
   have hl6 : Hid ((ints .i64 z6).length = (ints .i64 zs).length) := Lib.hid (by rw [ints_length, ints_length, lz6, hzl])
   have HR6 := Lib.hid hr6
   clear hb6 lz6 bz6 vz6 hr6 e1 H1 H2 H3 HX HB hzl
   generalize hbt : (l.getD ((255 - k) / 8) 0).toNat = bt at *
   have HBT := Lib.hid hbt
   clear hbt
   have s1 : ((255 - (k : Int)) / 8).toNat = (255 - k) / 8 := by omega
   have s2 : (0 : Int) ≤ (255 - (k : Int)) / 8 := by omega
   have s3 : (255 - (k : Int)) / 8 < 32 := by omega
   have s4 : (0 : Int) ≤ (255 - (k : Int)) % 8 := by omega
   have s5 : (255 - (k : Int)) % 8 < 8 := by omega
   have hsplit := half_step (E := leN l) hlt
   have hbit := leN_bit l (255 - k) (by have := HL.out; omega)
   rw [HBT.out] at hbit
   have hcast : (bt : Int) / 2 ^ ((255 - k) % 8) = ((bt / 2 ^ ((255 - k) % 8) : Nat) : Int) := by
    rw [Int.natCast_ediv, Int.natCast_pow]
    rfl
   have e255 : 256 - (k + 1) = 255 - k := by omega
   by_cases hb1 : leN l / 2 ^ (255 - k) % 2 = 1
   ·have hq : (bits .and .u8 ((bt : Int) / 2 ^ ((255 - k) % 8)) 1 == 1) = true := by
     rw [hcast, andU1, ← hbit, hb1]
     rfl
    have hgoal : Hid (x ^ (leN l / 2 ^ (256 - (k + 1))) = x ^ (leN l / 2 ^ (256 - k)) * x ^ (leN l / 2 ^ (256 - k)) * x) := Lib.hid (by
     rw [e255, hsplit, hb1, Int.pow_succ, Nat.two_mul, Int.pow_add])
    have hiX : Hid ((Tryd.prog.info? 54).map (·.size) = some (ints .i64 xs).length) := Lib.hid (by rw [ints_length, LA.out]; exact Tryd.arr54)
    clear hsplit hbit hcast e255 hb1
    go_wp2_with (first | (refine wpList_store_blk rfl _ _ _ rfl X (ints .i64 z6) rfl rfl _ _ KX.out hl6.out hi6.out (ints_one _ _) ?_; intro w7 hb7 hg7; have e7 := (hg7.cell_far ⟨A + 1, (255 - k) / 8, none⟩ (K2.out.lt) (by simp; omega)).trans e16; have k7 := K1.out.grown hg7 (by simp; omega)) | (refine wpList_load_blk rfl _ _ rfl X rfl _ _ _ _ hb7 Tryd.underlying54 hi6.out ?_) | (refine wpList_load_blk rfl _ _ rfl A rfl _ _ _ _ k7 Tryd.underlying54 hiX.out ?_))
    have L2 := Lib.hid (K2.out.grown hg7 (by simp; omega))
    have L3 := Lib.hid (K3.out.grown hg7 (by simp; omega))
    have LB := Lib.hid (KB.out.grown hg7 KB.out.size (fun r hr => by cases hr; omega))
    have LX := Lib.hid hb7
    have L1 := Lib.hid k7
    have HM := Lib.hid (rmul_any _ _ _ _ w7 HR6.out HU.out)
    clear hb7 hg7 e7 k7 e16
    refine HM.out.mono ?_
    rintro e w8 ⟨r8, rfl, hr8, hb8⟩
    obtain ⟨z8, rfl, lz8, bz8, qz8, vz8⟩ := id hr8
    have M1 := Lib.hid (L1.out.same (hb8.block _ L1.out.lt))
    have M2 := Lib.hid (L2.out.same (hb8.block _ L2.out.lt))
    have M3 := Lib.hid (L3.out.same (hb8.block _ L3.out.lt))
    have MX := Lib.hid (LX.out.same (hb8.block _ LX.out.lt))
    have MB := Lib.hid (LB.out.trans (hb8.mono LB.out.size))
    have hi8 : Hid ((Tryd.prog.info? 54).map (·.size) = some (ints .i64 z8).length) := Lib.hid (by rw [ints_length, lz8]; exact Tryd.arr54)
    have hl8 : Hid ((ints .i64 z8).length = (ints .i64 z6).length) := Lib.hid (by rw [ints_length, ints_length, lz8, el_len HR6.out])
    have HR8 := Lib.hid hr8
    clear hb8 lz8 bz8 vz8 hr8
    go_wp2_with (refine wpList_store_blk rfl _ _ _ rfl X (ints .i64 z8) rfl rfl _ _ MX.out hl8.out hi8.out (ints_one _ _) ?_; intro w9 hb9 hg9)
    go_roundw
    case rel => exact ⟨k + 1, z8, by omega, by go_num, by rw [hgoal.out]; exact HR8.out, M1.out.grown hg9 (by simp; omega), M2.out.grown hg9 (by simp; omega), M3.out.grown hg9 (by simp; omega), hb9, MB.out.grown hg9 MB.out.size (fun r hr => by cases hr; omega)⟩
    case measure => simp [intOf]; omega
   ·have hb0 : leN l / 2 ^ (255 - k) % 2 = 0 := by omega
    have hq : (bits .and .u8 ((bt : Int) / 2 ^ ((255 - k) % 8)) 1 == 1) = false := by
     rw [hcast, andU1, ← hbit, hb0]
     rfl
    have hgoal : Hid (x ^ (leN l / 2 ^ (256 - (k + 1))) = x ^ (leN l / 2 ^ (256 - k)) * x ^ (leN l / 2 ^ (256 - k))) := Lib.hid (by
     rw [e255, hsplit, hb0, Nat.add_zero, Nat.two_mul, Int.pow_add])
    clear hsplit hbit hcast e255 hb1 hb0
    go_wp2_with (refine wpList_store_blk rfl _ _ _ rfl X (ints .i64 z6) rfl rfl _ _ KX.out hl6.out hi6.out (ints_one _ _) ?_; intro w7 hb7 hg7; have e7 := (hg7.cell_far ⟨A + 1, (255 - k) / 8, none⟩ (K2.out.lt) (by simp; omega)).trans e16)
    go_roundw
    case rel => exact ⟨k + 1, z6, by omega, by go_num, by rw [hgoal.out]; exact HR6.out, K1.out.grown hg7 (by simp; omega), K2.out.grown hg7 (by simp; omega), K3.out.grown hg7 (by simp; omega), hb7, KB.out.grown hg7 KB.out.size (fun r hr => by cases hr; omega)⟩
    case measure => simp [intOf]; omega
  ·have hk' : k = 256 := by omega
   subst hk'
   have hzl := el_len hel
   have HX := Lib.hid hbx
   have H3 := Lib.hid hb3
   have HB := Lib.hid hbel
   have HEL : Hid (IsEl (.agg (ints .i64 zs).toArray) (x ^ leN l)) := Lib.hid (by simpa using hel)
   have hiz : Hid ((Tryd.prog.info? 54).map (·.size) = some (ints .i64 zs).length) := Lib.hid (by rw [ints_length, hzl]; exact Tryd.arr54)
   have hlz : Hid ((ints .i64 zs).length = (ints .i64 (List.replicate 16 0)).length) := Lib.hid (by rw [ints_length, ints_length, hzl]; rfl)
   clear hb1 hb2 hb3 hbx hbel hel hzl
   go_wp2_with (first | (refine wpList_load_blk rfl _ _ rfl X rfl _ _ _ _ HX.out Tryd.underlying54 hiz.out ?_) | (refine wpList_store_blk rfl _ _ _ rfl (A + 1 + 1) _ rfl rfl _ _ H3.out hlz.out hiz.out (ints_one _ _) ?_; intro w7 hb7 hg7))
   exact bodyPost_ret (v := .agg (ints .i64 zs).toArray) (result_blk (by rfl) _ (A + 1 + 1) _ _ _ _ (by rfl) hb7 Tryd.underlying54 hiz.out) rfl ⟨_, rfl, HEL.out, HB.out.grown hg7 HB.out.size (fun r hr => by cases hr; omega)⟩
structure FullB (bs : List Int) (k : Nat) : Prop where
 len : bs.length = 32
 low : ∀ j, j < k → bs.getD j 0 = 255
theorem FullB.step {bs : List Int} {k : Nat} (h : FullB bs k) (hk : k < 32) : FullB (bs.set k 255) (k + 1) := by
 obtain ⟨h1, h2⟩ := h
 refine ⟨by simp [h1], fun j hj => ?_⟩
 by_cases e : j = k
 ·subst e
  rw [getD_set_same (by omega)]
 ·rw [getD_set_far (by omega)]
  exact h2 j (by omega)
theorem FullB.done {bs : List Int} (h : FullB bs 32) : bs = List.replicate 32 255 := by
 apply List.ext_getElem?
 intro i
 by_cases hi : i < 32
 ·have := h.low i hi
  have hl := h.len
  rw [List.getElem?_eq_getElem (by omega), List.getElem?_replicate, if_pos hi]
  simpa [List.getD, show i < bs.length from by omega] using this
 ·rw [List.getElem?_eq_none (by have := h.len; omega), List.getElem?_eq_none (by simp; omega)]
set_option maxRecDepth 100000 in
set_option maxHeartbeats 2000000 in
theorem rmost_any (w : World) : Calls Tryd.prog 92 #[.int .i64 21] w fun e w' => e = .returned (.agg ((bytesN 32 (pP - 2).toNat).map bval).toArray) ∧ Below w.heap.size w w' := by
 have HBX := Lib.hid (boxes2 w (ints .u8 (List.replicate 32 0)) (ints .u8 (List.replicate 32 0)) 23 23)
 go_enter Tryd.func92, Tryd.ntmps92
 go_wp2_with fail
 change Code.wp _ _ _ _ ((w.alloc (.cells (ints .u8 (List.replicate 32 0)).toArray 23)).alloc (.cells (ints .u8 (List.replicate 32 0)).toArray 23))
 generalize (w.alloc (.cells (ints .u8 (List.replicate 32 0)).toArray 23)).alloc (.cells (ints .u8 (List.replicate 32 0)).toArray 23) = w0 at *
 obtain ⟨h1, h2, h3⟩ := HBX.out
 obtain ⟨A, hA⟩ : ∃ A, A = w.heap.size := ⟨_, rfl⟩
 rw [← hA] at h1 h2 ⊢
 have hA2 : w.heap.size ≤ A := by omega
 have H1 := Lib.hid h1
 have H2 := Lib.hid h2
 have H3 := Lib.hid h3
 clear h1 h2 h3 HBX hA
 go_loopw [4] (fun i wr => ∃ (k : Nat) (bs : List Int), k ≤ 32 ∧ i = .int .i64 k ∧ FullB bs k ∧ Blk wr A (ints .u8 (List.replicate 32 0)) 23 ∧ Blk wr (A + 1) (ints .u8 bs) 23 ∧ Below w.heap.size w wr) (fun i _ => 32 - (intOf i).toNat)
 case atStart => exact ⟨0, _, by omega, rfl, ⟨rfl, fun j hj => by omega⟩, H1.out, H2.out, H3.out⟩
 case round =>
  clear H1 H2 H3
  obtain ⟨k, bs, hk, rfl, hfb, hb1, hb2, hbel⟩ := hrel
  have i0' : (0 : Int) ≤ (k : Int) := Int.natCast_nonneg _
  have hlen := hfb.len
  by_cases hlt : k < 32
  ·have i1 : (k : Int) < 32 := by omega
   have e1 := hb2.cell k
   rw [ints_get (by omega)] at e1
   have f1 := hb2.free k
   have hst := hfb.step hlt
   have HST := Lib.hid hst
   have H1 := Lib.hid hb1
   have H2 := Lib.hid hb2
   have H3 := Lib.hid hbel
   clear hb1 hb2 hbel hfb hst hlen
   go_wp2_with fail
   go_roundw
   case rel =>
    refine ⟨k + 1, _, by omega, by go_num, HST.out, H1.out.far (by simp) _, ?_, H3.out.setCell (by simp; omega) _⟩
    rw [← ints_set]
    exact H2.out.set k _
   case measure => simp [intOf]; omega
  ·have hk' : k = 32 := by omega
   subst hk'
   have hd := hfb.done
   subst hd
   have e1 : wr.cell? ⟨A + 1, 31, none⟩ = some (.int .u8 255) := by rw [hb2.cell 31]; rfl
   have e2 : wr.cell? ⟨A + 1, 0, none⟩ = some (.int .u8 255) := by rw [hb2.cell 0]; rfl
   have f1 := hb2.free 31
   have f2 := hb2.free 0
   have hb3 := (hb2.set 31 (.int .u8 127)).set 0 (.int .u8 235)
   have hb4 := (hb1.far (a := ⟨A + 1, 31, none⟩) (by simp) (.int .u8 127)).far (a := ⟨A + 1, 0, none⟩) (by simp) (.int .u8 235)
   rw [ints_set, ints_set] at hb3
   have e3 : ints .u8 (((List.replicate 32 255).set 31 127).set 0 235) = (bytesN 32 (pP - 2).toNat).map bval := by kernel_rfl
   rw [e3] at hb3
   have hb5 : Below w.heap.size w ((wr.setCell ⟨A + 1, 31, none⟩ (.int .u8 127)).setCell ⟨A + 1, 0, none⟩ (.int .u8 235)) := (hbel.setCell (by simp; omega) _).setCell (by simp; omega) _
   have H3 := Lib.hid hb3
   have H4 := Lib.hid hb4
   have H5 := Lib.hid hb5
   have hi1 : Hid ((Tryd.prog.info? 23).map (·.size) = some ((bytesN 32 (pP - 2).toNat).map bval).length) := Lib.hid (by rw [List.length_map, bytesN_length]; exact Tryd.arr23)
   have hl1 : Hid (((bytesN 32 (pP - 2).toNat).map bval).length = (ints .u8 (List.replicate 32 0)).length) := Lib.hid (by rw [List.length_map, bytesN_length]; rfl)
   clear hb1 hb2 hb3 hb4 hb5 hbel hfb hlen e3
   go_wp2_with (first | (refine wpList_load_blk rfl _ _ rfl (A + 1) rfl _ _ _ _ H3.out Tryd.underlying23 hi1.out ?_) | (refine wpList_store_blk rfl _ _ _ rfl A _ rfl rfl _ _ H4.out hl1.out hi1.out (bval_one _) ?_; intro w7 hb7 hg7))
   exact bodyPost_ret (v := .agg ((bytesN 32 (pP - 2).toNat).map bval).toArray) (result_blk (by rfl) _ A _ _ _ _ (by rfl) hb7 Tryd.underlying23 hi1.out) rfl ⟨rfl, H5.out.grown hg7 H5.out.size (fun r hr => by cases hr; omega)⟩
theorem fld_leN_p2 : leN (bytesN 32 (pP - 2).toNat) = (pP - 2).toNat := by decide +kernel
set_option maxRecDepth 100000 in
set_option maxHeartbeats 2000000 in
theorem rinv_any (u : Value) (x : Int) (w : World) (hu : IsEl u x) :
  Calls Tryd.prog 53 #[u] w fun e w' => ∃ r, e = .returned r ∧ IsEl r (x ^ (pP - 2).toNat) ∧ Below w.heap.size w w' := by
 have HUE := Lib.hid hu
 obtain ⟨xs, rfl, la, ba, qa, va⟩ := hu
 have hu := Tryd.underlying54
 have hi1 : (Tryd.prog.info? 54).map (·.size) = some (ints .i64 xs).length := by rw [ints_length, la]; exact Tryd.arr54
 have HU := Lib.hid hu
 have HI1 := Lib.hid hi1
 have HBX := Lib.hid (boxes2 w (ints .i64 xs) (ints .i64 (List.replicate 16 0)) 54 54)
 clear la ba va hu hi1
 go_enter Tryd.func53, Tryd.ntmps53
 go_wp2_with fail
 change Code.wp _ _ _ _ ((w.alloc (.cells (ints .i64 xs).toArray 54)).alloc (.cells (ints .i64 (List.replicate 16 0)).toArray 54))
 generalize (w.alloc (.cells (ints .i64 xs).toArray 54)).alloc (.cells (ints .i64 (List.replicate 16 0)).toArray 54) = w0 at *
 obtain ⟨h1, h2, h4⟩ := HBX.out
 obtain ⟨A, hA⟩ : ∃ A, A = w.heap.size := ⟨_, rfl⟩
 rw [← hA] at h1 h2 ⊢
 have hA2 : w.heap.size ≤ A := by omega
 have H1 := Lib.hid h1
 have H3 := Lib.hid h2
 have H4 := Lib.hid h4
 clear h1 h2 h4 HBX hA
 have hi1 := HI1.out
 have hu := HU.out
 have B0 : Below w0.heap.size w0 w0.drew := (Below.refl _ _).drew
 refine wp_region_held_drew (S := fun w' => w'.rangeAt A 0 (ints .i64 xs)) (by kernel_rfl) (bl_range H1.out B0) (fun hHeld => ?_)
 refine wpAnyH_take (i := 0) (v := .agg (ints .i64 xs).toArray) rfl (by kernel_rfl) (by kernel_rfl) (by kernel_rfl) (fun _ _ _ h => h) (yieldsIf_load_mid (by rfl) _ _ rfl A 0 rfl _ _ (fun w h => h) hu rfl hi1) hHeld ?_
 try simp only [Act.put, nrm]
 refine wpAnyH_ready (rs := [1]) (by kernel_rfl) (by simp) (AllReadyH.cons rfl (fun K hK => ?_) AllReadyH.nil)
 go_simp
 refine (rmost_any _).mono ?_
 rintro e w1 ⟨rfl, b1⟩
 have B1 := B0.trans (b1.mono B0.size)
 refine hK.out _ _ (bl_range H1.out B1) (fun hHeld => ?_)
 clear hK K hHeld
 try simp only [Act.put, nrm]
 refine wpAnyH_ready (rs := [2]) (by kernel_rfl) (by simp) (AllReadyH.cons rfl (fun K hK => ?_) AllReadyH.nil)
 go_simp
 refine (rpow_any _ _ _ _ HUE.out (bytesN_length 32 (pP - 2).toNat)).mono ?_
 rintro e w2 ⟨r2, rfl, e2, b2⟩
 rw [fld_leN_p2] at e2
 obtain ⟨z2, rfl, lz2, bz2, qz2, vz2⟩ := id e2
 have B2 := B1.trans (b2.mono B1.size)
 refine hK.out _ _ (bl_range H1.out B2) (fun hHeld => ?_)
 clear hK K hHeld
 try simp only [Act.put, nrm]
 refine wpAnyH_ready (rs := [3]) (by kernel_rfl) (by simp) (AllReadyH.cons rfl (fun K hK => ?_) AllReadyH.nil)
 have hi2 : (Tryd.prog.info? 54).map (·.size) = some (ints .i64 z2).length := by rw [ints_length, lz2]; exact Tryd.arr54
 rw [if_pos (by rfl)]
 refine wp_store_blk _ _ _ rfl (A + 1) (ints .i64 z2) rfl rfl _ _ (bl_blk H3.out B2) (by rw [ints_length, ints_length, lz2]; rfl) hi2 (ints_one _ _) ?_
 intro w5 hb5 hg5
 refine hK.out _ _ ((bl_blk H1.out B2).grown hg5 (by simp)).range (fun hHeld => ?_)
 clear hK K hHeld
 refine wpAnyH_done (by kernel_rfl) ?_ _
 have HB5 := Lib.hid ((H4.out.trans (B2.mono H4.out.size)).grown hg5 (Nat.le_trans H4.out.size B2.size) (fun r hr => by cases hr; omega))
 have HI2 := Lib.hid hi2
 have HBB := Lib.hid hb5
 have HE2 := Lib.hid e2
 clear hi1 hu hi2 hb5 hg5 e2 vz2 bz2 lz2
 go_wp2_with fail
 exact bodyPost_ret (v := .agg (ints .i64 z2).toArray) (result_blk (by rfl) _ (A + 1) _ _ _ _ (by rfl) HBB.out HU.out HI2.out) rfl ⟨_, rfl, HE2.out, HB5.out⟩
set_option maxHeartbeats 2000000 in
theorem radd_any (u v : Value) (x y : Int) (w : World) (hu : IsEl u x) (hv : IsEl v y) :
  Calls Tryd.prog 73 #[u, v] w fun e w' => ∃ r, e = .returned r ∧ IsEl r (x + y) ∧ Below w.heap.size w w' := by
 obtain ⟨xs, rfl, la, ba, qa, va⟩ := hu
 obtain ⟨ys, rfl, lb, bb, qb, vb⟩ := hv
 have HA := Lib.hid ba
 have HB := Lib.hid bb
 have LA := Lib.hid la
 have LB := Lib.hid lb
 have VA := Lib.hid va
 have VB := Lib.hid vb
 have HBX := Lib.hid (boxes3 w (ints .i64 xs) (ints .i64 ys) (ints .i64 (List.replicate 16 0)) 54 54 54)
 clear ba bb la lb va vb
 go_enter Tryd.func73, Tryd.ntmps73
 go_wp2_with fail
 change Code.wp _ _ _ _ (((w.alloc (.cells (ints .i64 xs).toArray 54)).alloc (.cells (ints .i64 ys).toArray 54)).alloc (.cells (ints .i64 (List.replicate 16 0)).toArray 54))
 generalize ((w.alloc (.cells (ints .i64 xs).toArray 54)).alloc (.cells (ints .i64 ys).toArray 54)).alloc (.cells (ints .i64 (List.replicate 16 0)).toArray 54) = w0 at *
 obtain ⟨h1, h2, h3, h4⟩ := HBX.out
 obtain ⟨A, hA⟩ : ∃ A, A = w.heap.size := ⟨_, rfl⟩
 rw [← hA] at h1 h2 h3 ⊢
 have hA2 : w.heap.size ≤ A := by omega
 have H1 := Lib.hid h1
 have H2 := Lib.hid h2
 have H3 := Lib.hid h3
 have H4 := Lib.hid h4
 clear h1 h2 h3 h4 HBX hA
 go_loopw [5] (fun i wr => ∃ (k : Nat) (zs : List Int), k ≤ 16 ∧ i = .int .i64 k ∧ AddS xs ys zs k ∧ Blk wr A (ints .i64 zs) 54 ∧ Blk wr (A + 1) (ints .i64 ys) 54 ∧ Blk wr (A + 1 + 1) (ints .i64 (List.replicate 16 0)) 54 ∧ Below w.heap.size w wr) (fun i _ => 16 - (intOf i).toNat)
 case atStart => exact ⟨0, xs, by omega, rfl, ⟨LA.out, by simp [dV], fun i _ _ => rfl, fun i hi => by omega⟩, H1.out, H2.out, H3.out, H4.out⟩
 case round =>
  clear H1 H2 H3 H4
  obtain ⟨k, zs, hk, rfl, hin, hb1, hb2, hb3, hbel⟩ := hrel
  have i0' : (0 : Int) ≤ (k : Int) := Int.natCast_nonneg _
  have hl16 := hin.len
  by_cases hlt : k < 16
  ·have e1 := hb1.cell k
   rw [ints_get (by omega), hin.high k (Nat.le_refl _) hlt] at e1
   have e2 := hb2.cell k
   rw [ints_get (by have := LB.out; omega)] at e2
   have fk := hb1.free k
   have i1 : (k : Int) < 16 := by omega
   have hst := hin.step hlt HA.out HB.out LA.out LB.out
   have b1 := getD_of_all (P := fun z => -131072 ≤ z ∧ z ≤ 131072) HA.out (i := k) (by have := LA.out; omega)
   have b2 := getD_of_all (P := fun z => -131072 ≤ z ∧ z ≤ 131072) HB.out (i := k) (by have := LB.out; omega)
   generalize xs.getD k 0 = a at *
   generalize ys.getD k 0 = b at *
   obtain ⟨b11, b12⟩ := b1
   obtain ⟨b21, b22⟩ := b2
   have W1 : Hid (wrap64 (a + b) = a + b) := Lib.hid (by rw [← IntWalk.i64_left]; exact IntWalk.i64_in _ (by omega))
   have HST := Lib.hid hst
   have HB1 := Lib.hid hb1
   have HB2 := Lib.hid hb2
   have HB3 := Lib.hid hb3
   have HBE := Lib.hid hbel
   clear hin hst hb1 hb2 hb3 hbel hl16
   go_wp2_with fail
   go_region
   go_wp2_with fail
   go_roundw
   case rel =>
    try rw [W1.out]
    refine ⟨k + 1, _, by omega, by go_num, HST.out, ?_, HB2.out.far (by simp) _, HB3.out.far (by simp; omega) _, (HBE.out.setCell (by simp; omega) _).drew⟩
    rw [← ints_set]
    exact HB1.out.set k _
   case measure => simp [intOf]; omega
  ·have hk' : k = 16 := by omega
   subst hk'
   have hval := hin.val
   rw [List.take_of_length_le (by have := LB.out; omega)] at hval
   have hbd : ∀ z ∈ zs, -262144 ≤ z ∧ z ≤ 262144 := all_of_getD (P := fun z => -262144 ≤ z ∧ z ≤ 262144) hl16 (fun i hi => hin.low i hi hi)
   have HB1 := Lib.hid hb1
   have HB3 := Lib.hid hb3
   have HBE := Lib.hid hbel
   have HVAL := Lib.hid hval
   have hi1 : Hid ((Tryd.prog.info? 54).map (·.size) = some (ints .i64 zs).length) := Lib.hid (by rw [ints_length, hl16]; exact Tryd.arr54)
   have HC := Lib.hid (carry_any zs 262144 wr hl16 hbd (by omega) (by omega))
   clear hb1 hb2 hb3 hbel hin hl16 hval hbd
   go_wp2_with (refine wpList_load_blk rfl _ _ rfl A rfl _ _ _ _ HB1.out Tryd.underlying54 hi1.out ?_)
   refine HC.out.mono ?_
   rintro e w5 ⟨zs', rfl, hcz, hb5⟩
   have HB35 : Hid (Blk w5 (A + 1 + 1) (ints .i64 (List.replicate 16 0)) 54) := Lib.hid (HB3.out.same (hb5.block _ HB3.out.lt))
   have HBE5 := Lib.hid (HBE.out.trans (hb5.mono HBE.out.size))
   have hi2 : Hid ((Tryd.prog.info? 54).map (·.size) = some (ints .i64 zs').length) := Lib.hid (by rw [ints_length, hcz.len]; exact Tryd.arr54)
   have hl2 : Hid ((ints .i64 zs').length = (ints .i64 (List.replicate 16 0)).length) := Lib.hid (by rw [ints_length, ints_length, hcz.len]; rfl)
   have HCZ := Lib.hid hcz
   clear hb5 hcz
   go_wp2_with (refine wpList_store_blk rfl _ _ _ rfl (A + 1 + 1) _ rfl rfl _ _ HB35.out hl2.out hi2.out (ints_one _ _) ?_; intro w6 hb6 hg6)
   obtain ⟨q1, q, q2⟩ := HCZ.out.el (by omega)
   refine bodyPost_ret (v := .agg (ints .i64 zs').toArray) (result_blk (by rfl) _ (A + 1 + 1) _ _ _ _ (by rfl) hb6 Tryd.underlying54 hi2.out) rfl ⟨_, rfl, ⟨zs', rfl, HCZ.out.len, q1, qa + qb + q, ?_⟩, HBE5.out.grown hg6 HBE5.out.size (fun r hr => by cases hr; omega)⟩
   rw [q2, HVAL.out, VA.out, VB.out]
   grind
theorem lz (X c : Fp) {Z : Fp} (h : Z = 0) : ((X + Z) * (X + Z) - (X - Z) * (X - Z)) * ((X + Z) * (X + Z) + c * ((X + Z) * (X + Z) - (X - Z) * (X - Z))) = 0 := by
 subst h
 have e : X - 0 = X + 0 := by grind
 rw [e, f_self, Fin.zero_mul]
def ElF (v : Value) (f : Fp) : Prop := ∃ x : Int, IsEl v x ∧ fp x = f
theorem ElF.form {v : Value} {f : Fp} (h : ElF v f) : ∃ zs : List Int, v = .agg (ints .i64 zs).toArray ∧ zs.length = 16 := by
 obtain ⟨x, ⟨zs, h1, h2, _⟩, _⟩ := h
 exact ⟨zs, h1, h2⟩
theorem radd_f {u v : Value} {a b : Fp} (w : World) (hu : ElF u a) (hv : ElF v b) : Calls Tryd.prog 73 #[u, v] w fun e w' => ∃ r, e = .returned r ∧ ElF r (a + b) ∧ Below w.heap.size w w' := by
 obtain ⟨x, hx, rfl⟩ := hu
 obtain ⟨y, hy, rfl⟩ := hv
 refine (radd_any u v x y w hx hy).mono ?_
 rintro e w' ⟨r, rfl, hr, hb⟩
 exact ⟨r, rfl, ⟨_, hr, fp_add x y⟩, hb⟩
theorem rsub_f {u v : Value} {a b : Fp} (w : World) (hu : ElF u a) (hv : ElF v b) : Calls Tryd.prog 72 #[u, v] w fun e w' => ∃ r, e = .returned r ∧ ElF r (a - b) ∧ Below w.heap.size w w' := by
 obtain ⟨x, hx, rfl⟩ := hu
 obtain ⟨y, hy, rfl⟩ := hv
 refine (rsub_any u v x y w hx hy).mono ?_
 rintro e w' ⟨r, rfl, hr, hb⟩
 exact ⟨r, rfl, ⟨_, hr, fp_sub x y⟩, hb⟩
theorem rmul_f {u v : Value} {a b : Fp} (w : World) (hu : ElF u a) (hv : ElF v b) : Calls Tryd.prog 55 #[u, v] w fun e w' => ∃ r, e = .returned r ∧ ElF r (a * b) ∧ Below w.heap.size w w' := by
 obtain ⟨x, hx, rfl⟩ := hu
 obtain ⟨y, hy, rfl⟩ := hv
 refine (rmul_any u v x y w hx hy).mono ?_
 rintro e w' ⟨r, rfl, hr, hb⟩
 exact ⟨r, rfl, ⟨_, hr, fp_mul x y⟩, hb⟩
theorem rone_f (n : Int) (w : World) (h1 : -131072 ≤ n) (h2 : n ≤ 131072) : Calls Tryd.prog 57 #[.int .i64 n] w fun e w' => ∃ r, e = .returned r ∧ ElF r (fp n) ∧ Below w.heap.size w w' := by
 refine (rone_el n w h1 h2).mono ?_
 rintro e w' ⟨r, rfl, hr, hb⟩
 exact ⟨r, rfl, ⟨_, hr, rfl⟩, hb⟩
theorem rinv_f {u : Value} {a : Fp} (w : World) (hu : ElF u a) : Calls Tryd.prog 53 #[u] w fun e w' => ∃ r, e = .returned r ∧ ElF r (fi a) ∧ Below w.heap.size w w' := by
 obtain ⟨x, hx, rfl⟩ := hu
 refine (rinv_any u x w hx).mono ?_
 rintro e w' ⟨r, rfl, hr, hb⟩
 refine ⟨r, rfl, ⟨_, hr, ?_⟩, hb⟩
 rw [fi_fp]
 congr 2
theorem rout_f {u : Value} {a : Fp} (w : World) (hu : ElF u a) : Calls Tryd.prog 54 #[u] w fun e w' => e = .returned (.agg ((nbF a).map bval).toArray) ∧ Below w.heap.size w w' := by
 obtain ⟨x, hx, rfl⟩ := hu
 exact rout_any u x w hx
theorem el_zero : ElF (.agg (ints .i64 (List.replicate 16 0)).toArray) 0 := ⟨0, ⟨List.replicate 16 0, rfl, by simp, fun z hz => by rw [List.eq_of_mem_replicate hz]; omega, 0, by decide⟩, fp_zero⟩
theorem el_size {zs : List Int} (h : zs.length = 16) : (Tryd.prog.info? 54).map (·.size) = some (ints .i64 zs).length := by rw [ints_length, h]; exact Tryd.arr54
def ElB (w : World) (c : Nat) (f : Fp) : Prop := ∃ zs : List Int, zs.length = 16 ∧ Blk w c (ints .i64 zs) 54 ∧ ElF (.agg (ints .i64 zs).toArray) f
theorem ElB.ext {w w' : World} {c : Nat} {f : Fp} (h : ElB w c f) (hb : Ext w w') : ElB w' c f := by
 obtain ⟨zs, h1, h2, h3⟩ := h
 exact ⟨zs, h1, ext_blk h2 hb, h3⟩
theorem ElB.lt {w : World} {c : Nat} {f : Fp} (h : ElB w c f) : c < w.heap.size := by
 obtain ⟨zs, h1, h2, h3⟩ := h
 exact h2.lt
theorem ElB.grown {w w' : World} {c g : Nat} {f : Fp} (h : ElB w c f) (hg : w.grownBy w' (some g)) (hc : some g ≠ some c) : ElB w' c f := by
 obtain ⟨zs, h1, h2, h3⟩ := h
 exact ⟨zs, h1, h2.grown hg hc, h3⟩
section
section
variable {P : Program} {ops : Array Oper} {S : World → Prop}
theorem yi_build {o : Oper} {a : Act} (ty : TypeId) (parts : Array (Nat × Operand)) (vs : Array (Nat × Value)) (v : Value) (hr : ∀ w, (Instr.build ty vs).run P w = .ok v w) (hw : Region.wanted o (yielded ops a.tmps) = true) (ho : o.op = .build ty parts) (hp : parts.map (fun (i, x) => (i, a.eval x)) = vs) : YieldsIf P ops S o v a :=
 yi_val _ hw (fun w _ => by
  subst hp
  unfold execOp
  simp only [ho, Sem.run_bind, hr, Result.andThen_ok, Sem.run_pure])
end
end
theorem fill_four {place : Nat → Option (Nat × Nat)} (p0 : place 0 = some (0, 16)) (p1 : place 1 = some (16, 16)) (p2 : place 2 = some (32, 16)) (p3 : place 3 = some (48, 16)) (zero : Array Value) (hz : zero.size = 64) {a b c d : List Value} (ha : a.length = 16) (hb : b.length = 16) (hc : c.length = 16) (hd : d.length = 16) :
  Instr.fill place zero [(0, .agg a.toArray), (1, .agg b.toArray), (2, .agg c.toArray), (3, .agg d.toArray)] = some (a ++ (b ++ (c ++ d))).toArray := by
 obtain ⟨l, hl⟩ : ∃ l : List Value, zero = l.toArray ∧ l.length = 64 := ⟨zero.toList, by simp, by simpa using hz⟩
 obtain ⟨rfl, hl⟩ := hl
 have e0 : l = [] ++ (l.take 16 ++ ((l.drop 16).take 16 ++ ((l.drop 32).take 16 ++ l.drop 48))) := by
  rw [List.nil_append]
  have h3 : (l.drop 32).take 16 ++ l.drop 48 = l.drop 32 := by rw [show l.drop 48 = (l.drop 32).drop 16 by rw [List.drop_drop], List.take_append_drop]
  have h2 : (l.drop 16).take 16 ++ l.drop 32 = l.drop 16 := by rw [show l.drop 32 = (l.drop 16).drop 16 by rw [List.drop_drop], List.take_append_drop]
  rw [h3, h2, List.take_append_drop]
 have l0 : (l.take 16).length = 16 := by simp [hl]
 have l1 : ((l.drop 16).take 16).length = 16 := by simp [hl]
 have l2 : ((l.drop 32).take 16).length = 16 := by simp [hl]
 have l3 : (l.drop 48).length = 16 := by simp [hl]
 generalize l.take 16 = q0 at *
 generalize (l.drop 16).take 16 = q1 at *
 generalize (l.drop 32).take 16 = q2 at *
 generalize l.drop 48 = q3 at *
 rw [e0, fill_lay (off := 0) (n := 16) p0 rfl l0 ha]
 rw [show ([] : List Value) ++ (a ++ (q1 ++ (q2 ++ q3))) = a ++ (q1 ++ (q2 ++ q3)) from rfl, fill_lay (off := 16) (n := 16) p1 ha l1 hb]
 rw [show a ++ (b ++ (q2 ++ q3)) = (a ++ b) ++ (q2 ++ q3) by simp, fill_lay (off := 32) (n := 16) p2 (by simp [ha, hb]) l2 hc]
 rw [show (a ++ b) ++ (c ++ q3) = (a ++ b ++ c) ++ (q3 ++ []) by simp, fill_lay (off := 48) (n := 16) p3 (by simp [ha, hb, hc]) l3 hd]
 rw [Instr.fill]
 simp
def Far (c : Nat) (w w' : World) : Prop := ∃ wx, Ext w wx ∧ (w' = wx ∨ wx.grownBy w' (some c))
theorem fars_ext {c : Nat} {w w' : World} (h : Ext w w') : Far c w w' := ⟨w', h, Or.inl rfl⟩
theorem fars_put {c : Nat} {w wx w' : World} (h : Ext w wx) (g : wx.grownBy w' (some c)) : Far c w w' := ⟨wx, h, Or.inr g⟩
theorem fars_range {c a : Nat} {w w' : World} {cs : List Value} {t : TypeId} (H : Blk w a cs t) (ha : c ≠ a) (h : Far c w w') : w'.rangeAt a 0 cs := by
 obtain ⟨wx, h1, h2⟩ := h
 rcases h2 with h2 | h2
 ·rw [h2]
  exact bl_range H h1
 ·exact ((ext_blk H h1).grown h2 (by simp; omega)).range
def ElL (zs : List Int) (f : Fp) : Prop := zs.length = 16 ∧ ElF (.agg (ints .i64 zs).toArray) f
theorem ElL.el {zs : List Int} {f : Fp} (h : ElL zs f) : ElF (.agg (ints .i64 zs).toArray) f := h.2
theorem ElL.len {zs : List Int} {f : Fp} (h : ElL zs f) : zs.length = 16 := h.1
def ptC (a b c d : List Int) : List Value := ints .i64 a ++ (ints .i64 b ++ (ints .i64 c ++ ints .i64 d))
def PtZ (zx zy zz zt : List Int) (s : ES) : Prop := ElL zx s.x ∧ ElL zy s.y ∧ ElL zz s.z ∧ ElL zt s.t
theorem ptC_length {a b c d : List Int} {s : ES} (h : PtZ a b c d s) : (ptC a b c d).length = 64 := by
 obtain ⟨h1, h2, h3, h4⟩ := h
 simp [ptC, ints_length, h1.1, h2.1, h3.1, h4.1]
theorem ptC_one (a b c d : List Int) : ∀ v ∈ ptC a b c d, v.oneCell' = true := by
 intro v hv
 simp only [ptC, List.mem_append] at hv
 rcases hv with h | h | h | h
 ·exact ints_one _ _ v h
 ·exact ints_one _ _ v h
 ·exact ints_one _ _ v h
 ·exact ints_one _ _ v h
def PtV (v : Value) (s : ES) : Prop := ∃ a b c d, v = .agg (ptC a b c d).toArray ∧ PtZ a b c d s
theorem pt_size {a b c d : List Int} {s : ES} (h : PtZ a b c d s) : (Tryd.prog.info? 56).map (·.size) = some (ptC a b c d).length := by
 rw [ptC_length h]
 kernel_rfl
theorem build_pt {a b c d : List Int} {s : ES} (h : PtZ a b c d s) (w : World) :
  (Instr.build 56 #[(0, .agg (ints .i64 a).toArray), (1, .agg (ints .i64 b).toArray), (2, .agg (ints .i64 c).toArray), (3, .agg (ints .i64 d).toArray)]).run Tryd.prog w = .ok (.agg (ptC a b c d).toArray) w := by
 obtain ⟨h1, h2, h3, h4⟩ := h
 refine run_build w _ _ _ ?_
 have e := fill_four (place := fun i => (#[(0, 16), (16, 16), (32, 16), (48, 16)] : Array (Nat × Nat))[i]?) rfl rfl rfl rfl (ints .i64 (List.replicate 64 0)).toArray (by simp [ints_length]) (a := ints .i64 a) (b := ints .i64 b) (c := ints .i64 c) (d := ints .i64 d) (by rw [ints_length, h1.1]) (by rw [ints_length, h2.1]) (by rw [ints_length, h3.1]) (by rw [ints_length, h4.1])
 refine Eq.trans ?_ e
 kernel_rfl
def dL : List Int := [30883, 4953, 19914, 30187, 55467, 16705, 2637, 112, 59544, 30585, 16505, 36039, 65139, 11119, 27886, 20995]
def GlobD (w : World) : Prop := w.rangeAt 3 0 (ints .i64 dL)
theorem GlobD.ext {w w' : World} (h : GlobD w) (hb : Ext w w') : GlobD w' := glob_ext h hb
theorem var_el {l : List Int} {x : Int} (hl : l.length = 16) (hb : ∀ z ∈ l, -131072 ≤ z ∧ z ≤ 131072) (h : pP ∣ dV l - x) : ElL l (fp x) :=
 ⟨hl, dV l, ⟨l, rfl, hl, hb, 0, by rw [Int.mul_zero, Int.add_zero]⟩, fp_eq.2 h⟩
theorem d_el : ElL dL dF := var_el rfl (by decide) (by decide +kernel)
theorem gCurD : Tryd.prog.globalNamed "portcullis/portcullisref3.d" = some 3 := by kernel_rfl
theorem tCurD : (Tryd.prog.globals[3]?).map (·.type) = some 54 := by kernel_rfl
theorem dCurD : (Rows.laid_portcullis_portcullisref3_d : DataW Unit) = .agg (dL.map fun z => .lit (.int .i64 z)) := rfl
theorem globD_of {W : World} {L : List (String × DataW Unit)} (hp : (L.all fun x => x.2.handleName?.isNone) = true) (h : laidMetH Tryd.prog L W) (hm : ("portcullis/portcullisref3.d", Rows.laid_portcullis_portcullisref3_d) ∈ L) : GlobD W :=
 range_of_laid hp h hm dCurD gCurD tCurD Tryd.underlying54 Tryd.underlying3 (by kernel_rfl) rfl
end Go.Proofs.YtckggbkoabmjiaaDoor
