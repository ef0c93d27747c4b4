/- Texts that belong together, one behind the other. -/
import Derived.Laws.ResultCell
import Derived.Deep.MidRow
import Derived.WalkKit
import Derived.WalkSpells
import Derived.WalkLawsBesides
import Derived.Lib.Hide
import Derived.Deep.QuietTactic
import Derived.BigQuiet
import Derived.Deep.RegionHeld3
import Derived.Deep.AppendLies
import Derived.OneCell
import Derived.Deep.Quiet
import Derived.OrdersHeld
import Derived.Deep.RegionHeld
import Derived.ChangeKeysEq
import Derived.Deep.CutRange
import Derived.Deep.RegionWith
import Derived.ProofKit
import Derived.LaidMore
import Derived.OpenShut
import Derived.Stop.Joined
import Derived.SevenTiedAt
import Derived.Deep.Slices
import Derived.Laws.Cover2
import Derived.Test.YtckggbkoabmjiaaDoorRows
import Derived.KernelRfl
import Derived.Laws.Tables
import Derived.Great.BuildSlice
import Derived.StillTailTactics
import Derived.ScopeJumps
import Derived.Control
import Derived.Laws.CopyOwn
import Derived.Laws.MakeOwn
import Derived.Laws.Slices
import Derived.Test.YtckggbkoabmjiaaDoorQz01
import Derived.Test.YtckggbkoabmjiaaDoorQz02
import Derived.Test.YtckggbkoabmjiaaDoorQz03
import Derived.Test.YtckggbkoabmjiaaDoorQz12
import Derived.Test.YtckggbkoabmjiaaDoorQz13
import Derived.Test.YtckggbkoabmjiaaDoorQz17
namespace Go.Proofs.YtckggbkoabmjiaaDoor
set_option linter.unusedVariables false
set_option linter.unusedSimpArgs false
open Go.RowKit
theorem gV_inj {B : Int} (hB : 0 < B) : ∀ {xs ys : List Int}, xs.length = ys.length → (∀ i, i < xs.length → 0 ≤ xs.getD i 0 ∧ xs.getD i 0 < B) → (∀ i, i < ys.length → 0 ≤ ys.getD i 0 ∧ ys.getD i 0 < B) → gV B xs = gV B ys → xs = ys
 | [], [], _, _, _, _ => rfl
 | [], _ :: _, h, _, _, _ => by simp at h
 | _ :: _, [], h, _, _, _ => by simp at h
 | x :: r, y :: s, hl, h1, h2, he => by
  have a1 : 0 ≤ x ∧ x < B := h1 0 (by simp)
  have a2 : 0 ≤ y ∧ y < B := h2 0 (by simp)
  simp only [gV] at he
  have e1 : (x + B * gV B r) % B = x := by rw [Int.add_mul_emod_self_left, Int.emod_eq_of_lt a1.1 a1.2]
  have e2 : (y + B * gV B s) % B = y := by rw [Int.add_mul_emod_self_left, Int.emod_eq_of_lt a2.1 a2.2]
  have e3 : x = y := by rw [← e1, ← e2, he]
  subst e3
  have e4 : gV B r = gV B s := Int.eq_of_mul_eq_mul_left (by omega : B ≠ 0) (by omega)
  rw [gV_inj hB (by simpa using hl) (fun i hi => by have := h1 (i + 1) (by simpa using hi); simpa using this) (fun i hi => by have := h2 (i + 1) (by simpa using hi); simpa using this) e4]
def dig (n x : Nat) : List Int := (bytesN n x).map fun b => (b.toNat : Int)
theorem dig_length (n x : Nat) : (dig n x).length = n := by simp [dig, bytesN_length]
theorem gV_bytes : ∀ (l : List UInt8), gV 256 (l.map fun b => (b.toNat : Int)) = (leN l : Nat)
 | [] => rfl
 | b :: r => by
  simp only [List.map_cons, gV, gV_bytes r, leN]
  omega
theorem gV_dig (n x : Nat) : gV 256 (dig n x) = ((x % 256 ^ n : Nat) : Int) := by
 unfold dig
 rw [gV_bytes, leN_bytesN]
theorem byte_digits (l : List UInt8) : ∀ i, i < (l.map fun b => (b.toNat : Int)).length → 0 ≤ (l.map fun b => (b.toNat : Int)).getD i 0 ∧ (l.map fun b => (b.toNat : Int)).getD i 0 < 256 := by
 intro i hi
 have hi2 : i < l.length := by simpa using hi
 rw [getD_eq hi, List.getElem_map]
 have := l[i].toNat_lt
 omega
theorem dig_digits (n x : Nat) : ∀ i, i < n → 0 ≤ (dig n x).getD i 0 ∧ (dig n x).getD i 0 < 256 := by
 intro i hi
 exact byte_digits (bytesN n x) i (by simp [bytesN_length, hi])
theorem dig_of {zs : List Int} {n x : Nat} (hl : zs.length = n) (h : ∀ i, i < n → 0 ≤ zs.getD i 0 ∧ zs.getD i 0 < 256) (hv : gV 256 zs = (x : Int)) : zs = dig n x := by
 have hr := gV_range (B := 256) (by omega) (zs := zs) (fun i hi => h i (by omega))
 have hx : x < 256 ^ n := by
  have h1 := hr.2
  rw [hv, hl] at h1
  have e : ((256 : Int) ^ n) = ((256 ^ n : Nat) : Int) := by simp
  rw [e] at h1
  omega
 refine gV_inj (B := 256) (by omega) (by rw [dig_length, hl]) (fun i hi => h i (by omega)) (fun i hi => dig_digits n x i (by rwa [dig_length] at hi)) ?_
 rw [gV_dig, Nat.mod_eq_of_lt hx, hv]
theorem and_i64_1 (a : Int) (h1 : -9223372036854775808 ≤ a) (h2 : a ≤ 9223372036854775807) : bits .and .i64 a 1 = a % 2 := by
 have h : (BitVec.ofInt 64 1).toNat = 2 ^ 1 - 1 := by decide
 have key : (BitVec.ofInt 64 a &&& BitVec.ofInt 64 1).toNat = (a % ((2 ^ 64 : Nat) : Int)).toNat % 2 ^ 1 := by
  rw [BitVec.toNat_and, BitVec.toNat_ofInt, h, Nat.and_two_pow_sub_one_eq_mod]
 show IntKind.i64.wrap ((BitVec.ofInt 64 a &&& BitVec.ofInt 64 1).toNat : Nat) = _
 rw [key, IntKind.wrap_i64]
 omega
def ORD : List Int := [237, 211, 245, 92, 26, 99, 18, 88, 214, 156, 247, 162, 222, 249, 222, 20, 0, 0, 0, 0, 0, 0, 0, 0, 0, 0, 0, 0, 0, 0, 0, 16]
def ORDX : List Int := ORD ++ [0]
theorem ORDX_val : gV 256 ORDX = qQ := by decide +kernel
theorem ORD_all : ∀ z ∈ ORD, 0 ≤ z ∧ z < 256 := by decide +kernel
theorem ORD_range (j : Nat) : 0 ≤ ORD.getD j 0 ∧ ORD.getD j 0 < 256 := by
 rcases Nat.lt_or_ge j ORD.length with h | h
 ·exact getD_of_all (P := fun z => 0 ≤ z ∧ z < 256) ORD_all h
 ·rw [getD_out h]; omega
theorem ORDX_lo {j : Nat} (h : j < 32) : ORDX.getD j 0 = ORD.getD j 0 := by
 unfold ORDX
 simp only [List.getD]
 rw [List.getElem?_append_left (show j < ORD.length from h)]
theorem ORDX_top : ORDX.getD 32 0 = 0 := rfl
def scl_qN : Nat := 7237005577332262213973186563042994240857116359379907606001950938285454250989
theorem qN_q : (scl_qN : Int) = qQ := rfl
theorem qN_pos : 0 < scl_qN := by unfold scl_qN; omega
theorem nq_nat (x : Nat) : nq (x : Int) = bytesN 32 (x % scl_qN) := by
 unfold nq
 rw [← qN_q, ← Int.natCast_emod, Int.toNat_natCast]
structure scl_LS (r m : List Int) (c : Int) (k : Nat) : Prop where
 len : m.length = 33
 dgs : ∀ j, j < k → 0 ≤ m.getD j 0 ∧ m.getD j 0 < 256
 car : c = 0 ∨ c = 1
 val : gV 256 (m.take k) = gV 256 (r.take k) - gV 256 (ORDX.take k) + c * 256 ^ k
theorem scl_LS.start {r : List Int} (h : r.length = 33) : scl_LS r r 0 0 := ⟨h, fun j hj => by omega, Or.inl rfl, by simp [gV]⟩
theorem take_set_far {zs : List Int} {k : Nat} {z : Int} : (zs.set k z).take k = zs.take k := by
 rw [List.take_set, List.set_eq_of_length_le (by simp; omega)]
theorem scl_LS.step {r m : List Int} {c : Int} {k : Nat} (h : scl_LS r m c k) (hk : k < 33) (hr : r.length = 33) (hd : 0 ≤ r.getD k 0 ∧ r.getD k 0 < 256) (ho : 0 ≤ ORDX.getD k 0 ∧ ORDX.getD k 0 < 256) (x : Int) (hx : x = r.getD k 0 - c - ORDX.getD k 0) :
  (x < 0 → ∀ y, y = x + 256 → scl_LS r (m.set k y) 1 (k + 1)) ∧ (¬ x < 0 → ∀ y, y = x → scl_LS r (m.set k y) 0 (k + 1)) := by
 obtain ⟨h1, h2, h3, h4⟩ := h
 have key : ∀ (y d : Int), 0 ≤ y → y < 256 → (d = 0 ∨ d = 1) → y = x + 256 * d → scl_LS r (m.set k y) d (k + 1) := by
  intro y d y0 y1 hd2 hy
  refine ⟨by simp [h1], fun j hj => ?_, hd2, ?_⟩
  ·by_cases e : j = k
   ·subst e
    rw [getD_set_same (by omega)]
    exact ⟨y0, y1⟩
   ·rw [getD_set_far (by omega)]
    exact h2 j (by omega)
  ·rw [gV_take_succ _ _ _ (by simp [h1]; omega), take_set_far, getD_set_same (by omega), gV_take_succ _ r k (by omega), gV_take_succ _ ORDX k (by show k < 33; exact hk), h4, hy, hx, Int.pow_succ]
   generalize (256 : Int) ^ k = X
   generalize gV 256 (r.take k) = R
   generalize gV 256 (ORDX.take k) = O
   generalize r.getD k 0 = a
   generalize ORDX.getD k 0 = b
   grind
 exact ⟨fun g y hy => key y 1 (by omega) (by omega) (Or.inr rfl) (by omega), fun g y hy => key y 0 (by omega) (by omega) (Or.inl rfl) (by omega)⟩
theorem dig_val (n x : Nat) (h : x < 256 ^ n) : gV 256 (dig n x) = (x : Int) := by rw [gV_dig, Nat.mod_eq_of_lt h]
theorem dig_cut (n x k : Nat) (hk : k < n) : (dig n x).getD k 0 = ((x / 256 ^ k % 256 : Nat) : Int) := by
 have h : k < (bytesN n x).length := by rw [bytesN_length]; exact hk
 have e : (dig n x).getD k 0 = (((bytesN n x).getD k 0).toNat : Int) := by
  unfold dig
  rw [getD_eq (by simpa using h), List.getElem_map]
  simp [List.getD, h]
 rw [e, bytesN_getD n x k hk]
theorem scl_LS.done {m : List Int} {c : Int} {x : Nat} (h : scl_LS (dig 33 x) m c 33) (hx : x < 256 ^ 33) : (c = 1 ∧ x < scl_qN) ∨ (c = 0 ∧ scl_qN ≤ x ∧ m = dig 33 (x - scl_qN)) := by
 obtain ⟨h1, h2, h3, h4⟩ := h
 have e1 : m.take 33 = m := List.take_of_length_le (by omega)
 have e2 : (dig 33 x).take 33 = dig 33 x := List.take_of_length_le (by rw [dig_length]; omega)
 have e3 : ORDX.take 33 = ORDX := rfl
 rw [e1, e2, e3, dig_val 33 x hx, ORDX_val, ← qN_q] at h4
 have hr := gV_range (B := 256) (by omega) (zs := m) (fun i hi => h2 i (by omega))
 rw [h1] at hr
 generalize (256 : Int) ^ 33 = P at *
 rcases h3 with rfl | rfl
 ·refine Or.inr ⟨rfl, by omega, dig_of h1 h2 (by omega)⟩
 ·exact Or.inl ⟨rfl, by omega⟩
structure DB (d z : List Int) (b c : Int) (k : Nat) : Prop where
 len : z.length = 33
 dgs : ∀ j, j < k → 0 ≤ z.getD j 0 ∧ z.getD j 0 < 256
 car : c = 0 ∨ c = 1
 val : gV 256 (z.take k) + c * 256 ^ k = 2 * gV 256 (d.take k) + b
 far : ∀ j, k ≤ j → z.getD j 0 = d.getD j 0
theorem DB.start {d : List Int} {b : Int} (h : d.length = 33) (hb : b = 0 ∨ b = 1) : DB d d b b 0 := ⟨h, fun j hj => by omega, hb, by simp [gV], fun j _ => rfl⟩
theorem DB.step {d z : List Int} {b c : Int} {k : Nat} (h : DB d z b c k) (hk : k < 33) (hl : d.length = 33) (hd : 0 ≤ d.getD k 0 ∧ d.getD k 0 < 256) :
  DB d (z.set k ((2 * z.getD k 0 + c) % 256)) b ((2 * z.getD k 0 + c) / 256) (k + 1) := by
 obtain ⟨h1, h2, h3, h4, h5⟩ := h
 have h6 := h5 k (Nat.le_refl _)
 rw [h6]
 refine ⟨by simp [h1], fun j hj => ?_, by omega, ?_, fun j hj => ?_⟩
 ·by_cases e : j = k
  ·subst e
   rw [getD_set_same (by omega)]
   omega
  ·rw [getD_set_far (by omega)]
   exact h2 j (by omega)
 ·rw [gV_take_succ _ _ _ (by simp [h1]; omega), take_set_far, getD_set_same (by omega), gV_take_succ _ d k (by omega), Int.pow_succ]
  have e := Int.mul_ediv_add_emod (2 * d.getD k 0 + c) 256
  generalize (2 * d.getD k 0 + c) / 256 = u at *
  generalize (2 * d.getD k 0 + c) % 256 = v at *
  generalize (256 : Int) ^ k = X at *
  generalize gV 256 (z.take k) = Z at *
  generalize gV 256 (d.take k) = D at *
  generalize d.getD k 0 = a at *
  have : Z = 2 * D + b - c * X := by omega
  subst this
  have : v = 2 * a + c - 256 * u := by omega
  subst this
  grind
 ·rw [getD_set_far (by omega)]
  exact h5 j (by omega)
theorem DB.done {z : List Int} {c : Int} {x bn : Nat} (h : DB (dig 33 x) z (bn : Int) c 33) (hx : x < 256 ^ 33) (hb : 2 * x + bn < 256 ^ 33) : z = dig 33 (2 * x + bn) := by
 obtain ⟨h1, h2, h3, h4, h5⟩ := h
 have e1 : z.take 33 = z := List.take_of_length_le (by omega)
 have e2 : (dig 33 x).take 33 = dig 33 x := List.take_of_length_le (by rw [dig_length]; omega)
 rw [e1, e2, dig_val 33 x hx] at h4
 have hr := gV_range (B := 256) (by omega) (zs := z) (fun i hi => h2 i (by omega))
 have hb2 : ((2 * x + bn : Nat) : Int) < ((256 ^ 33 : Nat) : Int) := Int.ofNat_lt.2 hb
 have e3 : ((256 ^ 33 : Nat) : Int) = (256 : Int) ^ 33 := by simp
 rw [e3] at hb2
 clear hx hb e1 e2 e3
 generalize (256 : Int) ^ 33 = P at *
 refine dig_of h1 h2 ?_
 rcases h3 with rfl | rfl <;> omega
def upQ (E j : Nat) : Nat := E / 2 ^ j % scl_qN
theorem upQ_lt (E j : Nat) : upQ E j < scl_qN := Nat.mod_lt _ qN_pos
theorem dig_zero : ∀ n, dig n 0 = List.replicate n 0
 | 0 => rfl
 | n + 1 => by
  have := dig_zero n
  unfold dig at this ⊢
  simp only [bytesN, List.map_cons, List.replicate_succ, Nat.zero_div, this]
  rfl
theorem upQ_start (l : List UInt8) : dig 33 (upQ (leN l) (8 * l.length)) = List.replicate 33 0 := by
 have h := leN_lt l
 have e : (2 : Nat) ^ (8 * l.length) = 256 ^ l.length := by rw [Nat.pow_mul]
 unfold upQ
 rw [e, Nat.div_eq_of_lt h, Nat.zero_mod]
 exact dig_zero 33
theorem upQ_step (E j : Nat) : (2 * upQ E (j + 1) + E / 2 ^ j % 2) % scl_qN = upQ E j := by
 have e : E / 2 ^ j = 2 * (E / 2 ^ (j + 1)) + E / 2 ^ j % 2 := by
  have : E / 2 ^ (j + 1) = E / 2 ^ j / 2 := by rw [Nat.div_div_eq_div_mul, ← Nat.pow_succ]
  rw [this]
  omega
 unfold upQ
 rw [Nat.add_mod, Nat.mul_mod_mod, ← Nat.add_mod, ← e]
theorem sub_once (y : Nat) (h : y < 2 * scl_qN) : (if y < scl_qN then y else y - scl_qN) = y % scl_qN := by
 split
 ·rw [Nat.mod_eq_of_lt (by assumption)]
 ·rw [Nat.mod_eq_sub_mod (by omega), Nat.mod_eq_of_lt (by omega)]
def GlobO (w : World) : Prop := w.rangeAt 4 0 (ints .i64 ORD)
theorem GlobO.ext {w w' : World} (h : GlobO w) (hb : Ext w w') : GlobO w' := glob_ext h hb
theorem GlobO.cell {w : World} (h : GlobO w) {j : Nat} (hj : j < 32) : w.cell? ⟨4, j, none⟩ = some (.int .i64 (ORD.getD j 0)) := by
 have := h j (.int .i64 (ORD.getD j 0)) (ints_get (by show j < 32; exact hj))
 rwa [Nat.zero_add] at this
theorem Tryd.arr128 : (Tryd.prog.info? 128).map (·.size) = some 33 := by kernel_rfl
set_option maxRecDepth 100000 in
set_option maxHeartbeats 4000000 in
theorem scl_rsub_any (x : Nat) (w : World) (hx : x < 256 ^ 33) (hG : GlobO w) :
  Calls Tryd.prog 98 #[.agg (ints .i64 (dig 33 x)).toArray] w fun e w' => e = .returned (.agg (ints .i64 (dig 33 (if x < scl_qN then x else x - scl_qN))).toArray) ∧ Below w.heap.size w w' := by
 have HX := Lib.hid hx
 have HG := Lib.hid hG
 have HRL := Lib.hid (dig_length 33 x)
 have HRD := Lib.hid (dig_digits 33 x)
 have HDN : Hid (∀ m c, scl_LS (dig 33 x) m c 33 → (c = 1 ∧ x < scl_qN) ∨ (c = 0 ∧ scl_qN ≤ x ∧ m = dig 33 (x - scl_qN))) := Lib.hid (fun m c h => h.done hx)
 have HRS : Hid (dig 33 x = dig 33 x) := Lib.hid rfl
 obtain ⟨r, hr⟩ : ∃ r, r = dig 33 x := ⟨_, rfl⟩
 have HRX := Lib.hid hr
 have HR1 : Hid (∀ z, x < scl_qN → z = dig 33 x → dig 33 (if x < scl_qN then x else x - scl_qN) = z) := Lib.hid (fun z h e => by rw [if_pos h, e])
 have HR2 : Hid (∀ z, scl_qN ≤ x → z = dig 33 (x - scl_qN) → dig 33 (if x < scl_qN then x else x - scl_qN) = z) := Lib.hid (fun z h e => by rw [if_neg (by omega), e])
 generalize dig 33 (if x < scl_qN then x else x - scl_qN) = res at *
 rw [← hr] at HRL HRD HDN ⊢
 have HB := Lib.hid (boxes2 w (ints .i64 r) (ints .i64 (List.replicate 33 0)) 128 128)
 have HB3 := Lib.hid (boxes3 w (ints .i64 r) (ints .i64 (List.replicate 33 0)) (ints .i64 (List.replicate 33 0)) 128 128 128)
 have HRI : Hid ((Tryd.prog.info? 128).map (·.size) = some (ints .i64 r).length) := Lib.hid (by rw [ints_length, HRL.out]; exact Tryd.arr128)
 have HRI2 : Hid ((ints .i64 r).length = (ints .i64 (List.replicate 33 0)).length) := Lib.hid (by rw [ints_length, ints_length, HRL.out]; rfl)
 clear hx hG hr HRS
 go_enter Tryd.func98, Tryd.ntmps98
 go_wp2_with (first | (refine wpList_load_blk rfl _ _ rfl w.heap.size rfl _ _ _ _ HB.out.1 Tryd.underlying128 HRI.out ?_) | (refine wpList_store_blk rfl _ _ _ rfl (w.heap.size + 1 + 1) _ rfl rfl _ _ HB3.out.2.2.1 HRI2.out HRI.out (ints_one _ _) ?_; intro w1 hb1 hg1))
 have b1 := HB3.out.1.grown hg1 (by simp; omega)
 have b2 := HB3.out.2.1.grown hg1 (by simp)
 have b4 : Ext w w1 := ext_grown HB3.out.2.2.2 hg1 (by omega)
 clear HB HB3 hg1
 obtain ⟨A, hA⟩ : ∃ A, A = w.heap.size := ⟨_, rfl⟩
 rw [← hA] at b1 b2 hb1 ⊢
 have hA2 : w.heap.size ≤ A := by omega
 have H1 := Lib.hid b1
 have H2 := Lib.hid b2
 have H3 := Lib.hid hb1
 have HE := Lib.hid b4
 clear b1 b2 hb1 b4 hA
 go_loopw [4, 5] (fun c i wr => ∃ (k : Nat) (d : Int) (m : List Int), k ≤ 33 ∧ i = .int .i64 (k : Int) ∧ c = .int .i64 d ∧ scl_LS r m d k ∧ Blk wr A (ints .i64 r) 128 ∧ Blk wr (A + 1) (ints .i64 (List.replicate 33 0)) 128 ∧ Blk wr (A + 1 + 1) (ints .i64 m) 128 ∧ Ext w wr) (fun _ i _ => 33 - (intOf i).toNat)
 case atStart => exact ⟨0, 0, r, by omega, rfl, rfl, scl_LS.start HRL.out, H1.out, H2.out, H3.out, HE.out⟩
 case round =>
  clear H1 H2 H3 HE
  obtain ⟨k, c, m, hk, rfl, rfl, hls, hb1, hb2, hb3, hbel⟩ := hrel
  have i0' : (0 : Int) ≤ (k : Int) := Int.natCast_nonneg _
  have hc := hls.car
  by_cases hlt : k < 33
  ·have i1 : (k : Int) < 33 := by omega
   have hrl := HRL.out
   have hml := hls.len
   have e1 := hb1.cell k
   rw [ints_get (by omega)] at e1
   have e3 := hb3.cell k
   rw [ints_get (by omega)] at e3
   have f3 := hb3.free k
   have q1 := HRD.out k hlt
   have HRDK := Lib.hid q1
   generalize m.getD k 0 = u at e3
   by_cases h32 : k < 32
   ·have i2 : (k : Int) < 32 := by omega
    have eg := (HG.out.ext hbel).cell h32
    have q2 := ORD_range k
    have hst := hls.step hlt HRL.out q1 (by rw [ORDX_lo h32]; exact q2) _ rfl
    rw [ORDX_lo h32] at hst
    by_cases hneg : r.getD k 0 - c - ORD.getD k 0 < 0
    all_goals
     have HST := Lib.hid hst
     have HNG := Lib.hid hneg
     generalize r.getD k 0 = a at *
     generalize ORD.getD k 0 = o at *
     have H1 := Lib.hid hb1
     have H2 := Lib.hid hb2
     have H3 := Lib.hid hb3
     have HE := Lib.hid hbel
     clear hst hb1 hb2 hb3 hbel hls hrl hml
     rcases hc with rfl | rfl
     all_goals
      go_wp2_with fail
      go_roundw
      case rel => exact ⟨k + 1, _, _, by omega, by go_num, rfl, (by first | exact HST.out.1 HNG.out _ (by omega) | exact HST.out.2 HNG.out _ (by omega)), H1.out.far (by simp <;> omega) _, H2.out.far (by simp <;> omega) _, H3.out.seti k _, Below.setCell HE.out (by simp; omega) _⟩
      case measure => simp [intOf]; omega
   ·have hk32 : k = 32 := by omega
    subst hk32
    have hst := hls.step hlt HRL.out q1 (by rw [ORDX_top]; omega) _ rfl
    rw [ORDX_top] at hst
    by_cases hneg : r.getD 32 0 - c - 0 < 0
    all_goals
     have HST := Lib.hid hst
     have HNG := Lib.hid hneg
     generalize r.getD 32 0 = a at *
     have H1 := Lib.hid hb1
     have H2 := Lib.hid hb2
     have H3 := Lib.hid hb3
     have HE := Lib.hid hbel
     clear hst hb1 hb2 hb3 hbel hls hrl hml
     rcases hc with rfl | rfl
     all_goals (go_wp2_with fail)
     all_goals
      go_roundw
      case rel => exact ⟨32 + 1, _, _, by omega, by go_num, rfl, (by first | exact HST.out.1 HNG.out _ (by omega) | exact HST.out.2 HNG.out _ (by omega)), H1.out.far (by simp <;> omega) _, H2.out.far (by simp <;> omega) _, H3.out.seti 32 _, Below.setCell HE.out (by simp; omega) _⟩
      case measure => simp [intOf]
  ·have hk33 : k = 33 := by omega
   subst hk33
   have hdn := HDN.out m c hls
   have hml := hls.len
   have HMI : Hid ((Tryd.prog.info? 128).map (·.size) = some (ints .i64 m).length) := Lib.hid (by rw [ints_length, hml]; exact Tryd.arr128)
   have HMI2 : Hid ((ints .i64 m).length = (ints .i64 (List.replicate 33 0)).length) := Lib.hid (by rw [ints_length, ints_length, hml]; rfl)
   have H1 := Lib.hid hb1
   have H2 := Lib.hid hb2
   have H3 := Lib.hid hb3
   have HE := Lib.hid hbel
   clear hb1 hb2 hb3 hbel hls hml hc
   rcases hdn with ⟨rfl, h1⟩ | ⟨rfl, h1, h2⟩
   ·have HF := Lib.hid (HR1.out r h1 HRX.out)
    clear h1
    go_wp2_with (first | (refine wpList_load_blk rfl _ _ rfl A rfl _ _ _ _ H1.out Tryd.underlying128 HRI.out ?_) | (refine wpList_store_blk rfl _ _ _ rfl (A + 1) _ rfl rfl _ _ H2.out HRI2.out HRI.out (ints_one _ _) ?_; intro w7 hb7 hg7))
    exact bodyPost_ret (v := .agg (ints .i64 r).toArray) (result_row (by rfl) _ (A + 1) _ _ _ (by rfl) hb7 Tryd.underlying128 rfl HRI.out) rfl ⟨by rw [HF.out], ext_grown HE.out hg7 (by omega)⟩
   ·have HF := Lib.hid (HR2.out m h1 h2)
    clear h1 h2
    go_wp2_with (first | (refine wpList_load_blk rfl _ _ rfl (A + 1 + 1) rfl _ _ _ _ H3.out Tryd.underlying128 HMI.out ?_) | (refine wpList_store_blk rfl _ _ _ rfl (A + 1) _ rfl rfl _ _ H2.out HMI2.out HMI.out (ints_one _ _) ?_; intro w7 hb7 hg7))
    exact bodyPost_ret (v := .agg (ints .i64 m).toArray) (result_row (by rfl) _ (A + 1) _ _ _ (by rfl) hb7 Tryd.underlying128 rfl HMI.out) rfl ⟨by rw [HF.out], ext_grown HE.out hg7 (by omega)⟩
theorem gOrder : Tryd.prog.globalNamed "portcullis/portcullisref3.order" = some 4 := by kernel_rfl
theorem tOrder : (Tryd.prog.globals[4]?).map (·.type) = some 94 := by kernel_rfl
theorem dOrder : (Rows.laid_portcullis_portcullisref3_order : DataW Unit) = .agg (ORD.map fun z => .lit (.int .i64 z)) := rfl
theorem globO_of {W : World} {L : List (String × DataW Unit)} (hp : (L.all fun x => x.2.handleName?.isNone) = true) (h : laidMetH Tryd.prog L W) (hm : ("portcullis/portcullisref3.order", Rows.laid_portcullis_portcullisref3_order) ∈ L) : GlobO W :=
 range_of_laid hp h hm dOrder gOrder tOrder Tryd.underlying94 Tryd.underlying3 (by kernel_rfl) rfl
set_option maxRecDepth 100000 in
set_option maxHeartbeats 8000000 in
theorem rReduce_num (v : Value) (l : List UInt8) (w : World) (hv : Row1 w v (l.map bval)) (hG : GlobO w) :
  Calls Tryd.prog 68 #[v] w fun e w' => e = .returned (.agg ((nq (leN (l.take 64) : Nat)).map bval).toArray) ∧ Below w.heap.size w w' := by
 have HV := Lib.hid hv
 obtain ⟨a, cap, rfl, r1, r2, r3, r4⟩ := hv
 have HG := Lib.hid hG
 have HLM : Hid ((l.map bval).length = l.length) := Lib.hid (List.length_map _)
 clear hG r4 r3
 rw [HLM.out] at r1 ⊢
 unfold maxLen at r2
 have HB := Lib.hid (boxes2 w (ints .u8 (List.replicate 32 0)) (ints .i64 (List.replicate 33 0)) 23 128)
 have HB1 := Lib.hid (Ext.alloc w (.cells (ints .u8 (List.replicate 32 0)).toArray 23))
 go_enter Tryd.func68, Tryd.ntmps68
 go_upto_if 12 with (fail)
 change Code.wp _ _ _ _ (w.alloc (.cells (ints .u8 (List.replicate 32 0)).toArray 23))
 go_cut [0] from 13 to 14 (fun v wc => ∃ n : Nat, v = .slice a n cap ∧ n = (l.take 64).length ∧ Row1 w (.slice a n cap) ((l.take 64).map bval) ∧ wc = w.alloc (.cells (ints .u8 (List.replicate 32 0)).toArray 23))
 case first =>
  by_cases hle : l.length ≤ 64
  ·have hle2 : (l.length : Int) ≤ 64 := by omega
   have HRW : Hid (Row1 w (.slice a l.length cap) ((l.take 64).map bval)) := Lib.hid (by rw [List.take_of_length_le hle]; have := HV.out; rwa [HLM.out] at this)
   go_wp2_with fail
   go_meet
   exact ⟨_, rfl, by rw [List.take_of_length_le hle], HRW.out, rfl⟩
  ·have hle2 : (64 : Int) < (l.length : Int) := by omega
   have HRW : Hid (Row1 w (.slice a 64 cap) ((l.take 64).map bval)) := Lib.hid (by rw [List.map_take]; exact HV.out.head 64 (by rw [HLM.out]; omega))
   go_wp2_with fail
   go_meet
   exact ⟨_, rfl, by rw [List.length_take]; omega, HRW.out, rfl⟩
 case rest =>
  obtain ⟨n, rfl, hn, hrow, rfl⟩ := hcut
  have hL64 : (l.take 64).length ≤ 64 := by simp; omega
  obtain ⟨L, hL⟩ : ∃ L, L = l.take 64 := ⟨_, rfl⟩
  rw [← hL] at hn hrow hL64
  have HLT := Lib.hid hL
  clear hL
  subst hn
  obtain ⟨a', cap', hv1, hv2, hv3, hv4, hv5⟩ := id hrow
  rw [List.length_map] at hv1
  cases hv1
  unfold maxLen at hv3
  have HR := Lib.hid hv5
  have HBS : Hid ((L.map bval).length = L.length) := Lib.hid (List.length_map _)
  have HRL := Lib.hid hL64
  rw [HBS.out] at hv2
  clear r1 r2 HV HLM hrow hv4 hv5
  go_wp2_with fail
  change Code.wp _ _ _ _ ((w.alloc (.cells (ints .u8 (List.replicate 32 0)).toArray 23)).alloc (.cells (ints .i64 (List.replicate 33 0)).toArray 128))
  generalize (w.alloc (.cells (ints .u8 (List.replicate 32 0)).toArray 23)).alloc (.cells (ints .i64 (List.replicate 33 0)).toArray 128) = w0 at *
  obtain ⟨b1, b2, b4⟩ := HB.out
  obtain ⟨A, hA⟩ : ∃ A, A = w.heap.size := ⟨_, rfl⟩
  rw [← hA] at b1 b2 ⊢
  have hA2 : w.heap.size ≤ A := by omega
  have H1 := Lib.hid b1
  have H2 := Lib.hid b2
  have HE : Hid (Ext w w0) := Lib.hid b4
  clear b1 b2 b4 hA HB HB1 hL64
  have h64 := HRL.out
  go_loopw [4] (fun i wr => ∃ (j : Nat), j ≤ 8 * L.length ∧ i = .int .i64 ((j : Int) - 1) ∧ Blk wr (A + 1) (ints .i64 (dig 33 (upQ (leN L) j))) 128 ∧ Blk wr A (ints .u8 (List.replicate 32 0)) 23 ∧ Ext w wr) (fun i _ => (intOf i + 1).toNat)
  case atStart => exact ⟨8 * L.length, Nat.le_refl _, by congr 1, by rw [upQ_start]; exact H2.out, H1.out, HE.out⟩
  case round =>
   clear H1 H2 HE
   obtain ⟨j, hj, rfl, hb1, hb2, hbel⟩ := hrel
   by_cases hlt : 1 ≤ j
   ·obtain ⟨i, rfl⟩ : ∃ i, j = i + 1 := ⟨j - 1, by omega⟩
    have hi1 : ((i + 1 : Nat) : Int) - 1 = (i : Int) := by omega
    rw [hi1]
    have i0 : (0 : Int) ≤ (i : Int) := Int.natCast_nonneg _
    have i1 : (i : Int) < 8 * (L.length : Int) := by omega
    have i8 : i / 8 < L.length := by omega
    obtain ⟨b, off, rfl, hbs, hcell⟩ := HR.out (by intro e; rw [List.map_eq_nil_iff] at e; rw [e] at i8; exact absurd i8 (by simp))
    have hc := hcell (i / 8) (by rw [HBS.out]; exact i8)
    rw [bval_get i8] at hc
    have hc2 : wr.cell? ⟨b, off + i / 8, none⟩ = some (.int .u8 ((L.getD (i / 8) 0).toNat : Int)) := by rw [← hc]; exact hbel.cell (p := ⟨b, off + i / 8, none⟩) hbs
    have hbit := leN_bit L i (by omega)
    have hby := UInt8.toNat_lt (L.getD (i / 8) 0)
    obtain ⟨p, hp⟩ : ∃ p : Nat, p = i / 8 := ⟨_, rfl⟩
    obtain ⟨s, hs⟩ : ∃ s : Nat, s = i % 8 := ⟨_, rfl⟩
    rw [← hp] at hc2 hby hbit i8
    rw [← hs] at hbit
    have hp2 : (i : Int) / 8 = (p : Int) := by omega
    have hs2 : (i : Int) % 8 = (s : Int) := by omega
    have pL : (p : Int) < (L.length : Int) := by omega
    have s8 : (s : Int) < 8 := by omega
    have hand : bits .and .i64 (((L.getD p 0).toNat : Int) / 2 ^ s) 1 = ((leN L / 2 ^ i % 2 : Nat) : Int) := by
     have e : (((L.getD p 0).toNat : Int) / 2 ^ s) = (((L.getD p 0).toNat / 2 ^ s : Nat) : Int) := by simp
     have h3 : (L.getD p 0).toNat / 2 ^ s ≤ (L.getD p 0).toNat := Nat.div_le_self _ _
     rw [e, hbit]
     generalize (L.getD p 0).toNat / 2 ^ s = z at *
     rw [and_i64_1 _ (by omega) (by omega)]
     omega
    have HSTEP := Lib.hid (upQ_step (leN L) i)
    have HX := Lib.hid (upQ_lt (leN L) (i + 1))
    have HB2 : Hid (leN L / 2 ^ i % 2 = 0 ∨ leN L / 2 ^ i % 2 = 1) := Lib.hid (by omega)
    generalize leN L / 2 ^ i % 2 = bn at *
    generalize upQ (leN L) (i + 1) = x at *
    generalize (L.getD p 0).toNat = c at *
    have H1 := Lib.hid hb1
    have H2 := Lib.hid hb2
    have HE := Lib.hid hbel
    clear hb1 hb2 hbel hcell hc hbit hp hs hi1
    go_wp2_with fail
    have HX33 : Hid (x < 256 ^ 33) := Lib.hid (by have h1 := HX.out; have h2 : scl_qN < 256 ^ 33 := (by decide +kernel); omega)
    have HY33 : Hid (2 * x + bn < 256 ^ 33) := Lib.hid (by have h1 := HX.out; have h0 := HB2.out; have h2 : 2 * scl_qN + 1 < 256 ^ 33 := (by decide +kernel); omega)
    have HDL := Lib.hid (dig_length 33 x)
    have HDD := Lib.hid (dig_digits 33 x)
    have HDN : Hid (∀ z c, DB (dig 33 x) z (bn : Int) c 33 → z = dig 33 (2 * x + bn)) := Lib.hid (fun z c h => h.done HX33.out HY33.out)
    have HDS : Hid (DB (dig 33 x) (dig 33 x) (bn : Int) (bn : Int) 0) := Lib.hid (DB.start HDL.out (by have := HB2.out; omega))
    generalize dig 33 x = d at *
    obtain ⟨wo, rfl⟩ : ∃ wo : World, wo = wr := ⟨_, rfl⟩
    go_loopw [5, 6] (fun cv kv wr => ∃ (k : Nat) (c : Int) (z : List Int), k ≤ 33 ∧ kv = .int .i64 (k : Int) ∧ cv = .int .i64 c ∧ DB d z (bn : Int) c k ∧ Blk wr (A + 1) (ints .i64 z) 128 ∧ Blk wr A (ints .u8 (List.replicate 32 0)) 23 ∧ Ext w wr) (fun _ kv _ => 33 - (intOf kv).toNat)
    case atStart => exact ⟨0, _, d, by omega, rfl, rfl, HDS.out, H1.out, H2.out, HE.out⟩
    case round =>
     clear H1 H2 HE hc2
     obtain ⟨k, cc, z, hk, rfl, rfl, hdb, hb1, hb2, hbel⟩ := hrel
     have k0 : (0 : Int) ≤ (k : Int) := Int.natCast_nonneg _
     have hcar := hdb.car
     by_cases hlk : k < 33
     ·have k1 : (k : Int) < 33 := by omega
      have hzl := hdb.len
      have e1 := hb1.cell k
      rw [ints_get (by omega)] at e1
      have f1 := hb1.free k
      have q1 := HDD.out k hlk
      rw [← hdb.far k (Nat.le_refl _)] at q1
      have hst := hdb.step hlk HDL.out (HDD.out k hlk)
      have hm := and_i64_255 (2 * z.getD k 0 + cc) (by omega) (by omega)
      have HST := Lib.hid hst
      generalize z.getD k 0 = u at *
      have H1 := Lib.hid hb1
      have H2 := Lib.hid hb2
      have HE := Lib.hid hbel
      clear hst hb1 hb2 hbel hdb hzl
      go_wp2_with fail
      go_roundw
      case rel => exact ⟨k + 1, _, _, by omega, by go_num, rfl, HST.out, H1.out.seti k _, H2.out.far (by simp <;> omega) _, Below.setCell HE.out (by simp <;> omega) _⟩
      case measure => simp [intOf]; omega
     ·have hk33 : k = 33 := by omega
      subst hk33
      have hz := HDN.out z cc hdb
      subst hz
      have HSUB := Lib.hid (fun w hw => scl_rsub_any (2 * x + bn) w HY33.out hw)
      have HF : Hid ((if 2 * x + bn < scl_qN then 2 * x + bn else 2 * x + bn - scl_qN) = upQ (leN L) i) := Lib.hid (by rw [sub_once _ (by have := HX.out; have := HB2.out; omega), HSTEP.out])
      have hi1 : Hid ((Tryd.prog.info? 128).map (·.size) = some (ints .i64 (dig 33 (2 * x + bn))).length) := Lib.hid (by rw [ints_length, dig_length]; exact Tryd.arr128)
      have hi2 : Hid ((Tryd.prog.info? 128).map (·.size) = some (ints .i64 (dig 33 (upQ (leN L) i))).length) := Lib.hid (by rw [ints_length, dig_length]; exact Tryd.arr128)
      have hl2 : Hid ((ints .i64 (dig 33 (upQ (leN L) i))).length = (ints .i64 (dig 33 (2 * x + bn))).length) := Lib.hid (by rw [ints_length, ints_length, dig_length, dig_length])
      rw [HF.out] at HSUB
      have H1 := Lib.hid hb1
      have H2 := Lib.hid hb2
      have HE := Lib.hid hbel
      clear hb1 hb2 hbel hdb hcar hand
      generalize 2 * x + bn = y at *
      obtain ⟨x2, hx2⟩ : ∃ x2, x2 = upQ (leN L) i := ⟨_, rfl⟩
      rw [← hx2] at HSUB hi2 hl2
      have HX2 := Lib.hid hx2
      clear hx2 HF
      go_wp2_with (refine wpList_load_blk rfl _ _ rfl (A + 1) rfl _ _ _ _ H1.out Tryd.underlying128 hi1.out ?_)
      refine (HSUB.out _ (HG.out.ext HE.out)).mono ?_
      rintro e w5 ⟨rfl, hb5⟩
      have H1 := Lib.hid (ext_blk H1.out hb5)
      have H2 := Lib.hid (ext_blk H2.out hb5)
      have HE := Lib.hid (HE.out.trans hb5)
      clear hb5
      go_wp2_with (refine wpList_store_blk rfl _ _ _ rfl (A + 1) _ rfl rfl _ _ H1.out hl2.out hi2.out (ints_one _ _) ?_; intro w6 hb6 hg6)
      go_roundw
      case rel =>
       rw [HX2.out] at hb6
       exact ⟨i, by omega, rfl, hb6, H2.out.grown hg6 (by simp), ext_grown HE.out hg6 (by omega)⟩
      case measure => simp [intOf]
   ·have hj0 : j = 0 := by omega
    subst hj0
    have he0 : ((0 : Nat) : Int) - 1 = -1 := rfl
    rw [he0]
    have HNQ : Hid (nq (leN L : Nat) = bytesN 32 (upQ (leN L) 0)) := Lib.hid (by rw [nq_nat]; unfold upQ; rw [Nat.pow_zero, Nat.div_one])
    have HDG : Hid (∀ k, k < 33 → (dig 33 (upQ (leN L) 0)).getD k 0 = ((upQ (leN L) 0 / 256 ^ k % 256 : Nat) : Int)) := Lib.hid (fun k hk => dig_cut 33 _ k hk)
    have HNL := Lib.hid (nq_length (leN L : Nat))
    generalize upQ (leN L) 0 = x at *
    have HNB : Hid (∀ k, k < 32 → ((nq (leN L : Nat)).getD k 0).toNat = x / 256 ^ k % 256) := Lib.hid (fun k hk => by rw [HNQ.out, bytesN_getD 32 x k hk])
    obtain ⟨N, hN⟩ : ∃ N, N = nq (leN L : Nat) := ⟨_, rfl⟩
    rw [← hN] at HNB HNL
    have HNN : Hid (N = nq (leN (l.take 64) : Nat)) := Lib.hid (by rw [hN, HLT.out])
    clear hN
    have HDL := Lib.hid (dig_length 33 x)
    generalize dig 33 x = d at *
    have HD := Lib.hid (Blk.made wr (ints .u8 (List.replicate 32 0)) 23)
    have H1 := Lib.hid (hb1.alloc (.cells (ints .u8 (List.replicate 32 0)).toArray 23))
    have H2 := Lib.hid (hb2.alloc (.cells (ints .u8 (List.replicate 32 0)).toArray 23))
    have HE := Lib.hid (Ext.trans hbel (Ext.alloc wr (.cells (ints .u8 (List.replicate 32 0)).toArray 23)))
    have hDA : A + 1 < wr.heap.size := hb1.lt
    clear hb1 hb2 hbel HNQ
    go_wp2_with fail
    change Code.wp _ _ _ _ (wr.alloc (.cells (ints .u8 (List.replicate 32 0)).toArray 23))
    generalize wr.alloc (.cells (ints .u8 (List.replicate 32 0)).toArray 23) = w3 at *
    generalize wr.heap.size = D at *
    go_loopw [9] (fun iv wr => ∃ (k : Nat), k ≤ 32 ∧ iv = .int .i64 (k : Int) ∧ Blk wr D ((fill 32 N k).map bval) 23 ∧ Blk wr (A + 1) (ints .i64 d) 128 ∧ Blk wr A (ints .u8 (List.replicate 32 0)) 23 ∧ Ext w wr) (fun iv _ => 32 - (intOf iv).toNat)
    case atStart => exact ⟨0, by omega, rfl, by rw [fill_start]; exact HD.out, H1.out, H2.out, HE.out⟩
    case round =>
     clear HD H1 H2 HE
     obtain ⟨k, hk, rfl, hb3, hb1, hb2, hbel⟩ := hrel
     have k0 : (0 : Int) ≤ (k : Int) := Int.natCast_nonneg _
     by_cases hlk : k < 32
     ·have k1 : (k : Int) < 32 := by omega
      have k2 : (k : Int) < 33 := by omega
      have hdl := HDL.out
      have e1 := hb1.cell k
      rw [ints_get (by omega), HDG.out k (by omega)] at e1
      have hln : ((fill 32 N k).map bval).length = 32 := by rw [List.length_map, fill_length HNL.out (by omega)]
      have e3 := hb3.cell k
      rw [List.getElem?_eq_getElem (by omega)] at e3
      have f3 := hb3.free k
      generalize ((fill 32 N k).map bval)[k]'(by omega) = c3 at e3
      have hz : ((x / 256 ^ k % 256 : Nat) : Int) % 256 = ((N.getD k 0).toNat : Int) := by rw [HNB.out k hlk]; omega
      have HST := Lib.hid (fill_set_val HNL.out hlk hz)
      have hzb : x / 256 ^ k % 256 < 256 := Nat.mod_lt _ (by omega)
      have hz2 : ((x / 256 ^ k % 256 : Nat) : Int) % 256 = ((x / 256 ^ k % 256 : Nat) : Int) := by omega
      rw [hz2] at HST
      clear hz hz2
      generalize x / 256 ^ k % 256 = y at *
      have H1 := Lib.hid hb1
      have H2 := Lib.hid hb2
      have HD := Lib.hid hb3
      have HE := Lib.hid hbel
      clear hb1 hb2 hb3 hbel hdl hln
      go_wp2_with fail
      go_roundw
      case rel =>
       refine ⟨k + 1, by omega, by go_num, ?_, H1.out.far (by simp <;> omega) _, H2.out.far (by simp <;> omega) _, Below.setCell HE.out (by simp <;> omega) _⟩
       rw [← HST.out]
       exact HD.out.set k _
      case measure => simp [intOf]; omega
     ·have hk32 : k = 32 := by omega
      subst hk32
      rw [fill_full HNL.out] at hb3
      have H2 := Lib.hid hb2
      have HD := Lib.hid hb3
      have HE := Lib.hid hbel
      clear hb1 hb2 hb3 hbel
      have hi1 : Hid ((Tryd.prog.info? 23).map (·.size) = some (N.map bval).length) := Lib.hid (num_size HNL.out)
      have hl1 : Hid ((N.map bval).length = (ints .u8 (List.replicate 32 0)).length) := Lib.hid (by rw [List.length_map, HNL.out]; rfl)
      go_wp2_with (first | (refine wpList_load_blk rfl _ _ rfl D rfl _ _ _ _ HD.out Tryd.underlying23 hi1.out ?_) | (refine wpList_store_blk rfl _ _ _ rfl A _ rfl rfl _ _ H2.out hl1.out hi1.out (bval_one _) ?_; intro w7 hb7 hg7))
      exact bodyPost_ret (v := .agg (N.map bval).toArray) (result_row (by rfl) _ A _ _ _ (by rfl) hb7 Tryd.underlying23 rfl hi1.out) rfl ⟨by rw [HNN.out], ext_grown HE.out hg7 (by omega)⟩
theorem flat_succ (ls : List (List UInt8)) (k : Nat) (l : List UInt8) (h : ls[k]? = some l) : (ls.take (k + 1)).flatten = (ls.take k).flatten ++ l := by
 have hk : k < ls.length := by
  rcases Nat.lt_or_ge k ls.length with h' | h'
  ·exact h'
  ·rw [List.getElem?_eq_none h'] at h; cases h
 rw [List.take_succ_eq_append_getElem hk, List.flatten_append]
 rw [List.getElem?_eq_getElem hk] at h
 cases h
 simp
theorem flat_part (ls : List (List UInt8)) (k : Nat) : (ls.take k).flatten.length ≤ ls.flatten.length := by
 have h : ls.flatten = (ls.take k).flatten ++ (ls.drop k).flatten := by rw [← List.flatten_append, List.take_append_drop]
 rw [h, List.length_append]
 omega
set_option maxRecDepth 100000 in
set_option maxHeartbeats 4000000 in
theorem join_any (v : Value) (ls : List (List UInt8)) (w : World) (hv : RowB w v ls) (hb : ls.flatten.length ≤ 1099511627776) :
  Calls Tryd.prog 16 #[v] w fun e w' => ∃ x, e = .returned x ∧ Row1 w' x (ls.flatten.map bval) ∧ Below w.heap.size w w' := by
 obtain ⟨i0, hi, hz0, hz1, hz2⟩ := info_parts Tryd.info5
 obtain ⟨vals, hr, hlen, hx⟩ := hv
 obtain ⟨a, cap, rfl, r1, r2, r3, r4⟩ := id hr
 unfold maxLen at r2
 rw [hlen] at r1 ⊢
 have HI0 := Lib.hid hi
 have HZ0 := Lib.hid hz0
 have HZ1 := Lib.hid hz1
 have HZ2 := Lib.hid hz2
 have HX := Lib.hid hx
 have HC := Lib.hid r4
 have HLN := Lib.hid hlen
 have HB := Lib.hid hb
 have HNIL : Hid (w.ownsRow w.heap.size 5 1 (.slice none 0 0) 0 []) := Lib.hid (World.ownsRow_nil _ _ _ _)
 clear hr hx r3 r4 hb hlen hi hz0 hz1 hz2
 go_enter Tryd.func16, Tryd.ntmps16
 go_wp2_with fail
 go_loopw [3, 4] (fun x iv wr => ∃ (k : Nat), k ≤ ls.length ∧ iv = .int .i64 (k : Int) ∧ wr.ownsRow w.heap.size 5 1 x (ls.take k).flatten.length ((ls.take k).flatten.map bval) ∧ Ext w wr) (fun _ iv _ => ls.length - (intOf iv).toNat)
 case atStart => exact ⟨0, by omega, rfl, HNIL.out, Ext.refl w⟩
 case round =>
  clear HNIL
  obtain ⟨k, hk, rfl, ho, hE⟩ := hrel
  have k0 : (0 : Int) ≤ (k : Int) := Int.natCast_nonneg _
  have HO := Lib.hid ho
  have HE := Lib.hid hE
  have HS := Lib.hid hE.size
  clear ho hE
  by_cases hlk : k < ls.length
  ·have k1 : (k : Int) < (ls.length : Int) := by omega
   obtain ⟨b', off, rfl, hbs, hcell⟩ := HC.out (by intro e; have h := congrArg List.length e; rw [HLN.out] at h; simp only [List.length_nil] at h; omega)
   obtain ⟨xv, hxv⟩ : ∃ x, vals[k]? = some x := ⟨_, List.getElem?_eq_getElem (by rw [HLN.out]; exact hlk)⟩
   obtain ⟨lk, hlk2⟩ : ∃ x, ls[k]? = some x := ⟨_, List.getElem?_eq_getElem hlk⟩
   have HXR := Lib.hid ((HX.out k xv lk hxv hlk2).below HE.out)
   have hft := flat_succ ls k lk hlk2
   have hfl := flat_part ls (k + 1)
   rw [hft, List.length_append] at hfl
   have HFT := Lib.hid hft
   have c0 : wr.cell? ⟨b', off + k, none⟩ = some xv := by
    have h := hcell k (by rw [HLN.out]; exact hlk)
    rw [hxv] at h
    rw [← h]
    exact HE.out.cell (p := ⟨b', off + k, none⟩) hbs
   have HFL : Hid ((ls.take k).flatten.length + (lk.map bval).length ≤ 1099511627776) := Lib.hid (by rw [List.length_map]; have := HB.out; omega)
   clear hcell hxv hlk2 hft hfl
   go_wp2_with (at_builtin; refine wpList_append_row rfl _ _ 33 rfl w.heap.size 5 i0 (.int .u8 0) 1 Tryd.underlying33 HI0.out HZ0.out HZ1.out HZ2.out rfl _ _ _ rfl HO.out rfl HXR.out (bval_one _) (by have := HFL.out; unfold maxLen; omega) (by have := HFL.out; omega) HS.out ?_; intro v3 w3 hown3 hgrow3)
   go_roundw
   case rel =>
    refine ⟨k + 1, by omega, by go_num, ?_, ext_own HE.out HO.out (Nat.le_refl _) hgrow3⟩
    rw [HFT.out, List.map_append, List.length_append]
    rw [List.length_map] at hown3
    exact hown3
   case measure => simp [intOf]; omega
  ·have hk2 : (ls.length : Int) ≤ (k : Int) := by omega
   have hke : k = ls.length := by omega
   have hrw := Row1.of_own HO.out
   rw [hke, List.take_length] at hrw
   have HR := Lib.hid hrw
   clear hrw
   clear HO hke
   go_wp2_with fail
   go_ret
   exact ⟨_, rfl, HR.out, HE.out⟩
theorem sha512_take (m : List UInt8) : (sha512 m).take 64 = sha512 m := List.take_of_length_le (by rw [sha512_length]; exact Nat.le_refl _)
set_option maxRecDepth 100000 in
set_option maxHeartbeats 4000000 in
theorem rwide_f (v : Value) (ls : List (List UInt8)) (w : World) (hv : RowB w v ls) (hl : ls.flatten.length ≤ 1099511627776) (hK : GlobK5 w) (hO : GlobO w) : Calls Tryd.prog 33 #[v] w fun e w' => e = .returned (.agg ((wideB ls.flatten).map bval).toArray) ∧ Below w.heap.size w w' := by
 have HV := Lib.hid hv
 have HLL := Lib.hid hl
 have HK := Lib.hid hK
 have HGO := Lib.hid hO
 have HB := Lib.hid (boxes_one w (ints .u8 (List.replicate 32 0)) 23)
 clear hv hl hK hO
 go_enter Tryd.func33, Tryd.ntmps33
 go_upto_region 1 with (fail)
 obtain ⟨H1, HE⟩ := HB.out
 change Code.wp _ _ _ _ (w.alloc (.cells (ints .u8 (List.replicate 32 0)).toArray 23))
 generalize w.alloc (.cells (ints .u8 (List.replicate 32 0)).toArray 23) = wa at *
 obtain ⟨A, hA⟩ : ∃ A, A = w.heap.size := ⟨_, rfl⟩
 have HO : Hid (w.heap.size ≤ A) := Lib.hid (by omega)
 rw [← hA] at H1 ⊢
 have HR := Lib.hid H1
 have HE : Hid (Ext w wa) := Lib.hid HE
 clear hA HB H1
 go_wp2_with fail
 refine (join_any v ls wa (HV.out.below HE.out) HLL.out).mono ?_
 rintro e wb ⟨x, rfl, hx, hb⟩
 have HX := Lib.hid hx
 have HR := Lib.hid (ext_blk HR.out hb)
 have HE := Lib.hid (HE.out.trans hb)
 clear hx hb
 go_wp2_with fail
 refine (rShb_any x ls.flatten wb HX.out HLL.out (HK.out.ext HE.out)).mono ?_
 rintro e wc ⟨rfl, hb⟩
 have HR := Lib.hid (ext_blk HR.out hb)
 have HE := Lib.hid (HE.out.trans hb)
 clear hb HX
 have HSL := Lib.hid (sha512_length ls.flatten)
 have HWB : Hid (wideB ls.flatten = nq (leN ((sha512 ls.flatten).take 64) : Nat)) := Lib.hid (by rw [sha512_take]; rfl)
 generalize sha512 ls.flatten = h at *
 have HZ := Lib.hid (Blk.made wc (ints .u8 (List.replicate 64 0)) 30)
 have HEA := Lib.hid (Ext.alloc wc (.cells (ints .u8 (List.replicate 64 0)).toArray 30))
 have HL : Hid ((h.map bval).length = (ints .u8 (List.replicate 64 0)).length) := Lib.hid (by rw [List.length_map, HSL.out, ints_length]; rfl)
 go_upto_region 2 with (refine wpList_store_blk rfl _ _ _ rfl wc.heap.size (h.map bval) rfl rfl _ _ HZ.out HL.out (sig_size HSL.out) (bval_one _) ?_; intro wd hb2 hg2)
 have HXX := Lib.hid (ext_grown HEA.out hg2 (Nat.le_refl _))
 have HR := Lib.hid (ext_blk HR.out HXX.out)
 have HE := Lib.hid (HE.out.trans HXX.out)
 generalize wc.heap.size = S at *
 have HSR := Lib.hid (blk_row (n := 64) hb2 (by rw [List.length_map, HSL.out]) (by unfold maxLen; omega))
 clear hb2 hg2 HZ HEA HXX HL
 go_wp2_with fail
 refine (rReduce_num _ h wd HSR.out (HGO.out.ext HE.out)).mono ?_
 rintro e we ⟨rfl, hb⟩
 have HR := Lib.hid (ext_blk HR.out hb)
 have HE := Lib.hid (HE.out.trans hb)
 clear hb HSR
 rw [← HWB.out]
 have HWL := Lib.hid (wideB_length ls.flatten)
 have HL : Hid (((wideB ls.flatten).map bval).length = (ints .u8 (List.replicate 32 0)).length) := Lib.hid (by rw [List.length_map, HWL.out, ints_length]; rfl)
 go_wp2_with (refine wpList_store_blk rfl _ _ _ rfl A ((wideB ls.flatten).map bval) rfl rfl _ _ HR.out HL.out (num_size HWL.out) (bval_one _) ?_; intro w9 hb9 hg9)
 refine bodyPost_ret (result_blk rfl _ A _ _ _ _ rfl hb9 Tryd.underlying23 (num_size HWL.out)) rfl ⟨rfl, ext_grown HE.out hg9 HO.out⟩
def byl (l : List UInt8) : List Int := l.map fun b => (b.toNat : Int)
theorem byl_getD (l : List UInt8) (i : Nat) : (byl l).getD i 0 = ((l.getD i 0).toNat : Int) := by
 unfold byl
 simp only [List.getD, List.getElem?_map]
 cases l[i]? <;> simp
theorem byl_range (l : List UInt8) (i : Nat) : 0 ≤ (byl l).getD i 0 ∧ (byl l).getD i 0 ≤ 255 := by
 rw [byl_getD]
 have := UInt8.toNat_lt (l.getD i 0)
 omega
theorem u8_oneV : (Tryd.prog.info? 5).map (·.size) = some 1 := by kernel_rfl
theorem rwide_v (v : Value) (ls : List (List UInt8)) (l : List UInt8) (w : World) (hv : RowB w v ls) (hf : ls.flatten = l) (hl : l.length ≤ 1099511627776) (hK : GlobK5 w) (hO : GlobO w) : Calls Tryd.prog 33 #[v] w fun e w' => e = .returned (.agg ((wideB l).map bval).toArray) ∧ Below w.heap.size w w' := by
 subst hf
 exact rwide_f v ls w hv hl hK hO
end Go.Proofs.YtckggbkoabmjiaaDoor
