/- Texts that belong together, one behind the other. -/
import Derived.Lib.SlBytesConst
import Derived.KernelRfl
import Derived.Laws.ResultCell
import Derived.Deep.MidRow
import Derived.WalkKit
import Derived.WalkSpells
import Derived.WalkLawsBesides
import Derived.Lib.Hide
import Derived.Deep.QuietTactic
import Derived.BigQuiet
import Derived.Deep.RegionHeld3
import Derived.Deep.AppendLies
import Derived.OneCell
import Derived.Deep.Quiet
import Derived.OrdersHeld
import Derived.Deep.RegionHeld
import Derived.ChangeKeysEq
import Derived.Deep.CutRange
import Derived.Lib.AppendZeros
import Derived.ProofKit
import Derived.WalkMore
import Derived.Deep.RegionWith
import Derived.StillTailTactics
import Derived.Laws.Entries
import Derived.Great.BuildSlice
import Derived.ScopeJumps
import Derived.Control
import Derived.Laws.CopyOwn
import Derived.Laws.Slices
import Derived.Laws.Tables
import Derived.Lib.Mul64
import Derived.Laws.Bits64b
import Derived.Laws.Externs
import Derived.Test.YtckggbkoabmjiaaDoorQz01
import Derived.Test.YtckggbkoabmjiaaDoorQz02
import Derived.Test.YtckggbkoabmjiaaDoorQz03
import Derived.Test.YtckggbkoabmjiaaDoorQz09
import Derived.Test.YtckggbkoabmjiaaDoorQz13
import Derived.Test.YtckggbkoabmjiaaDoorQz14
namespace Go.Proofs.YtckggbkoabmjiaaDoor
set_option linter.unusedVariables false
set_option linter.unusedSimpArgs false
open Go.RowKit
theorem cver_one (key g l : List UInt8) (x : Value) (w : World) (hk : key.length = 32) (hg : g.length = 64) (hx : Row1 w x (l.map bval)) (hl : l.length ≤ 1000000000000) (hR : GlobRQ w) (hT : GlobT w) (hG : GlobC w) :
  Calls Tryd.prog 17 #[.agg (key.map bval).toArray, .agg (g.map bval).toArray, .slice (some ⟨w.heap.size, 0, none⟩) 1 1] (w.alloc (.cells #[x] 33)) fun e w' => e = .returned (.bool (verB key g l)) ∧ Below w.heap.size w w' := by
 have he := Ext.alloc w (.cells #[x] 33)
 have h := CVer_num key g _ [l] _ hk hg (rowB1 (Row1.made w #[x] 33 _ 1 [x] rfl rfl rfl (by unfold maxLen; omega)) (hx.below he)) (by simpa using hl) (by simp) (hR.ext he) (hT.ext he) (hG.ext he)
 refine h.mono ?_
 rintro e w' ⟨h1, h2⟩
 rw [show [l].flatten = l from by simp] at h1
 exact ⟨h1, he.trans h2⟩
def qLg : List UInt8 := [237, 211, 245, 92, 26, 99, 18, 88, 214, 156, 247, 162, 222, 249, 222, 20, 0, 0, 0, 0, 0, 0, 0, 0, 0, 0, 0, 0, 0, 0, 0, 16]
theorem qLg_length : qLg.length = 32 := rfl
theorem qLg_val : leN qLg = qB := by decide +kernel
def gC (S : List UInt8) : Nat → Nat
 | 0 => 0
 | k + 1 => (gC S k + (S.getD k 0).toNat + (qLg.getD k 0).toNat) / 256
def gB (S : List UInt8) : Nat → List UInt8
 | 0 => []
 | k + 1 => gB S k ++ [UInt8.ofNat ((gC S k + (S.getD k 0).toNat + (qLg.getD k 0).toNat) % 256)]
theorem gB_length (S : List UInt8) : ∀ k, (gB S k).length = k
 | 0 => rfl
 | k + 1 => by rw [gB, List.length_append, gB_length S k]; rfl
theorem gC_le (S : List UInt8) : ∀ k, gC S k ≤ 1
 | 0 => Nat.zero_le _
 | k + 1 => by
  have h := gC_le S k
  have h1 := (S.getD k 0).toNat_lt
  have h2 := (qLg.getD k 0).toNat_lt
  rw [gC]
  omega
theorem leN_snoc' : ∀ (l : List UInt8) (b : UInt8), leN (l ++ [b]) = leN l + 256 ^ l.length * b.toNat
 | [], b => by simp [leN]
 | a :: l, b => by
  simp only [List.cons_append, leN, leN_snoc' l b, List.length_cons, Nat.pow_succ]
  rw [Nat.mul_add, ← Nat.mul_assoc, Nat.mul_comm 256 (256 ^ l.length)]
  omega
theorem leN_take_next (l : List UInt8) (k : Nat) (h : k < l.length) : leN (l.take (k + 1)) = leN (l.take k) + 256 ^ k * (l.getD k 0).toNat := by
 rw [List.take_succ_eq_append_getElem h, leN_snoc', List.length_take, Nat.min_eq_left (by omega)]
 simp [List.getD, h]
theorem gB_sum (S : List UInt8) (hS : S.length = 32) : ∀ k, k ≤ 32 → leN (gB S k) + 256 ^ k * gC S k = leN (S.take k) + leN (qLg.take k)
 | 0, _ => by simp [gB, gC, leN]
 | k + 1, h => by
  have ih := gB_sum S hS k (by omega)
  rw [gB, leN_snoc', gB_length, gC, leN_take_next S k (by omega), leN_take_next qLg k (by rw [qLg_length]; omega)]
  generalize gC S k = c at *
  generalize (S.getD k 0).toNat = x at *
  generalize (qLg.getD k 0).toNat = y at *
  have hz : (UInt8.ofNat ((c + x + y) % 256)).toNat = (c + x + y) % 256 := by
   rw [UInt8.toNat_ofNat']
   omega
  rw [hz, Nat.pow_succ]
  generalize leN (gB S k) = a at *
  generalize leN (S.take k) = s at *
  generalize leN (qLg.take k) = q at *
  generalize 256 ^ k = P at *
  have hd := Nat.div_add_mod (c + x + y) 256
  generalize (c + x + y) / 256 = d at *
  generalize (c + x + y) % 256 = r at *
  have e1 : P * r + P * 256 * d = P * (c + x + y) := by rw [← hd, Nat.mul_add, Nat.mul_assoc]; omega
  have e2 : P * (c + x + y) = P * c + P * x + P * y := by rw [Nat.mul_add, Nat.mul_add]
  omega
def hL (r S : List UInt8) (k : Nat) : List UInt8 := r ++ (gB S k ++ S.drop k)
theorem hL_length {r S : List UInt8} (hr : r.length = 32) (hS : S.length = 32) (k : Nat) (hk : k ≤ 32) : (hL r S k).length = 64 := by
 unfold hL
 rw [List.length_append, List.length_append, gB_length, List.length_drop, hr, hS]
 omega
theorem hL_set {r S : List UInt8} (hr : r.length = 32) (hS : S.length = 32) (k : Nat) (hk : k < 32) : (hL r S k).set (32 + k) (UInt8.ofNat ((gC S k + (S.getD k 0).toNat + (qLg.getD k 0).toNat) % 256)) = hL r S (k + 1) := by
 unfold hL
 rw [List.set_append_right _ _ (by omega), hr, Nat.add_sub_cancel_left, List.set_append_right _ _ (by rw [gB_length]; omega), gB_length, Nat.sub_self]
 rw [List.drop_eq_getElem_cons (by omega : k < S.length), List.set_cons_zero, gB, List.append_assoc]
 rfl
theorem hL_zero (r S : List UInt8) : hL r S 0 = r ++ S := by simp [hL, gB]
theorem hL_drop {r S : List UInt8} (hr : r.length = 32) (hS : S.length = 32) : (hL r S 32).drop 32 = gB S 32 := by
 unfold hL
 rw [List.drop_append, List.drop_eq_nil_of_le (by omega), List.nil_append, hr, Nat.sub_self, List.drop_zero, List.drop_eq_nil_of_le (by omega), List.append_nil]
theorem hL_great {r S : List UInt8} (hr : r.length = 32) (hS : S.length = 32) (hq : leN S < qB) : lessB ((hL r S 32).drop 32) = false := by
 rw [hL_drop hr hS]
 have h := gB_sum S hS 32 (Nat.le_refl _)
 rw [List.take_of_length_le (by omega), List.take_of_length_le (by rw [qLg_length]; omega), qLg_val] at h
 have h2 : 2 * qB < 256 ^ 32 := by decide +kernel
 have h1 := gC_le S 32
 have hc : gC S 32 = 0 := by
  rcases (by omega : gC S 32 = 0 ∨ gC S 32 = 1) with e | e
  ·exact e
  ·rw [e, Nat.mul_one] at h
   generalize (256 : Nat) ^ 32 = P at *
   omega
 rw [hc, Nat.mul_zero, Nat.add_zero] at h
 unfold lessB
 rw [decide_eq_false_iff_not, ← qB_q]
 omega
theorem great_not (sd m : List UInt8) : verB (edPub sd) (hL (edR sd m) (edS sd m) 32) m = false := by
 refine verB_false (ver_great (hL_great (edR_length _ _) (edS_length _ _) ?_))
 rw [leN_edS]
 exact Nat.mod_lt _ (by decide +kernel)
theorem great_zero (sd m : List UInt8) : hL (edR sd m) (edS sd m) 0 = edSign sd m := hL_zero _ _
set_option maxRecDepth 100000 in
set_option maxHeartbeats 8000000 in
theorem curveGreat_any (sd : List UInt8) (v : Value) (m : List UInt8) (w : World) (ha : sd.length = 32) (ht : Row1 w v (m.map bval)) (hR : GlobRQ w) (hT : GlobT w) (hG : GlobC w) : Calls Tryd.prog 5 #[.agg (sd.map bval).toArray, v] w fun e w' => e = .returned (.bool true) ∧ Below w.heap.size w w' := by
 have HAL := Lib.hid ha
 clear ha
 obtain ⟨tA, tC, hform, hlc, hcm, _⟩ := id ht
 rw [List.length_map] at hform hlc
 subst hform
 unfold maxLen at hcm
 have Ht := Lib.hid ht
 clear ht
 obtain ⟨iq, hq0, hq1, hq2⟩ := info_two (P := Tryd.prog) (t := 33) (z := .slice none 0 0) (n := 1) (by kernel_rfl)
 have HQ0 := Lib.hid hq0
 have HQ1 := Lib.hid hq1
 have HQ2 := Lib.hid hq2
 clear hq0 hq1 hq2
 have HGR := Lib.hid hR
 have HGT := Lib.hid hT
 have HGC := Lib.hid hG
 clear hR hT hG
 have HB := Lib.hid (boxes_one w (sd.map bval) 23)
 go_enter Tryd.func5, Tryd.ntmps5
 go_upto_region 1 with (fail)
 obtain ⟨H1, HE⟩ := HB.out
 change Code.wp _ _ _ _ (World.alloc w (.cells (sd.map bval).toArray 23))
 generalize (World.alloc w (.cells (sd.map bval).toArray 23)) = wa at *
 obtain ⟨A, hA⟩ : ∃ A, A = w.heap.size := ⟨_, rfl⟩
 have HAW : Hid (w.heap.size ≤ A) := Lib.hid (by omega)
 rw [← hA] at H1 ⊢
 have H1 := Lib.hid H1
 have HE : Hid (Ext w wa) := Lib.hid HE
 clear hA HB
 go_wp2_with fail
 refine (alive_any13 _ (HGR.out.ext HE.out) (HGT.out.ext HE.out) (HGC.out.ext HE.out)).mono ?_
 rintro e w5 ⟨rfl, hb⟩
 have H1 := Lib.hid (ext_blk H1.out hb)
 have HE := Lib.hid (HE.out.trans hb)
 clear hb
 generalize w5 = w6 at *
 by_cases h3 : 500 < m.length
 ·have h3' : (500 : Int) < (m.length : Int) := by omega
  go_wp2_with fail
  go_ret
  exact ⟨rfl, HE.out⟩
 ·have h3' : (m.length : Int) ≤ 500 := by omega
  have d3 : decide (500 < (m.length : Int)) = false := decide_eq_false (by omega)
  have HLS : Hid (m.length ≤ 500) := Lib.hid (by omega)
  clear h3
  go_wp2_with (first | (refine wpList_load_mid rfl _ _ rfl A 0 rfl _ _ (H1.out.range) Tryd.underlying23 rfl (num_size HAL.out) ?_))
  refine (csign_one sd m _ _ HAL.out (Ht.out.below HE.out) (by have := HLS.out; omega) (HGR.out.ext HE.out) (HGT.out.ext HE.out) (HGC.out.ext HE.out)).mono ?_
  rintro e wp ⟨rfl, hb⟩
  have H1 := Lib.hid (ext_blk H1.out hb)
  have HE := Lib.hid (HE.out.trans hb)
  clear hb
  have HGD : Hid ((edSign sd m).drop 32 = edS sd m) := Lib.hid (sign_drop sd m)
  have HGZ := Lib.hid (great_zero sd m)
  have HGN := Lib.hid (great_not sd m)
  have HVT : Hid (verB (edPub sd) (edSign sd m) m = true) := Lib.hid (verB_true (ver_sign sd m))
  have HRL := Lib.hid (edR_length sd m)
  have HSL := Lib.hid (edS_length sd m)
  have HLgb := Lib.hid (edSign_length sd m)
  obtain ⟨gb, hnm⟩ : ∃ k, k = edSign sd m := ⟨_, rfl⟩
  rw [← hnm] at HLgb HGD HGZ HVT ⊢
  have HNgb := Lib.hid hnm
  clear hnm
  obtain ⟨S, hS⟩ : ∃ k, k = edS sd m := ⟨_, rfl⟩
  obtain ⟨r, hR2⟩ : ∃ k, k = edR sd m := ⟨_, rfl⟩
  rw [← hS] at HGD HGZ HGN HSL
  rw [← hR2] at HGZ HGN HRL
  clear hS hR2
  have HZ := Lib.hid (Blk.made wp (ints .u8 (List.replicate 64 0)) 30)
  have HEA := Lib.hid (Ext.alloc wp (.cells (ints .u8 (List.replicate 64 0)).toArray 30))
  have HL : Hid ((gb.map bval).length = (ints .u8 (List.replicate 64 0)).length) := Lib.hid (by rw [List.length_map, HLgb.out]; rfl)
  go_upto_region 5 with (refine wpList_store_blk rfl _ _ _ rfl wp.heap.size (gb.map bval) rfl rfl _ _ HZ.out HL.out (sig_size HLgb.out) (bval_one _) ?_; intro w7 hb hg)
  have HX := Lib.hid (ext_grown HEA.out hg (Nat.le_refl _))
  obtain ⟨pg, hT⟩ : ∃ T, T = wp.heap.size := ⟨_, rfl⟩
  rw [← hT] at hb ⊢
  clear hT
  have H1 := Lib.hid (ext_blk H1.out HX.out)
  have HE := Lib.hid (HE.out.trans HX.out)
  have HVg := Lib.hid hb
  clear hb hg HX HZ HEA HL
  generalize w7 = wg at *
  go_upto_region 6 with (fail)
  have HQB := Lib.hid (Blk.made wg (qLg.map bval) 5)
  have HEQ := Lib.hid (Ext.alloc wg (.cells (qLg.map bval).toArray 5))
  change Code.wp _ _ _ _ (wg.alloc (.cells (qLg.map bval).toArray 5))
  obtain ⟨pq, hT⟩ : ∃ T, T = wg.heap.size := ⟨_, rfl⟩
  rw [← hT] at HQB ⊢
  clear hT
  generalize wg.alloc (.cells (qLg.map bval).toArray 5) = wq at *
  have H1 := Lib.hid (ext_blk H1.out HEQ.out)
  have HVg := Lib.hid (ext_blk HVg.out HEQ.out)
  have HE := Lib.hid (HE.out.trans HEQ.out)
  clear HEQ
  have HZ := Lib.hid (Blk.made wq (ints .u8 (List.replicate 64 0)) 30)
  have HEA := Lib.hid (Ext.alloc wq (.cells (ints .u8 (List.replicate 64 0)).toArray 30))
  have HL : Hid ((gb.map bval).length = (ints .u8 (List.replicate 64 0)).length) := Lib.hid (by rw [List.length_map, HLgb.out]; rfl)
  have HLT : Hid (A < wq.heap.size ∧ pg < wq.heap.size ∧ pq < wq.heap.size) := Lib.hid ⟨H1.out.lt, HVg.out.lt, HQB.out.lt⟩
  go_upto_region 7 with (first | (refine wpList_load_mid rfl _ _ rfl pg 0 rfl _ _ HVg.out.range Tryd.underlying30 rfl (sig_size HLgb.out) ?_) | (refine wpList_store_blk rfl _ _ _ rfl wq.heap.size (gb.map bval) rfl rfl _ _ HZ.out HL.out (sig_size HLgb.out) (bval_one _) ?_; intro w7 hb hg))
  have HX := Lib.hid (ext_grown HEA.out hg (Nat.le_refl _))
  obtain ⟨ph, hT⟩ : ∃ T, T = wq.heap.size := ⟨_, rfl⟩
  rw [← hT] at hb HLT ⊢
  clear hT
  have H1 := Lib.hid (ext_blk H1.out HX.out)
  have HVg := Lib.hid (ext_blk HVg.out HX.out)
  have HQB := Lib.hid (ext_blk HQB.out HX.out)
  have HE := Lib.hid (HE.out.trans HX.out)
  rw [← HGZ.out] at hb
  have HVh := Lib.hid hb
  clear hb hg HX HZ HEA HL
  generalize w7 = wh at *
  go_wp2_with fail
  go_loopw [9, 10] (fun cv iv wr => ∃ k : Nat, k ≤ 32 ∧ cv = .int .i64 ((gC S k : Nat) : Int) ∧ iv = .int .i64 (k : Int) ∧ Blk wr ph ((hL r S k).map bval) 30 ∧ Blk wr pg (gb.map bval) 30 ∧ Blk wr pq (qLg.map bval) 5 ∧ Blk wr A (sd.map bval) 23 ∧ Ext w wr) (fun _ iv _ => 32 - (intOf iv).toNat)
  case atStart => exact ⟨0, by omega, rfl, rfl, HVh.out, HVg.out, HQB.out, H1.out, HE.out⟩
  case round =>
   clear HVh HVg HQB H1 HE
   obtain ⟨k, hk, rfl, rfl, q1, q2, q3, q4, q5⟩ := hrel
   have HVh := Lib.hid q1
   have HVg := Lib.hid q2
   have HQB := Lib.hid q3
   have H1 := Lib.hid q4
   have HE := Lib.hid q5
   clear q1 q2 q3 q4 q5
   have k0 : (0 : Int) ≤ (k : Int) := Int.natCast_nonneg _
   by_cases hlt : k < 32
   ·have k1 : (k : Int) < 32 := by omega
    have hsk : gb.getD (32 + k) 0 = S.getD k 0 := by rw [← HGD.out]; simp [List.getD, List.getElem?_drop]
    have e1 := HVg.out.cell (32 + k)
    rw [bval_get (by have := HLgb.out; omega), hsk] at e1
    have e2 := HQB.out.cell k
    rw [bval_get (by rw [qLg_length]; omega)] at e2
    have hset := hL_set HRL.out HSL.out k hlt
    have hc1 := gC_le S k
    have hcn : gC S (k + 1) = (gC S k + (S.getD k 0).toNat + (qLg.getD k 0).toNat) / 256 := rfl
    have hx := (S.getD k 0).toNat_lt
    have hy := (qLg.getD k 0).toNat_lt
    have HSE := Lib.hid hset
    have HCN := Lib.hid hcn
    clear hset hcn hsk
    generalize (S.getD k 0).toNat = x at *
    generalize (qLg.getD k 0).toNat = y at *
    generalize gC S k = c at *
    have x0 : (0 : Int) ≤ (x : Int) := Int.natCast_nonneg _
    have y0 : (0 : Int) ≤ (y : Int) := Int.natCast_nonneg _
    have c0 : (0 : Int) ≤ (c : Int) := Int.natCast_nonneg _
    have x1 : (x : Int) < 256 := by omega
    have y1 : (y : Int) < 256 := by omega
    have c1 : (c : Int) ≤ 1 := by omega
    obtain ⟨jn, hjn⟩ : ∃ j, j = 32 + k := ⟨_, rfl⟩
    obtain ⟨s, hs⟩ : ∃ s, s = c + x + y := ⟨_, rfl⟩
    obtain ⟨b, hb⟩ : ∃ b, b = s % 256 := ⟨_, rfl⟩
    obtain ⟨c2, hc2⟩ : ∃ c2, gC S (k + 1) = c2 := ⟨_, rfl⟩
    have hj64 : jn < 64 := by omega
    have HJ : Hid (IntKind.i64.wrap (32 + (k : Int)) = (jn : Int)) := Lib.hid (by rw [IntKind.wrap_i64]; omega)
    have HWX : Hid (IntKind.i64.wrap (x : Int) = (x : Int)) := Lib.hid (by rw [IntKind.wrap_i64]; omega)
    have HWY : Hid (IntKind.i64.wrap (y : Int) = (y : Int)) := Lib.hid (by rw [IntKind.wrap_i64]; omega)
    have HWA : Hid (IntKind.i64.wrap ((c : Int) + (x : Int)) = (c : Int) + (x : Int)) := Lib.hid (by rw [IntKind.wrap_i64]; omega)
    have HWS : Hid (IntKind.i64.wrap ((c : Int) + (x : Int) + (y : Int)) = (s : Int)) := Lib.hid (by rw [IntKind.wrap_i64]; omega)
    rw [← hjn] at e1
    rw [show c + x + y = s from hs.symm, ← hb, ← hjn] at HSE
    rw [show c + x + y = s from hs.symm, hc2] at HCN
    have HE1 := Lib.hid e1
    have HE2 := Lib.hid e2
    have HC1 : Hid (∀ w', Ext wr w' → w'.cell? ⟨pg, jn, none⟩ = some (.int .u8 (x : Int))) := Lib.hid (fun w' hw' => by rw [← HE1.out]; exact hw'.cell (p := ⟨pg, jn, none⟩) HVg.out.lt)
    have HC2 : Hid (∀ w', Ext wr w' → w'.cell? ⟨pq, 0 + k, none⟩ = some (.int .u8 (y : Int))) := Lib.hid (fun w' hw' => by rw [Nat.zero_add, ← HE2.out]; exact hw'.cell (p := ⟨pq, k, none⟩) HQB.out.lt)
    have hand : bits .and .i64 (s : Int) 255 = (b : Int) := by rw [and_i64_255 _ (by omega) (by omega)]; omega
    have hjk : 32 + (k : Int) = (jn : Int) := by omega
    have hsh : (s : Int) / 256 = (c2 : Int) := by have := HCN.out; omega
    have hb0 : (0 : Int) ≤ (b : Int) := Int.natCast_nonneg _
    have hb1 : (b : Int) < 256 := by omega
    have hs0 : (0 : Int) ≤ (s : Int) := Int.natCast_nonneg _
    have hs1 : (s : Int) < 1000 := by omega
    have hjl : (jn : Int) < 64 := by omega
    have hbn : (UInt8.ofNat b).toNat = b := by rw [UInt8.toNat_ofNat']; omega
    have HX1 : Hid (((hL r S k).map bval).set jn (.int .u8 (b : Int)) = (hL r S (k + 1)).map bval) := Lib.hid (by
     have h := u8_set (hL r S k) jn (UInt8.ofNat b)
     rw [hbn, HSE.out] at h
     exact h)
    have f1 := HVh.out.free jn
    have HC2E := Lib.hid hc2
    clear e1 e2 hs hb hc2 hbn hjn
    go_wp2_with fail
    refine wp_region_all (by kernel_rfl) (by kernel_rfl) ?_
    refine det_move _ (.int .i64 (c : Int)) (by rfl) rfl rfl ?_
    simp only [Act.put, nrm]
    refine det_move _ (.int .i64 (k : Int)) (by rfl) rfl rfl ?_
    simp only [Act.put, nrm]
    refine det_add _ _ _ _ .i64 32 (k : Int) (jn : Int) (by rfl) rfl rfl rfl HJ.out ?_
    simp only [Act.put, nrm]
    refine det_index _ _ _ _ pg 64 jn (by rfl) rfl rfl rfl Tryd.underlying30 hj64 (Tryd.sizeOf5) ?_
    simp only [Act.put, nrm]
    refine det_cell _ _ pg jn (.int .u8 (x : Int)) (by rfl) rfl rfl HC1.out (Tryd.isAgg5) ?_
    simp only [Act.put, nrm]
    refine det_conv _ _ _ .u8 .i64 (x : Int) (x : Int) (by rfl) rfl rfl rfl Tryd.underlying3 HWX.out ?_
    simp only [Act.put, nrm]
    refine det_add _ _ _ _ .i64 (c : Int) (x : Int) ((c : Int) + (x : Int)) (by rfl) rfl rfl rfl HWA.out ?_
    simp only [Act.put, nrm]
    refine det_move _ (.slice (some ⟨pq, 0, none⟩) 32 32) (by rfl) rfl rfl ?_
    simp only [Act.put, nrm]
    refine det_move _ (.int .i64 (k : Int)) (by rfl) rfl rfl ?_
    simp only [Act.put, nrm]
    refine det_sindex _ _ _ _ pq 0 32 32 k (by rfl) rfl rfl rfl Tryd.underlying33 hlt Tryd.sizeOf5 ?_
    simp only [Act.put, nrm]
    refine det_cell _ _ pq (0 + k) (.int .u8 (y : Int)) (by rfl) rfl rfl HC2.out (Tryd.isAgg5) ?_
    simp only [Act.put, nrm]
    refine det_conv _ _ _ .u8 .i64 (y : Int) (y : Int) (by rfl) rfl rfl rfl Tryd.underlying3 HWY.out ?_
    simp only [Act.put, nrm]
    refine det_add _ _ _ _ .i64 ((c : Int) + (x : Int)) (y : Int) (s : Int) (by rfl) rfl rfl rfl HWS.out ?_
    simp only [Act.put, nrm]
    refine det_assign _ (.int .i64 (s : Int)) (by rfl) rfl rfl ?_
    simp only [Act.put, nrm]
    refine det_nil (fun wd hwd => ?_)
    have HVh := Lib.hid (ext_blk HVh.out hwd)
    have HVg := Lib.hid (ext_blk HVg.out hwd)
    have HQB := Lib.hid (ext_blk HQB.out hwd)
    have H1 := Lib.hid (ext_blk H1.out hwd)
    have HE := Lib.hid (HE.out.trans hwd)
    clear hwd f1
    have f1 := HVh.out.free jn
    obtain ⟨hv, hhv⟩ : ∃ v, wd.cell? ⟨ph, jn, none⟩ = some v := ⟨_, by rw [HVh.out.cell jn]; exact List.getElem?_eq_getElem (by rw [List.length_map, hL_length HRL.out HSL.out k hk]; exact hj64)⟩
    go_upto_region 13 with (fail)
    have HM := Lib.hid (HVh.out.set jn (.int .u8 (b : Int)))
    rw [HX1.out] at HM
    have HVg := Lib.hid (HVg.out.far (a := ⟨ph, jn, none⟩) (by have := HLT.out; simp; omega) (.int .u8 (b : Int)))
    have HQB := Lib.hid (HQB.out.far (a := ⟨ph, jn, none⟩) (by have := HLT.out; simp; omega) (.int .u8 (b : Int)))
    have H1 := Lib.hid (H1.out.far (a := ⟨ph, jn, none⟩) (by have := HLT.out; simp; omega) (.int .u8 (b : Int)))
    have HE := Lib.hid (Below.setCell HE.out (p := ⟨ph, jn, none⟩) (by have := HLT.out; have := HAW.out; simp; omega) (.int .u8 (b : Int)))
    generalize wd.setCell ⟨ph, jn, none⟩ (.int .u8 (b : Int)) = we at *
    have HE : Hid (Ext w we) := Lib.hid HE.out
    clear hhv f1 HX1 HVh
    go_wp2_with fail
    go_roundw
    case rel => exact ⟨k + 1, by omega, by rw [HC2E.out], by go_num, HM.out, HVg.out, HQB.out, H1.out, HE.out⟩
    case measure => simp [intOf]; omega
   ·have hk' : k = 32 := by omega
    subst hk'
    have HHL := Lib.hid (hL_length HRL.out HSL.out 32 (Nat.le_refl _))
    obtain ⟨hb, hhb⟩ : ∃ h, h = hL r S 32 := ⟨_, rfl⟩
    rw [← hhb] at HVh HHL HGN
    clear hhb
    clear k0 hlt hk
    go_wp2_with (first | (refine wpList_load_mid rfl _ _ rfl A 0 rfl _ _ (H1.out.range) Tryd.underlying23 rfl (num_size HAL.out) ?_))
    refine (CPub_num sd _ HAL.out (HGR.out.ext HE.out) (HGC.out.ext HE.out)).mono ?_
    rintro e wk ⟨rfl, hb⟩
    have H1 := Lib.hid (ext_blk H1.out hb)
    have HVg := Lib.hid (ext_blk HVg.out hb)
    have HVh := Lib.hid (ext_blk HVh.out hb)
    have HE := Lib.hid (HE.out.trans hb)
    clear hb
    have HLkb := Lib.hid (edPub_length sd)
    obtain ⟨kb, hnm⟩ : ∃ k, k = edPub sd := ⟨_, rfl⟩
    rw [← hnm] at HLkb HVT HGN ⊢
    have HNkb := Lib.hid hnm
    clear hnm
    have HZ := Lib.hid (Blk.made wk (ints .u8 (List.replicate 32 0)) 23)
    have HEA := Lib.hid (Ext.alloc wk (.cells (ints .u8 (List.replicate 32 0)).toArray 23))
    have HL : Hid ((kb.map bval).length = (ints .u8 (List.replicate 32 0)).length) := Lib.hid (by rw [List.length_map, HLkb.out]; rfl)
    go_upto_region 15 with (refine wpList_store_blk rfl _ _ _ rfl wk.heap.size (kb.map bval) rfl rfl _ _ HZ.out HL.out (num_size HLkb.out) (bval_one _) ?_; intro w7 hb hg)
    have HX := Lib.hid (ext_grown HEA.out hg (Nat.le_refl _))
    obtain ⟨pk, hT⟩ : ∃ T, T = wk.heap.size := ⟨_, rfl⟩
    rw [← hT] at hb ⊢
    clear hT
    have H1 := Lib.hid (ext_blk H1.out HX.out)
    have HVg := Lib.hid (ext_blk HVg.out HX.out)
    have HVh := Lib.hid (ext_blk HVh.out HX.out)
    have HE := Lib.hid (HE.out.trans HX.out)
    have HVk := Lib.hid hb
    clear hb hg HX HZ HEA HL
    generalize w7 = wk at *
    go_wp2_with (first | (refine wpList_load_mid rfl _ _ rfl pk 0 rfl _ _ HVk.out.range Tryd.underlying23 rfl (num_size HLkb.out) ?_) | (refine wpList_load_mid rfl _ _ rfl pg 0 rfl _ _ HVg.out.range Tryd.underlying30 rfl (sig_size HLgb.out) ?_))
    refine (cver_one kb gb m _ _ HLkb.out HLgb.out (Ht.out.below HE.out) (by have := HLS.out; omega) (HGR.out.ext HE.out) (HGT.out.ext HE.out) (HGC.out.ext HE.out)).mono ?_
    rintro e wv ⟨rfl, hb⟩
    have H1 := Lib.hid (ext_blk H1.out hb)
    have HVg := Lib.hid (ext_blk HVg.out hb)
    have HVh := Lib.hid (ext_blk HVh.out hb)
    have HVk := Lib.hid (ext_blk HVk.out hb)
    have HE := Lib.hid (HE.out.trans hb)
    clear hb
    rw [HVT.out]
    go_wp2_with (first | (refine wpList_load_w (by rfl) _ _ rfl pk rfl _ _ _ _ HVk.out Tryd.underlying23 (num_size HLkb.out) ?_) | (refine wpList_load_w (by rfl) _ _ rfl ph rfl _ _ _ _ HVh.out Tryd.underlying30 (sig_size HHL.out) ?_))
    refine (cver_one kb hb m _ _ HLkb.out HHL.out (Ht.out.below HE.out) (by have := HLS.out; omega) (HGR.out.ext HE.out) (HGT.out.ext HE.out) (HGC.out.ext HE.out)).mono ?_
    rintro e wu ⟨rfl, hb⟩
    have H1 := Lib.hid (ext_blk H1.out hb)
    have HVg := Lib.hid (ext_blk HVg.out hb)
    have HVh := Lib.hid (ext_blk HVh.out hb)
    have HVk := Lib.hid (ext_blk HVk.out hb)
    have HE := Lib.hid (HE.out.trans hb)
    clear hb
    rw [HGN.out]
    go_wp2_with fail
    go_ret
    exact ⟨rfl, HE.out⟩
end Go.Proofs.YtckggbkoabmjiaaDoor
