/- Texts that belong together, one behind the other. -/
import Derived.Laws.Tables
import Derived.Deep.Quiet
import Derived.OrdersHeld
import Derived.Deep.RegionHeld
import Derived.ChangeKeysEq
import Derived.Deep.MidRow
import Derived.WalkKit
import Derived.WalkSpells
import Derived.WalkLawsBesides
import Derived.Lib.Hide
import Derived.Deep.QuietTactic
import Derived.BigQuiet
import Derived.Deep.RegionHeld3
import Derived.Deep.AppendLies
import Derived.OneCell
import Derived.Great.BuildSlice
import Derived.Laws.ResultCell
import Derived.KernelRfl
import Derived.ProofKit
import Derived.Test.YtckggbkoabmjiaaDoorQz01
import Derived.Test.YtckggbkoabmjiaaDoorQz02
import Derived.Test.YtckggbkoabmjiaaDoorQz12
import Derived.Test.YtckggbkoabmjiaaDoorQz13
namespace Go.Proofs.YtckggbkoabmjiaaDoor
set_option linter.unusedVariables false
set_option linter.unusedSimpArgs false
open Go.RowKit
theorem rng_mid {w : World} {c : Nat} {t : TypeId} {pre mid post : List Value} (h : Blk w c (pre ++ (mid ++ post)) t) {o : Nat} (ho : pre.length = o) : w.rangeAt c o mid := fun j v hj => by
 subst ho
 have hjl : j < mid.length := by
  rcases Nat.lt_or_ge j mid.length with h' | h'
  ·exact h'
  ·rw [List.getElem?_eq_none h'] at hj; cases hj
 rw [h.cell, List.getElem?_append_right (by omega), Nat.add_sub_cancel_left, List.getElem?_append_left hjl]
 exact hj
theorem ElF.toL {v : Value} {f : Fp} (h : ElF v f) : ∃ zs : List Int, v = .agg (ints .i64 zs).toArray ∧ ElL zs f := by
 obtain ⟨zs, rfl, hl⟩ := h.form
 exact ⟨zs, rfl, hl, h⟩
def PtB (w : World) (g : Nat) (s : ES) : Prop := ∃ a b c d, Blk w g (ptC a b c d) 56 ∧ PtZ a b c d s
theorem PtB.ext {w w' : World} {g : Nat} {s : ES} (h : PtB w g s) (hb : Ext w w') : PtB w' g s := by
 obtain ⟨a, b, c, d, h1, h2⟩ := h
 exact ⟨a, b, c, d, ext_blk h1 hb, h2⟩
theorem PtB.grown {w w' : World} {g r : Nat} {s : ES} (h : PtB w g s) (hg : w.grownBy w' (some r)) (hr : some r ≠ some g) : PtB w' g s := by
 obtain ⟨a, b, c, d, h1, h2⟩ := h
 exact ⟨a, b, c, d, h1.grown hg hr, h2⟩
theorem rng_x {w : World} {g : Nat} {t : TypeId} {a b c d : List Int} (h : Blk w g (ptC a b c d) t) : w.rangeAt g 0 (ints .i64 a) := rng_mid (pre := []) h rfl
theorem rng_y {w : World} {g : Nat} {t : TypeId} {a b c d : List Int} (h : Blk w g (ptC a b c d) t) (ha : a.length = 16) : w.rangeAt g 16 (ints .i64 b) := rng_mid (pre := ints .i64 a) h (by rw [ints_length, ha])
theorem rng_z {w : World} {g : Nat} {t : TypeId} {a b c d : List Int} (h : Blk w g (ptC a b c d) t) (ha : a.length = 16) (hb : b.length = 16) : w.rangeAt g 32 (ints .i64 c) :=
 rng_mid (pre := ints .i64 a ++ ints .i64 b) (mid := ints .i64 c) (post := ints .i64 d) (by simpa [ptC] using h) (by simp [ints_length, ha, hb])
theorem rng_t {w : World} {g : Nat} {t : TypeId} {a b c d : List Int} (h : Blk w g (ptC a b c d) t) (ha : a.length = 16) (hb : b.length = 16) (hc : c.length = 16) : w.rangeAt g 48 (ints .i64 d) :=
 rng_mid (pre := ints .i64 a ++ ints .i64 b ++ ints .i64 c) (mid := ints .i64 d) (post := []) (by simpa [ptC] using h) (by simp [ints_length, ha, hb, hc])
def bxL : List Int := [54554, 36645, 11616, 51542, 42930, 38181, 51040, 26924, 56412, 64982, 57905, 49316, 21502, 52590, 14035, 8553]
def byL : List Int := [26200, 26214, 26214, 26214, 26214, 26214, 26214, 26214, 26214, 26214, 26214, 26214, 26214, 26214, 26214, 26214]
def GlobX (w : World) : Prop := w.rangeAt 0 0 (ints .i64 bxL)
def GlobY (w : World) : Prop := w.rangeAt 1 0 (ints .i64 byL)
theorem GlobX.ext {w w' : World} (h : GlobX w) (hb : Ext w w') : GlobX w' := glob_ext h hb
theorem GlobY.ext {w w' : World} (h : GlobY w) (hb : Ext w w') : GlobY w' := glob_ext h hb
theorem bx_el : ElL bxL (fp bX) := var_el rfl (by decide) (by decide +kernel)
theorem by_el : ElL byL (fp bY) := var_el rfl (by decide) (by decide +kernel)
theorem qi_rotq (a : Q64) (n : Nat) : bits .or .u64 (qi a / 2 ^ n) (IntKind.u64.wrap (qi a * 2 ^ (64 - n))) = qi (rotq a n) := by
 rw [qi_shr, qi_shl, qi_or]
 rfl
theorem paddedQ_length (b : List UInt8) : (paddedQ b).length = 128 * ((b.length + 144) / 128) := by
 simp only [paddedQ, padQ, List.length_append, List.length_replicate, beB_length, List.length_cons, List.length_nil]
 omega
theorem Tryd.arr96 : (Tryd.prog.info? 96).map (·.size) = some 8 := by kernel_rfl
set_option maxHeartbeats 1000000 in
theorem rot_any (x : Q64) (n : Nat) (hn : n ≤ 64) (w : World) : Calls Tryd.prog 90 #[.int .u64 (qi x), .int .u64 (n : Int)] w fun e w' => e = .returned (.int .u64 (qi (rotq x n))) ∧ w = w' := by
 have HX := Lib.hid (qi_rotq x n)
 have hr := qi_range x
 generalize qi x = z at *
 have n0 : (n : Int) ≤ 64 := by omega
 go_enter Tryd.func90, Tryd.ntmps90
 go_wp2_with fail
 go_ret
 exact ⟨congrArg (fun v => Ending.returned (.int .u64 v)) (by rw [← HX.out, IntKind.wrap_u64]), rfl⟩
theorem rot_ext (x : Q64) (n : Nat) (hn : n ≤ 64) (w : World) : Calls Tryd.prog 90 #[.int .u64 (qi x), .int .u64 (n : Int)] w fun e w' => e = .returned (.int .u64 (qi (rotq x n))) ∧ Below w.heap.size w w' :=
 (rot_any x n hn w).mono fun _ _ h => ⟨h.1, by obtain ⟨_, rfl⟩ := h; exact Below.refl _ _⟩
def lenOf : Value → Nat
 | .slice _ n _ => n
 | _ => 0
theorem ownRow_len {w : World} {base : Nat} {e : TypeId} {n : Nat} {x : Value} {xs : List Value} (h : w.ownsRow base e 1 x n xs) : lenOf x = n := by
 obtain ⟨_, ⟨rfl, rfl⟩ | ⟨g, cap, cur, rfl, _⟩⟩ := h
 ·rfl
 ·rfl
theorem own_eq {w : World} {base : Nat} {e : TypeId} {n m : Nat} {x : Value} {xs ys : List Value} (h : w.ownsRow base e 1 x n xs) (hn : n = m) (hx : xs = ys) : w.ownsRow base e 1 x m ys := by
 subst hn; subst hx
 exact h
def padA (b : List UInt8) (k : Nat) : List UInt8 := b ++ [128] ++ List.replicate k 0
theorem padA_succ (b : List UInt8) (k : Nat) : padA b (k + 1) = padA b k ++ [0] := by
 unfold padA
 rw [List.replicate_succ']
 simp [List.append_assoc]
theorem padA_length (b : List UInt8) (k : Nat) : (padA b k).length = b.length + 1 + k := by simp [padA]; omega
theorem beB_get (n : Nat) : ∀ k j, j < k → (beB k n)[j]? = some (UInt8.ofNat (n / 256 ^ (k - 1 - j) % 256))
 | 0, j, h => by omega
 | k + 1, 0, h => by simp [beB]
 | k + 1, j + 1, h => by
  simp only [beB, List.getElem?_cons_succ]
  rw [beB_get n k j (by omega)]
  congr 5
  omega
def padC (b : List UInt8) (k : Nat) : List UInt8 := padA b (padQ b.length) ++ (beB 16 (8 * b.length)).take k
theorem padC_full (b : List UInt8) : padC b 16 = paddedQ b := by
 unfold padC paddedQ padA
 rw [List.take_of_length_le (by rw [beB_length]; exact Nat.le_refl _)]
theorem padC_succ (b : List UInt8) (k : Nat) (hk : k < 16) : padC b (k + 1) = padC b k ++ [UInt8.ofNat (8 * b.length / 256 ^ (15 - k) % 256)] := by
 unfold padC
 have hl : k < (beB 16 (8 * b.length)).length := by rw [beB_length]; exact hk
 rw [List.take_succ_eq_append_getElem hl, List.append_assoc]
 congr 2
 have h1 := beB_get (8 * b.length) 16 k hk
 rw [List.getElem?_eq_getElem hl] at h1
 simpa using h1
theorem padQ_test (n k : Nat) (hk : k ≤ padQ n) : ((n + 1 + k) % 128 = 112 ↔ k = padQ n) := by
 unfold padQ at *
 omega
set_option maxRecDepth 100000 in
set_option maxHeartbeats 4000000 in
theorem paddedQ_any (v : Value) (b : List UInt8) (w : World) (hv : Row1 w v (b.map bval)) (hb : b.length ≤ 1099511627776) :
  Calls Tryd.prog 89 #[v, .int .i64 128, .int .i64 16] w fun e w' => ∃ x, e = .returned x ∧ Row1 w' x ((paddedQ b).map bval) ∧ Below w.heap.size w w' := by
 obtain ⟨i0, hi, hz0, hz1, hz2⟩ := info_parts Tryd.info5
 have HRW := Lib.hid hv
 obtain ⟨a, cap, hva, r1, r2, r3, r4⟩ := id hv
 rw [List.length_map] at hva r1
 unfold maxLen at r2
 subst hva
 have HI0 := Lib.hid hi
 have HZ0 := Lib.hid hz0
 have HZ1 := Lib.hid hz1
 have HZ2 := Lib.hid hz2
 have HLM : Hid ((b.map bval).length = b.length) := Lib.hid (List.length_map _)
 have HNIL : Hid (w.ownsRow w.heap.size 5 1 (.slice none 0 0) 0 []) := Lib.hid (World.ownsRow_nil _ _ _ _)
 clear hv r3 r4 hi hz0 hz1 hz2
 go_enter Tryd.func89, Tryd.ntmps89
 go_wp2_with (first | (at_builtin; refine wpList_append_row rfl _ _ 33 rfl w.heap.size 5 i0 (.int .u8 0) 1 Tryd.underlying33 HI0.out HZ0.out HZ1.out HZ2.out rfl _ 0 [] rfl HNIL.out rfl HRW.out (bval_one _) (by rw [HLM.out]; unfold maxLen; omega) (by rw [HLM.out]; omega) (Nat.le_refl _) ?_; intro v1 w1 hown1 hgrow1; have HO1 := Lib.hid hown1; have HX1 := Lib.hid (ext_own (Ext.refl w) HNIL.out (Nat.le_refl _) hgrow1); have HS1 := Lib.hid hgrow1.size; clear hown1 hgrow1) | (at_builtin; refine wpList_append_row rfl _ _ 33 rfl w.heap.size 5 i0 (.int .u8 0) 1 Tryd.underlying33 HI0.out HZ0.out HZ1.out HZ2.out rfl _ (0 + (b.map bval).length) _ rfl (HO1.out.alloc _) rfl (Row1.made _ #[.int .u8 128] _ _ 1 ([128].map bval) rfl rfl rfl (by unfold maxLen; omega)) (bval_one _) (by rw [HLM.out]; unfold maxLen; simp; omega) (by rw [HLM.out]; simp; omega) (by simp; have := HS1.out; omega) ?_; intro v2 w2 hown2 hgrow2))
 have HX2 := Lib.hid (ext_own (HX1.out.trans (Ext.alloc w1 (.cells #[.int .u8 128] 5))) (HO1.out.alloc _) (Nat.le_refl _) hgrow2)
 have HO2 : Hid (w2.ownsRow w.heap.size 5 1 v2 (padA b 0).length ((padA b 0).map bval)) := Lib.hid (by
  have h := hown2
  rw [List.nil_append, ← List.map_append] at h
  have e : 0 + (b.map bval).length + ([128].map bval).length = (padA b 0).length := by simp [padA]
  rw [e] at h
  simpa [padA] using h)
 clear hown2 hgrow2 HO1 HX1 HS1
 go_loopw [7] (fun x wr => ∃ (k : Nat), k ≤ padQ b.length ∧ wr.ownsRow w.heap.size 5 1 x (padA b k).length ((padA b k).map bval) ∧ Ext w wr) (fun x _ => b.length + 1 + padQ b.length - lenOf x)
 case atStart => exact ⟨0, by omega, HO2.out, HX2.out⟩
 case round =>
  clear HO2 HX2
  obtain ⟨k, hk, ho, hE⟩ := hrel
  obtain ⟨a2, cap2, rfl, s1, s2, s3, s4⟩ := id (Row1.of_own ho)
  have hpl := padA_length b k
  have ht := padQ_test b.length k hk
  have hp63 : padQ b.length < 128 := by unfold padQ; omega
  have HO := Lib.hid ho
  have HE := Lib.hid hE
  rw [List.length_map, hpl] at s1 HO ⊢
  unfold maxLen at s2
  clear ho hE s3 s4
  by_cases hkn : k = padQ b.length
  ·subst hkn
   have hd : (((b.length + 1 + padQ b.length : Nat) : Int) % 128 != 112) = false := by simp; omega
   have HO2 : Hid (wr.ownsRow w.heap.size 5 1 (.slice a2 (b.length + 1 + padQ b.length) cap2) (padC b 0).length ((padC b 0).map bval)) := Lib.hid (own_eq HO.out (by simp [padC, padA]; omega) (by simp [padC]))
   clear HO ht hpl s1 s2
   generalize b.length + 1 + padQ b.length = n at *
   go_wp2_with fail
   obtain ⟨wo, rfl⟩ : ∃ wo : World, wo = wr := ⟨_, rfl⟩
   go_loopw [7, 9] (fun x i wr => ∃ (j : Nat), j ≤ 16 ∧ i = .int .i64 (15 - (j : Int)) ∧ wr.ownsRow w.heap.size 5 1 x (padC b j).length ((padC b j).map bval) ∧ Ext w wr) (fun _ i _ => (intOf i + 1).toNat)
   case atStart => exact ⟨0, by omega, rfl, HO2.out, HE.out⟩
   case round =>
    clear HO2 HE
    obtain ⟨j, hj, rfl, ho, hE⟩ := hrel
    have HO := Lib.hid ho
    have HE := Lib.hid hE
    have HS := Lib.hid hE.size
    have hpb : (padC b j).length ≤ 1099511628200 := by simp [padC, padA]; omega
    by_cases hj8 : j < 16
    ·have HBS := Lib.hid (padC_succ b j hj8)
     obtain ⟨k, hk⟩ : ∃ k : Nat, k = 15 - j := ⟨_, rfl⟩
     have hk2 : (15 : Int) - (j : Int) = (k : Int) := by omega
     rw [hk2]
     have HJ : Hid (j + k = 15) := Lib.hid (by omega)
     rw [← hk] at HBS
     clear ho hE hk hk2 hj hj8
     have k0 : (0 : Int) ≤ (k : Int) := Int.natCast_nonneg _
     by_cases hk8 : k < 8
     ·have k8 : (k : Int) < 8 := by omega
      clear hk8
      obtain ⟨s, hs⟩ : ∃ s : Nat, s = 8 * k := ⟨_, rfl⟩
      have hs2 : 8 * (k : Int) = (s : Int) := by omega
      have s64 : (s : Int) < 64 := by omega
      have e1 : (2 : Int) ^ s = ((256 ^ k : Nat) : Int) := by rw [hs, Int.pow_mul]; simp
      have hv2 : 8 * (b.length : Int) / 2 ^ s = ((8 * b.length / 256 ^ k : Nat) : Int) := by
       have e2 : 8 * (b.length : Int) = ((8 * b.length : Nat) : Int) := by omega
       rw [e1, e2, ← Int.natCast_ediv]
      have hvb : 8 * b.length / 256 ^ k ≤ 8 * b.length := Nat.div_le_self _ _
      have hq : ((UInt8.ofNat (8 * b.length / 256 ^ k % 256)).toNat : Int) = ((8 * b.length / 256 ^ k : Nat) : Int) % 256 := by rw [UInt8.toNat_ofNat']; omega
      have HQ := Lib.hid hq
      generalize UInt8.ofNat (8 * b.length / 256 ^ k % 256) = c at *
      generalize 8 * b.length / 256 ^ k = q at *
      have hm := and_i64_255 (q : Int) (by omega) (by omega)
      have HBV : Hid (bval c = .int .u8 ((q : Int) % 256)) := Lib.hid (by unfold bval; rw [hq])
      clear hs hq e1
      go_wp2_with (at_builtin; refine wpList_append_row rfl _ _ 33 rfl w.heap.size 5 i0 (.int .u8 0) 1 Tryd.underlying33 HI0.out HZ0.out HZ1.out HZ2.out rfl _ (padC b j).length _ rfl (HO.out.alloc _) rfl (Row1.made _ #[.int .u8 ((q : Int) % 256)] _ _ 1 [.int .u8 ((q : Int) % 256)] rfl rfl rfl (by unfold maxLen; omega)) (by intro u hu; simp at hu; subst hu; rfl) (by unfold maxLen; simp; omega) (by simp; omega) (by simp; have := HS.out; omega) ?_; intro v3 w3 hown3 hgrow3)
      go_roundw
      case rel =>
       refine ⟨j + 1, by have := HJ.out; omega, ?_, own_eq hown3 (by rw [HBS.out]; simp) (by rw [HBS.out, List.map_append, List.map_cons, List.map_nil, HBV.out]), ext_own (HE.out.trans (Ext.alloc wr _)) (HO.out.alloc _) (Nat.le_refl _) hgrow3⟩
       have := HJ.out
       rw [show (k : Int) - 1 = 15 - ((j + 1 : Nat) : Int) from by omega]
      case measure => simp [intOf]
     ·have k8 : 8 ≤ (k : Int) := by omega
      have k16 : (k : Int) ≤ 15 := by have := HJ.out; omega
      have hq : ((UInt8.ofNat (8 * b.length / 256 ^ k % 256)).toNat : Int) = 0 := by
       have h1 : 8 * b.length / 256 ^ k = 0 := by
        apply Nat.div_eq_of_lt
        have h2 : (256 : Nat) ^ 8 ≤ 256 ^ k := Nat.pow_le_pow_right (by omega) (by omega)
        have h3 : (256 : Nat) ^ 8 = 18446744073709551616 := rfl
        omega
       rw [h1]
       rfl
      generalize UInt8.ofNat (8 * b.length / 256 ^ k % 256) = c at *
      have HBV : Hid (bval c = .int .u8 0) := Lib.hid (by unfold bval; rw [hq])
      clear hq hk8
      go_wp2_with (at_builtin; refine wpList_append_row rfl _ _ 33 rfl w.heap.size 5 i0 (.int .u8 0) 1 Tryd.underlying33 HI0.out HZ0.out HZ1.out HZ2.out rfl _ (padC b j).length _ rfl (HO.out.alloc _) rfl (Row1.made _ #[.int .u8 0] _ _ 1 [.int .u8 0] rfl rfl rfl (by unfold maxLen; omega)) (by intro u hu; simp at hu; subst hu; rfl) (by unfold maxLen; simp; omega) (by simp; omega) (by simp; have := HS.out; omega) ?_; intro v3 w3 hown3 hgrow3)
      go_roundw
      case rel =>
       refine ⟨j + 1, by have := HJ.out; omega, ?_, own_eq hown3 (by rw [HBS.out]; simp) (by rw [HBS.out, List.map_append, List.map_cons, List.map_nil, HBV.out]), ext_own (HE.out.trans (Ext.alloc wr _)) (HO.out.alloc _) (Nat.le_refl _) hgrow3⟩
       have := HJ.out
       rw [show (k : Int) - 1 = 15 - ((j + 1 : Nat) : Int) from by omega]
      case measure => simp [intOf]
    ·have hj8' : j = 16 := by omega
     subst hj8'
     have hm1 : (15 : Int) - ((16 : Nat) : Int) = -1 := rfl
     rw [hm1]
     have hr0 := Row1.of_own ho
     rw [padC_full] at hr0
     have HR := Lib.hid hr0
     clear hr0
     clear ho hE hj hj8 HO hpb
     go_wp2_with fail
     go_ret
     exact ⟨_, rfl, HR.out, HE.out⟩
  ·have hd : (((b.length + 1 + k : Nat) : Int) % 128 != 112) = true := by simp; omega
   have hL : ((b.length + 1 + k : Nat) : Int) = (b.length : Int) + 1 + (k : Int) := by omega
   have HS := Lib.hid HE.out.size
   have HK : Hid (k < padQ b.length) := Lib.hid (by omega)
   clear ht hL
   generalize hn : b.length + 1 + k = n at *
   have HN := Lib.hid hn
   have hn9 : n ≤ 1099511628200 := by omega
   clear hn hpl hkn hk
   go_wp2_with (at_builtin; refine wpList_append_row rfl _ _ 33 rfl w.heap.size 5 i0 (.int .u8 0) 1 Tryd.underlying33 HI0.out HZ0.out HZ1.out HZ2.out rfl _ n _ rfl (HO.out.alloc _) rfl (Row1.made _ #[.int .u8 0] _ _ 1 ([0].map bval) rfl rfl rfl (by unfold maxLen; omega)) (bval_one _) (by unfold maxLen; simp; omega) (by simp; omega) (by simp; have := HS.out; omega) ?_; intro v3 w3 hown3 hgrow3)
   go_roundw
   case rel =>
    refine ⟨k + 1, HK.out, own_eq hown3 (by rw [padA_length, ← HN.out]; simp; omega) (by rw [padA_succ, List.map_append]), ext_own (HE.out.trans (Ext.alloc wr (.cells #[.int .u8 0] 5))) (HO.out.alloc _) (Nat.le_refl _) hgrow3⟩
   case measure =>
    rw [ownRow_len hown3]
    have := HN.out
    have := HK.out
    simp [lenOf]
    omega
def MsgAt (B0 c off : Nat) (m : List UInt8) (w : World) : Prop := c < B0 ∧ B0 ≤ w.heap.size ∧ ∀ j, j < m.length → w.cell? ⟨c, off + j, none⟩ = some (.int .u8 ((m.getD j 0).toNat : Int))
theorem MsgAt.ext {B0 c off : Nat} {m : List UInt8} {w w' : World} (h : MsgAt B0 c off m w) (he : Ext w w') : MsgAt B0 c off m w' :=
 ⟨h.1, Nat.le_trans h.2.1 he.size, fun j hj => by rw [← h.2.2 j hj]; exact he.cell (p := ⟨c, off + j, none⟩) (Nat.lt_of_lt_of_le h.1 h.2.1)⟩
theorem MsgAt.drew {B0 c off : Nat} {m : List UInt8} {w : World} (h : MsgAt B0 c off m w) : MsgAt B0 c off m w.drew := h
theorem MsgAt.far {B0 c off : Nat} {m : List UInt8} {w : World} (h : MsgAt B0 c off m w) {a : Addr} (ha : a.block ≠ c) (v : Value) : MsgAt B0 c off m (w.setCell a v) :=
 ⟨h.1, by simpa [World.setCell] using h.2.1, fun j hj => by rw [← h.2.2 j hj]; exact World.cell?_setCell_other _ _ _ _ (by rintro rfl; exact ha rfl)⟩
theorem MsgAt.grown {B0 c off : Nat} {m : List UInt8} {w w' : World} {r : Option Nat} (h : MsgAt B0 c off m w) (hg : w.grownBy w' r) (hr : r ≠ some c) : MsgAt B0 c off m w' :=
 ⟨h.1, Nat.le_trans h.2.1 hg.size, fun j hj => by
  rw [← h.2.2 j hj]
  have := hg.block c (Nat.lt_of_lt_of_le h.1 h.2.1) (fun e => hr e.symm)
  simp [World.cell?, this]⟩
theorem not_bytes {K : IntKind} (hK : K ≠ .u8) {zs : List Int} {i : Nat} {z : Int} : (ints K zs)[i]? ≠ some (.int .u8 z) := by
 unfold ints
 rw [List.getElem?_map]
 cases zs[i]? <;> simp [hK]
end Go.Proofs.YtckggbkoabmjiaaDoor
