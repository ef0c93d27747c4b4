/- Lemmas. -/
import Derived.Test.YthafgicndklgfaaGreatDoorQy16
namespace Go.Proofs.YthafgicndklgfaaGreatDoor
set_option linter.unusedVariables false
set_option maxRecDepth 100000
set_option maxHeartbeats 32000000
set_option linter.unusedSimpArgs false
open Go.RowKit
theorem leN_byte (l : List UInt8) (i : Nat) (h : i < l.length) : (l.getD i 0).toNat = leN l / 256 ^ i % 256 := by
 have := zdd l.length (leN l) i h
 rwa [zfa] at this
def scl_cA (a b i : Nat) : Nat := (a % 256 ^ i + b % 256 ^ i) / 256 ^ i
theorem cA_zero (a b : Nat) : scl_cA a b 0 = 0 := by simp [scl_cA, Nat.mod_one]
theorem cA_step (a b i : Nat) : (scl_cA a b i + a / 256 ^ i % 256 + b / 256 ^ i % 256) % 256 = (a + b) / 256 ^ i % 256 ∧ (scl_cA a b i + a / 256 ^ i % 256 + b / 256 ^ i % 256) / 256 = scl_cA a b (i + 1) := by
 have hP : 0 < 256 ^ i := Nat.pow_pos (by omega)
 unfold scl_cA
 rw [q128]
 generalize 256 ^ i = P at *
 have ea := Nat.div_add_mod a P
 have eb := Nat.div_add_mod b P
 have e1 : (a + b) / P = a / P + b / P + (a % P + b % P) / P := by
  have : a + b = (a % P + b % P) + P * (a / P + b / P) := by rw [Nat.mul_add]; omega
  rw [this, Nat.add_mul_div_left _ _ hP, Nat.add_comm]
 have e2 : ∀ z : Nat, z % (P * 256) = z % P + P * (z / P % 256) := fun z => Nat.mod_mul
 have e3 : (a % (P * 256) + b % (P * 256)) / (P * 256) = ((a % P + b % P) / P + (a / P % 256 + b / P % 256)) / 256 := by
  rw [← q177, e2, e2]
  congr 1
  have : a % P + P * (a / P % 256) + (b % P + P * (b / P % 256)) = (a % P + b % P) + P * (a / P % 256 + b / P % 256) := by rw [Nat.mul_add]; omega
  rw [this, Nat.add_mul_div_left _ _ hP]
 rw [e1, e3]
 generalize (a % P + b % P) / P = c
 generalize a / P = x
 generalize b / P = y
 omega
def tAll (x y : List Int) : Nat → List Int
 | 0 => List.replicate 64 0
 | i + 1 => mRow (tAll x y i) x y i 32
theorem tAll_length (x y : List Int) : ∀ i, (tAll x y i).length = 64
 | 0 => by simp [tAll]
 | i + 1 => by rw [tAll, zdk, tAll_length x y i]
theorem tRow_range {p x y : List Int} {i : Nat} {C : Int} (hi : i < 32) (hp : p.length = 64) (hC : ∀ k, 0 ≤ p.getD k 0 ∧ p.getD k 0 ≤ C) (hx : ∀ j, 0 ≤ x.getD j 0 ∧ x.getD j 0 ≤ 255) (hy : ∀ j, 0 ≤ y.getD j 0 ∧ y.getD j 0 ≤ 255) :
  ∀ j, j ≤ 32 → ∀ k, 0 ≤ (mRow p x y i j).getD k 0 ∧ (mRow p x y i j).getD k 0 ≤ C + 65025
 | 0, _, k => by have := hC k; simp only [mRow]; omega
 | j + 1, hj, k => by
  have ih := tRow_range hi hp hC hx hy j (by omega) k
  have hm := mul_range (hx i).1 (hx i).2 (hy j).1 (hy j).2
  simp only [mRow]
  by_cases e : i + j = k
  ·subst e
   rw [zal (by rw [zdk]; omega), mRow_far p x y i j _ (by omega)]
   have := hC (i + j)
   omega
  ·rw [zag e]
   exact ih
theorem tAll_range {x y : List Int} (hx : ∀ j, 0 ≤ x.getD j 0 ∧ x.getD j 0 ≤ 255) (hy : ∀ j, 0 ≤ y.getD j 0 ∧ y.getD j 0 ≤ 255) : ∀ i, i ≤ 32 → ∀ k, 0 ≤ (tAll x y i).getD k 0 ∧ (tAll x y i).getD k 0 ≤ (i : Int) * 65025
 | 0, _, k => by
  simp only [tAll, List.getD, List.getElem?_replicate]
  split <;> simp
 | i + 1, hi, k => by
  have := tRow_range (i := i) (C := (i : Int) * 65025) (by omega) (tAll_length x y i) (tAll_range hx hy i (by omega)) hx hy 32 (by omega) k
  simp only [tAll]
  omega
theorem tRow_val (p x y : List Int) (i : Nat) (hi : i < 32) (hp : p.length = 64) (hy : y.length = 32) : ∀ j, j ≤ 32 → gV 256 (mRow p x y i j) = gV 256 p + x.getD i 0 * 256 ^ i * gV 256 (y.take j)
 | 0, _ => by simp [mRow, gV]
 | j + 1, hj => by
  simp only [mRow]
  rw [gV_set _ _ _ _ (by rw [zdk]; omega), tRow_val p x y i hi hp hy j (by omega), zcc _ y j (by omega), q135]
  generalize (mRow p x y i j).getD (i + j) 0 = a
  generalize (256 : Int) ^ i = X
  generalize (256 : Int) ^ j = Y
  generalize gV 256 (y.take j) = T
  generalize y.getD j 0 = t
  generalize x.getD i 0 = u
  grind
theorem tAll_val (x y : List Int) (hx : x.length = 32) (hy : y.length = 32) : ∀ i, i ≤ 32 → gV 256 (tAll x y i) = gV 256 (x.take i) * gV 256 y
 | 0, _ => by simp [tAll, gV_zeros, gV]
 | i + 1, hi => by
  simp only [tAll]
  have e : y.take 32 = y := q110 (by omega)
  rw [tRow_val _ _ _ _ (by omega) (tAll_length x y i) hy 32 (by omega), tAll_val x y hx hy i (by omega), zcc _ x i (by omega), e]
  generalize (256 : Int) ^ i = X
  generalize gV 256 y = T
  generalize gV 256 (x.take i) = S
  generalize x.getD i 0 = u
  grind
def cM (t : List Int) (i : Nat) : Int := gV 256 (t.take i) / 256 ^ i
theorem cM_zero (t : List Int) : cM t 0 = 0 := by simp [cM, gV]
theorem cM_step (t : List Int) (i : Nat) (hi : i < t.length) : (cM t i + t.getD i 0) % 256 = gV 256 t / 256 ^ i % 256 ∧ (cM t i + t.getD i 0) / 256 = cM t (i + 1) := by
 have hP : (0 : Int) < 256 ^ i := Int.pow_pos (by omega)
 have e1 : gV 256 t = gV 256 (t.take i) + 256 ^ i * (t.getD i 0 + 256 * gV 256 (t.drop (i + 1))) := by
  have h := gV_cut 256 t i (by omega)
  rw [q164 hi, gV] at h
  rw [getD_eq hi]
  exact h
 unfold cM
 refine ⟨?_, ?_⟩
 ·rw [e1, Int.add_mul_ediv_left _ _ (by omega)]
  generalize gV 256 (t.take i) / 256 ^ i = c
  omega
 ·rw [zcc _ t i hi, q122, ← Int.ediv_ediv_of_nonneg (by omega), Int.mul_comm (t.getD i 0), Int.add_mul_ediv_left _ _ (by omega)]
theorem cM_range {t : List Int} {M : Int} (hM : ∀ k, 0 ≤ t.getD k 0 ∧ t.getD k 0 ≤ M) : ∀ i, i ≤ t.length → 0 ≤ cM t i ∧ cM t i ≤ M
 | 0, _ => by rw [cM_zero]; have := hM 0; omega
 | i + 1, hi => by
  have ih := cM_range hM i (by omega)
  have h := (cM_step t i (by omega)).2
  have := hM i
  omega
theorem prod_val (l m : List UInt8) (hl : l.length = 32) (hm : m.length = 32) : gV 256 (tAll (byl l) (byl m) 32) = ((leN l * leN m : Nat) : Int) := by
 have h1 : (byl l).length = 32 := by simp [byl, hl]
 have h2 : (byl m).length = 32 := by simp [byl, hm]
 have e : (byl l).take 32 = byl l := q110 (by omega)
 rw [tAll_val _ _ h1 h2 32 (by omega), e, Int.natCast_mul]
 unfold byl
 rw [gV_bytes, gV_bytes]
theorem prod_byte (x k : Nat) : ((x : Int) / 256 ^ k % 256) = ((x / 256 ^ k % 256 : Nat) : Int) := by
 have e : ((256 : Int) ^ k) = ((256 ^ k : Nat) : Int) := by simp
 rw [e, ← Int.natCast_ediv]
 omega
theorem bytesN_zero : ∀ n, bytesN n 0 = List.replicate n 0
 | 0 => rfl
 | n + 1 => by
  simp only [bytesN, Nat.zero_div, bytesN_zero n, List.replicate_succ]
  rfl
theorem fill_tail (x k n : Nat) (h : x < 256 ^ k) : fill (k + n) (bytesN (k + n) x) k = bytesN (k + n) x := by
 have e1 := zfn k n x
 rw [q157 h, bytesN_zero] at e1
 unfold fill
 rw [e1, q161 (by rw [zav]; exact q102 _), q110 (by rw [zav]; exact q102 _), Nat.add_sub_cancel_left]
theorem cA_le (a b i : Nat) : scl_cA a b i ≤ 1 := by
 have hP : 0 < 256 ^ i := Nat.pow_pos (by omega)
 have h1 := q140 a hP
 have h2 := q140 b hP
 unfold scl_cA
 generalize 256 ^ i = P at *
 have : (a % P + b % P) / P < 2 := by rw [Nat.div_lt_iff_lt_mul hP]; omega
 omega
theorem rred_blk (x : Nat) (hx : x < 256 ^ 64) {w : World} {c : Nat} {t : TypeId} (h : Blk w c ((bytesN 64 x).map bval) t) (hG : GlobO w) :
  Calls Tryz.prog 103 #[.slice (some ⟨c, 0, none⟩) 64 64] w fun e w' => e = .returned (.agg ((nq (x : Nat)).map bval).toArray) ∧ Below w.heap.size w w' := by
 have := rReduce_num _ (bytesN 64 x) w (h.row (by rw [q101, zav]) (by unfold maxLen; omega)) hG
 rwa [q110 (by rw [zav]; exact q102 _), zea, q120 hx] at this
theorem rAddQ_num (l m : List UInt8) (w : World) (hl : l.length = 32) (hm : m.length = 32) (hG : GlobO w) :
  Calls Tryz.prog 59 #[.agg (l.map bval).toArray, .agg (m.map bval).toArray] w fun e w' => e = .returned (.agg ((nq ((leN l : Nat) + (leN m : Nat))).map bval).toArray) ∧ Below w.heap.size w w' := by
 have HL := jh hl
 have HM := jh hm
 have HG := jh hG
 have ha := leN_lt l
 have hb := leN_lt m
 rw [hl] at ha
 rw [hm] at hb
 have h33 : leN l + leN m < 256 ^ 33 := by
  have : (256 : Nat) ^ 32 + 256 ^ 32 ≤ 256 ^ 33 := by decide +kernel
  omega
 have h64 : leN l + leN m < 256 ^ 64 := q114 h33 (by decide +kernel)
 have HC0 := jh (cA_zero (leN l) (leN m))
 have HCS := jh (cA_step (leN l) (leN m))
 have HTA : Hid (leN l / 256 ^ 32 % 256 = 0) := jh (by rw [q157 ha])
 have HTB : Hid (leN m / 256 ^ 32 % 256 = 0) := jh (by rw [q157 hb])
 have HFT := jh (fill_tail (leN l + leN m) 33 31 h33)
 have HFL := jh (zav 64 (leN l + leN m))
 have HFB := jh (fun k hk => zdd 64 (leN l + leN m) k hk)
 have HRD := jh (fun (w : World) (c : Nat) (t : TypeId) (h : Blk w c ((bytesN 64 (leN l + leN m)).map bval) t) hG => rred_blk (leN l + leN m) h64 h hG)
 have HBL := jh (fun k hk => leN_byte l k hk)
 have HBM := jh (fun k hk => leN_byte m k hk)
 have HRS : Hid (nq ((leN l + leN m : Nat) : Int) = nq ((leN l : Nat) + (leN m : Nat))) := jh (by rw [Int.natCast_add])
 have HB := jh (boxes4 w (l.map bval) (m.map bval) (ints .u8 (List.replicate 32 0)) (ints .u8 (List.replicate 64 0)) 23 23 23 25)
 clear hl hm hG ha hb h33 h64
 go_enter Tryz.func59, Tryz.ntmps59
 go_wp2_with fail
 change Code.wp _ _ _ _ ((((w.alloc (.cells (l.map bval).toArray 23)).alloc (.cells (m.map bval).toArray 23)).alloc (.cells (ints .u8 (List.replicate 32 0)).toArray 23)).alloc (.cells (ints .u8 (List.replicate 64 0)).toArray 25))
 generalize (((w.alloc (.cells (l.map bval).toArray 23)).alloc (.cells (m.map bval).toArray 23)).alloc (.cells (ints .u8 (List.replicate 32 0)).toArray 23)).alloc (.cells (ints .u8 (List.replicate 64 0)).toArray 25) = w0 at *
 obtain ⟨h1, h2, h3, h4, hE⟩ := HB.out
 obtain ⟨A, hA⟩ : ∃ A, A = w.heap.size := ⟨_, rfl⟩
 rw [← hA] at h1 h2 h3 h4 ⊢
 have hA2 : w.heap.size ≤ A := by omega
 have H1 := jh h1
 have H2 := jh h2
 have H3 := jh h3
 have H4 := jh h4
 have HE : Hid (Ext w w0) := jh hE
 clear h1 h2 h3 h4 hE HB hA
 obtain ⟨S, hS⟩ : ∃ S, S = bytesN 64 (leN l + leN m) := ⟨_, rfl⟩
 rw [← hS] at HFT HFL HFB HRD
 clear hS
 go_loopw [6, 7] (fun cv iv wr => ∃ (k : Nat), k ≤ 33 ∧ iv = .int .i64 (k : Int) ∧ cv = .int .i64 ((scl_cA (leN l) (leN m) k : Nat) : Int) ∧ Blk wr A (l.map bval) 23 ∧ Blk wr (A + 1) (m.map bval) 23 ∧ Blk wr (A + 1 + 1) (ints .u8 (List.replicate 32 0)) 23 ∧ Blk wr (A + 1 + 1 + 1) ((fill 64 S k).map bval) 25 ∧ Ext w wr) (fun _ iv _ => 33 - (intOf iv).toNat)
 case atStart => exact ⟨0, by omega, rfl, by rw [HC0.out]; rfl, H1.out, H2.out, H3.out, by rw [fill_start]; exact H4.out, HE.out⟩
 case round =>
  clear H1 H2 H3 H4 HE
  obtain ⟨k, hk, rfl, rfl, hb1, hb2, hb3, hb4, hbel⟩ := hrel
  have k0 : (0 : Int) ≤ (k : Int) := Int.natCast_nonneg _
  have hcs := HCS.out k
  have hcb := cA_le (leN l) (leN m) k
  by_cases hlt : k < 33
  ·have k1 : (k : Int) < 33 := by omega
   have k64 : (k : Int) < 64 := by omega
   have hln : ((fill 64 S k).map bval).length = 64 := by rw [q101, fill_length HFL.out (by omega)]
   have e4 := hb4.cell k
   rw [List.getElem?_eq_getElem (by omega)] at e4
   have f4 := hb4.free k
   generalize ((fill 64 S k).map bval)[k]'(by omega) = c4 at e4
   have hfb := HFB.out k (by omega)
   by_cases h32 : k < 32
   ·have k2 : (k : Int) < 32 := by omega
    have e1 := hb1.cell k
    rw [zbg (by rw [HL.out]; exact h32), HBL.out k (by rw [HL.out]; exact h32)] at e1
    have e2 := hb2.cell k
    rw [zbg (by rw [HM.out]; exact h32), HBM.out k (by rw [HM.out]; exact h32)] at e2
    have p1 : leN l / 256 ^ k % 256 < 256 := q140 _ (by omega)
    have p2 : leN m / 256 ^ k % 256 < 256 := q140 _ (by omega)
    have HNX := jh hcs.2
    have hz := hcs.1
    rw [← hfb] at hz
    generalize leN l / 256 ^ k % 256 = x at *
    generalize leN m / 256 ^ k % 256 = y at *
    generalize scl_cA (leN l) (leN m) k = c at *
    have HST := jh (zex (k := k) (z := ((c : Int) + (x : Int) + (y : Int)) % 256) HFL.out (by omega) (by omega))
    have hm := and_i64_255 ((c : Int) + (x : Int) + (y : Int)) (by omega) (by omega)
    have HND : Hid (((c : Int) + (x : Int) + (y : Int)) / 256 = ((scl_cA (leN l) (leN m) (k + 1) : Nat) : Int)) := jh (by have := HNX.out; omega)
    have H1 := jh hb1
    have H2 := jh hb2
    have H3 := jh hb3
    have H4 := jh hb4
    have HE := jh hbel
    clear hb1 hb2 hb3 hb4 hbel hln hfb hz hcs
    go_wp2_with fail
    go_region
    go_wp2_with fail
    go_roundw
    case rel =>
     refine ⟨k + 1, by omega, by go_num, by rw [HND.out], (H1.out.drewN 1).far (by simp <;> omega) _, (H2.out.drewN 1).far (by simp <;> omega) _, (H3.out.drewN 1).far (by simp <;> omega) _, ?_, Below.setCell (HE.out.trans (Ext.drew _)) (by simp <;> omega) _⟩
     rw [← HST.out]
     exact (H4.out.drewN 1).set k _
    case measure => simp [intOf]; omega
   ·have k32 : k = 32 := by omega
    subst k32
    rw [HTA.out, HTB.out] at hcs
    have HNX := jh hcs.2
    have hz := hcs.1
    rw [← hfb] at hz
    generalize scl_cA (leN l) (leN m) 32 = c at *
    have HST := jh (zex (k := 32) (z := (c : Int) % 256) HFL.out (by omega) (by omega))
    have hm := and_i64_255 (c : Int) (by omega) (by omega)
    have HND : Hid ((c : Int) / 256 = ((scl_cA (leN l) (leN m) (32 + 1) : Nat) : Int)) := jh (by have := HNX.out; omega)
    have H1 := jh hb1
    have H2 := jh hb2
    have H3 := jh hb3
    have H4 := jh hb4
    have HE := jh hbel
    clear hb1 hb2 hb3 hb4 hbel hln hfb hz hcs
    go_wp2_with fail
    go_roundw
    case rel =>
     refine ⟨32 + 1, by omega, by go_num, by rw [HND.out], H1.out.far (by simp <;> omega) _, H2.out.far (by simp <;> omega) _, H3.out.far (by simp <;> omega) _, ?_, Below.setCell HE.out (by simp <;> omega) _⟩
     rw [← HST.out]
     exact H4.out.set 32 _
    case measure => simp [intOf]
  ·have hk33 : k = 33 := by omega
   subst hk33
   have hft : fill 64 S 33 = S := HFT.out
   rw [hft] at hb4
   have H3 := jh hb3
   have H4 := jh hb4
   have HE := jh hbel
   clear hb1 hb2 hb3 hb4 hbel hft hcs hcb
   go_wp2_with fail
   refine (HRD.out _ _ _ H4.out (HG.out.ext HE.out)).mono ?_
   rintro e w5 ⟨rfl, hb5⟩
   have H3 := xb H3 hb5
   have HE := xt HE hb5
   have hi2 : Hid ((Tryz.prog.info? 23).map (·.size) = some ((nq ((leN l + leN m : Nat) : Int)).map bval).length) := jh (zac (zbu _))
   have hl2 : Hid (((nq ((leN l + leN m : Nat) : Int)).map bval).length = (ints .u8 (List.replicate 32 0)).length) := jh (by rw [q101, zbu]; rfl)
   clear hb5 HRD
   go_wp2_with (refine ssb (A + 1 + 1) _ H3.out hl2.out hi2.out (zaf _) ?_; intro w7 hb7 hg7)
   exact bodyPost_ret (v := .agg ((nq ((leN l + leN m : Nat) : Int)).map bval).toArray) (zap (by rfl) _ (A + 1 + 1) _ _ _ (by rfl) hb7 q100 rfl hi2.out) rfl ⟨by rw [HRS.out], zab HE.out hg7 (by omega)⟩
theorem rMulQ_num (l m : List UInt8) (w : World) (hl : l.length = 32) (hm : m.length = 32) (hG : GlobO w) :
  Calls Tryz.prog 60 #[.agg (l.map bval).toArray, .agg (m.map bval).toArray] w fun e w' => e = .returned (.agg ((nq ((leN l : Nat) * (leN m : Nat))).map bval).toArray) ∧ Below w.heap.size w w' := by
 have HL := jh hl
 have HM := jh hm
 have HG := jh hG
 have ha := leN_lt l
 have hb := leN_lt m
 rw [hl] at ha
 rw [hm] at hb
 have h64 : leN l * leN m < 256 ^ 64 := by
  have e : (256 : Nat) ^ 64 = 256 ^ 32 * 256 ^ 32 := by decide +kernel
  rw [e]
  exact Nat.mul_lt_mul'' ha hb
 have HPV := jh (prod_val l m hl hm)
 have HFL := jh (zav 64 (leN l * leN m))
 have HFB := jh (fun k hk => zdd 64 (leN l * leN m) k hk)
 have HPB := jh (fun k => prod_byte (leN l * leN m) k)
 have HRD := jh (fun (w : World) (c : Nat) (t : TypeId) (h : Blk w c ((bytesN 64 (leN l * leN m)).map bval) t) hG => rred_blk (leN l * leN m) h64 h hG)
 have HRS : Hid (nq ((leN l * leN m : Nat) : Int) = nq ((leN l : Nat) * (leN m : Nat))) := jh (by rw [Int.natCast_mul])
 have HBX := jh (byl_range l)
 have HBY := jh (byl_range m)
 have HGX : Hid (∀ i, ((l.getD i 0).toNat : Int) = (byl l).getD i 0) := jh (fun i => (byl_getD l i).symm)
 have HGY : Hid (∀ i, ((m.getD i 0).toNat : Int) = (byl m).getD i 0) := jh (fun i => (byl_getD m i).symm)
 have HB := jh (boxes4 w (l.map bval) (m.map bval) (ints .u8 (List.replicate 32 0)) (ints .i64 (List.replicate 64 0)) 23 23 23 131)
 clear hl hm hG ha hb h64
 go_enter Tryz.func60, Tryz.ntmps60
 go_wp2_with fail
 change Code.wp _ _ _ _ ((((w.alloc (.cells (l.map bval).toArray 23)).alloc (.cells (m.map bval).toArray 23)).alloc (.cells (ints .u8 (List.replicate 32 0)).toArray 23)).alloc (.cells (ints .i64 (List.replicate 64 0)).toArray 131))
 generalize (((w.alloc (.cells (l.map bval).toArray 23)).alloc (.cells (m.map bval).toArray 23)).alloc (.cells (ints .u8 (List.replicate 32 0)).toArray 23)).alloc (.cells (ints .i64 (List.replicate 64 0)).toArray 131) = w0 at *
 obtain ⟨h1, h2, h3, h4, hE⟩ := HB.out
 obtain ⟨A, hA⟩ : ∃ A, A = w.heap.size := ⟨_, rfl⟩
 rw [← hA] at h1 h2 h3 h4 ⊢
 have hA2 : w.heap.size ≤ A := by omega
 have H1 := jh h1
 have H2 := jh h2
 have H3 := jh h3
 have H4 := jh h4
 have HE : Hid (Ext w w0) := jh hE
 clear h1 h2 h3 h4 hE HB hA
 obtain ⟨S, hS⟩ : ∃ S, S = bytesN 64 (leN l * leN m) := ⟨_, rfl⟩
 rw [← hS] at HFL HFB HRD
 clear hS
 generalize hxx : byl l = x at *
 generalize hyy : byl m = y at *
 clear hxx hyy
 go_loopw [6] (fun iv wr => ∃ (i : Nat), i ≤ 32 ∧ iv = .int .i64 (i : Int) ∧ Blk wr A (l.map bval) 23 ∧ Blk wr (A + 1) (m.map bval) 23 ∧ Blk wr (A + 1 + 1) (ints .u8 (List.replicate 32 0)) 23 ∧ Blk wr (A + 1 + 1 + 1) (ints .i64 (tAll x y i)) 131 ∧ Ext w wr) (fun iv _ => 32 - (intOf iv).toNat)
 case atStart => exact ⟨0, by omega, rfl, H1.out, H2.out, H3.out, H4.out, HE.out⟩
 case round =>
  clear H1 H2 H3 H4 HE
  obtain ⟨i, hi, rfl, hb1, hb2, hb3, hb4, hbel⟩ := hrel
  have k0 : (0 : Int) ≤ (i : Int) := Int.natCast_nonneg _
  by_cases hlt : i < 32
  ·have i1 : (i : Int) < 32 := by omega
   have HPR := jh (tAll_range HBX.out HBY.out i (by omega))
   have HPL := jh (tAll_length x y i)
   have HNX : Hid (tAll x y (i + 1) = mRow (tAll x y i) x y i 32) := jh rfl
   generalize tAll x y i = z at *
   have H1 := jh hb1
   have H2 := jh hb2
   have H3 := jh hb3
   have H4 := jh hb4
   have HE := jh hbel
   clear hb1 hb2 hb3 hb4 hbel
   go_wp2_with fail
   obtain ⟨wo, rfl⟩ : ∃ wo : World, wo = wr := ⟨_, rfl⟩
   go_loopw [7] (fun jv wr => ∃ (j : Nat), j ≤ 32 ∧ jv = .int .i64 (j : Int) ∧ Blk wr A (l.map bval) 23 ∧ Blk wr (A + 1) (m.map bval) 23 ∧ Blk wr (A + 1 + 1) (ints .u8 (List.replicate 32 0)) 23 ∧ Blk wr (A + 1 + 1 + 1) (ints .i64 (mRow z x y i j)) 131 ∧ Ext w wr) (fun jv _ => 32 - (intOf jv).toNat)
   case atStart => exact ⟨0, by omega, rfl, H1.out, H2.out, H3.out, H4.out, HE.out⟩
   case round =>
    clear H1 H2 H3 H4 HE
    obtain ⟨j, hj, rfl, hb1, hb2, hb3, hb4, hbel⟩ := hrel
    have j0 : (0 : Int) ≤ (j : Int) := Int.natCast_nonneg _
    by_cases hlj : j < 32
    ·have j1 : (j : Int) < 32 := by omega
     have hzl := zdk z x y i j
     rw [HPL.out] at hzl
     have e1 := hb1.cell i
     rw [zbg (by rw [HL.out]; exact hlt), HGX.out] at e1
     have e2 := hb2.cell j
     rw [zbg (by rw [HM.out]; exact hlj), HGY.out] at e2
     have e4 := hb4.cell (i + j)
     rw [zan (by omega)] at e4
     have f4 := hb4.free (i + j)
     have q1 := HBX.out i
     have q2 := HBY.out j
     have q3 := tRow_range hlt HPL.out HPR.out HBX.out HBY.out j (by omega) (i + j)
     have hst : mRow z x y i (j + 1) = (mRow z x y i j).set (i + j) ((mRow z x y i j).getD (i + j) 0 + x.getD i 0 * y.getD j 0) := rfl
     have HST := jh hst
     have q4 := mul_range q1.1 q1.2 q2.1 q2.2
     generalize (mRow z x y i j).getD (i + j) 0 = a at *
     generalize x.getD i 0 = u at *
     generalize y.getD j 0 = t at *
     obtain ⟨ij, hij⟩ : ∃ ij : Nat, ij = i + j := ⟨_, rfl⟩
     rw [← hij] at e4 f4
     have hij2 : (i : Int) + (j : Int) = (ij : Int) := by omega
     have ij1 : (ij : Int) < 64 := by omega
     have HIJ := jh hij
     have H1 := jh hb1
     have H2 := jh hb2
     have H3 := jh hb3
     have H4 := jh hb4
     have HE := jh hbel
     clear hst hb1 hb2 hb3 hb4 hbel hzl hij
     go_wp2_with fail
     go_region
     go_wp2_with fail
     go_roundw
     case rel =>
      refine ⟨j + 1, by omega, by go_num, (H1.out.far (by simp <;> omega) _).drewN 1, (H2.out.far (by simp <;> omega) _).drewN 1, (H3.out.far (by simp <;> omega) _).drewN 1, ?_, (Below.setCell HE.out (by simp <;> omega) _).drew⟩
      rw [HST.out, ← HIJ.out]
      exact (H4.out.seti ij _).drewN 1
     case measure => simp [intOf]; omega
    ·have hj' : j = 32 := by omega
     subst hj'
     rw [← HNX.out] at hb4
     have H1 := jh hb1
     have H2 := jh hb2
     have H3 := jh hb3
     have H4 := jh hb4
     have HE := jh hbel
     clear hb1 hb2 hb3 hb4 hbel
     go_wp2_with fail
     go_roundw
     case rel => exact ⟨i + 1, by omega, by go_num, H1.out, H2.out, H3.out, H4.out, HE.out⟩
     case measure => simp [intOf]; omega
  ·have hi' : i = 32 := by omega
   subst hi'
   have HTR := jh (tAll_range HBX.out HBY.out 32 (by omega))
   have HTL := jh (tAll_length x y 32)
   generalize tAll x y 32 = t at *
   have HCR : Hid (∀ k, k ≤ 64 → 0 ≤ cM t k ∧ cM t k ≤ 2080800) := jh (fun k hk => cM_range (M := 2080800) (fun j => by have := HTR.out j; omega) k (by rw [HTL.out]; exact hk))
   have HCZ := jh (cM_zero t)
   have HCS : Hid (∀ k, k < 64 → (cM t k + t.getD k 0) % 256 = ((S.getD k 0).toNat : Int) ∧ (cM t k + t.getD k 0) / 256 = cM t (k + 1)) := jh (fun k hk => by
    have h := cM_step t k (by rw [HTL.out]; exact hk)
    rw [HPV.out, HPB.out, ← HFB.out k hk] at h
    exact h)
   have H3 := jh (hb3.alloc (.cells (ints .u8 (List.replicate 64 0)).toArray 25))
   have H4 := jh (hb4.alloc (.cells (ints .u8 (List.replicate 64 0)).toArray 25))
   have HS := jh (Blk.made wr (ints .u8 (List.replicate 64 0)) 25)
   have HE := jh (Ext.trans hbel (Ext.alloc wr (.cells (ints .u8 (List.replicate 64 0)).toArray 25)))
   have hDA : A + 1 + 1 + 1 < wr.heap.size := hb4.lt
   clear hb1 hb2 hb3 hb4 hbel
   go_wp2_with fail
   change Code.wp _ _ _ _ (wr.alloc (.cells (ints .u8 (List.replicate 64 0)).toArray 25))
   generalize wr.alloc (.cells (ints .u8 (List.replicate 64 0)).toArray 25) = w3 at *
   generalize wr.heap.size = D at *
   go_loopw [9, 10] (fun cv iv wr => ∃ (k : Nat), k ≤ 64 ∧ iv = .int .i64 (k : Int) ∧ cv = .int .i64 (cM t k) ∧ Blk wr (A + 1 + 1) (ints .u8 (List.replicate 32 0)) 23 ∧ Blk wr (A + 1 + 1 + 1) (ints .i64 t) 131 ∧ Blk wr D ((fill 64 S k).map bval) 25 ∧ Ext w wr) (fun _ iv _ => 64 - (intOf iv).toNat)
   case atStart => exact ⟨0, by omega, rfl, by rw [HCZ.out], H3.out, H4.out, by rw [fill_start]; exact HS.out, HE.out⟩
   case round =>
    clear H3 H4 HS HE
    obtain ⟨k, hk, rfl, rfl, hb3, hb4, hb5, hbel⟩ := hrel
    have k0 : (0 : Int) ≤ (k : Int) := Int.natCast_nonneg _
    have hcb := HCR.out k hk
    by_cases hlk : k < 64
    ·have k1 : (k : Int) < 64 := by omega
     have hln : ((fill 64 S k).map bval).length = 64 := by rw [q101, fill_length HFL.out (by omega)]
     have e5 := hb5.cell k
     rw [List.getElem?_eq_getElem (by omega)] at e5
     have f5 := hb5.free k
     generalize ((fill 64 S k).map bval)[k]'(by omega) = c5 at e5
     have htl := HTL.out
     have e4 := hb4.cell k
     rw [zan (by omega)] at e4
     have q1 := HTR.out k
     have hcs := HCS.out k hlk
     generalize t.getD k 0 = u at *
     have HND := jh hcs.2
     have HST := jh (zex (k := k) HFL.out hlk hcs.1)
     generalize cM t k = c at *
     have hm := and_i64_255 (c + u) (by omega) (by omega)
     have H3 := jh hb3
     have H4 := jh hb4
     have HS := jh hb5
     have HE := jh hbel
     clear hb3 hb4 hb5 hbel hln hcs htl
     go_wp2_with fail
     go_roundw
     case rel =>
      refine ⟨k + 1, by omega, by go_num, by rw [HND.out], H3.out.far (by simp <;> omega) _, H4.out.far (by simp <;> omega) _, ?_, Below.setCell HE.out (by simp <;> omega) _⟩
      rw [← HST.out]
      exact HS.out.set k _
     case measure => simp [intOf]; omega
    ·have hk64 : k = 64 := by omega
     subst hk64
     rw [fill_full HFL.out] at hb5
     have H3 := jh hb3
     have HS := jh hb5
     have HE := jh hbel
     clear hb3 hb4 hb5 hbel hcb
     go_wp2_with fail
     refine (HRD.out _ _ _ HS.out (HG.out.ext HE.out)).mono ?_
     rintro e w5 ⟨rfl, hb5⟩
     have H3 := xb H3 hb5
     have HE := xt HE hb5
     have hi2 : Hid ((Tryz.prog.info? 23).map (·.size) = some ((nq ((leN l * leN m : Nat) : Int)).map bval).length) := jh (zac (zbu _))
     have hl2 : Hid (((nq ((leN l * leN m : Nat) : Int)).map bval).length = (ints .u8 (List.replicate 32 0)).length) := jh (by rw [q101, zbu]; rfl)
     clear hb5 HRD
     go_wp2_with (refine ssb (A + 1 + 1) _ H3.out hl2.out hi2.out (zaf _) ?_; intro w7 hb7 hg7)
     exact bodyPost_ret (v := .agg ((nq ((leN l * leN m : Nat) : Int)).map bval).toArray) (zap (by rfl) _ (A + 1 + 1) _ _ _ (by rfl) hb7 q100 rfl hi2.out) rfl ⟨by rw [HRS.out], zab HE.out hg7 (by omega)⟩
