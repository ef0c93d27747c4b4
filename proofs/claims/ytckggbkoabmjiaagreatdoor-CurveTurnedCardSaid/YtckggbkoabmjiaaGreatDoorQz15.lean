/- Texts that belong together, one behind the other. -/
import Derived.Test.YtckggbkoabmjiaaGreatDoorQz03
namespace Go.Proofs.YtckggbkoabmjiaaGreatDoor
set_option linter.unusedVariables false
set_option linter.unusedSimpArgs false
open Go.RowKit
def byl (l : List UInt8) : List Int := l.map fun b => (b.toNat : Int)
theorem byl_getD (l : List UInt8) (i : Nat) : (byl l).getD i 0 = ((l.getD i 0).toNat : Int) := by
 unfold byl
 simp only [List.getD, List.getElem?_map]
 cases l[i]? <;> simp
theorem byl_range (l : List UInt8) (i : Nat) : 0 ≤ (byl l).getD i 0 ∧ (byl l).getD i 0 ≤ 255 := by
 rw [byl_getD]
 have := UInt8.toNat_lt (l.getD i 0)
 omega
theorem less_all {l : List UInt8} (hl : l.length = 32) (h : ∀ k, k < 32 → ((l.getD k 0).toNat : Int) = ORD.getD k 0) : lessB l = false := by
 have e : byl l = ORD := by
  refine ext_getD (by simp [byl, hl]; rfl) (fun i hi => ?_)
  rw [byl_getD]
  exact h i (by simpa [byl, hl] using hi)
 unfold lessB
 rw [decide_eq_false_iff_not, ← gV_bytes, ← ORD_val]
 change ¬ gV 256 (byl l) < _
 rw [e]
 omega
theorem less_at {l : List UInt8} (hl : l.length = 32) {i : Nat} (hi : i < 32) (h : ∀ k, i < k → k < 32 → ((l.getD k 0).toNat : Int) = ORD.getD k 0) (hne : ((l.getD i 0).toNat : Int) ≠ ORD.getD i 0) : lessB l = decide (((l.getD i 0).toNat : Int) < ORD.getD i 0) := by
 have hlen : (byl l).length = 32 := by simp [byl, hl]
 have holen : ORD.length = 32 := rfl
 have hd : (byl l).drop (i + 1) = ORD.drop (i + 1) := by
  refine ext_getD (by simp [hlen, holen]) (fun k hk => ?_)
  rw [zed, zed, byl_getD]
  exact h _ (by omega) (by simp [hlen] at hk; omega)
 have e1 : gV 256 (byl l) = gV 256 ((byl l).take i) + 256 ^ i * ((byl l).getD i 0 + 256 * gV 256 ((byl l).drop (i + 1))) := by
  have h := gV_cut 256 (byl l) i (by omega)
  rw [List.drop_eq_getElem_cons (by omega), gV] at h
  rw [getD_eq (by omega)]
  exact h
 have e2 : gV 256 ORD = gV 256 (ORD.take i) + 256 ^ i * (ORD.getD i 0 + 256 * gV 256 (ORD.drop (i + 1))) := by
  have h := gV_cut 256 ORD i (by omega)
  rw [List.drop_eq_getElem_cons (by omega), gV] at h
  rw [getD_eq (by omega)]
  exact h
 have r1 := gV_range (B := 256) (by omega) (zs := (byl l).take i) (fun k hk => by
  have hk2 : k < i := by simp at hk; omega
  rw [getD_take hk2]
  have := byl_range l k
  omega)
 have r2 := gV_range (B := 256) (by omega) (zs := ORD.take i) (fun k hk => by
  have hk2 : k < i := by simp at hk; omega
  rw [getD_take hk2]
  exact ORD_range k)
 rw [List.length_take, Nat.min_eq_left (by omega)] at r1 r2
 have hv : ((leN l : Nat) : Int) = gV 256 (byl l) := (gV_bytes l).symm
 unfold lessB
 rw [hv, ← ORD_val, e1, e2, hd, byl_getD]
 rw [Bool.eq_iff_iff, decide_eq_true_iff, decide_eq_true_iff]
 generalize gV 256 (ORD.drop (i + 1)) = R
 generalize gV 256 ((byl l).take i) = a at *
 generalize gV 256 (ORD.take i) = b at *
 generalize ((l.getD i 0).toNat : Int) = u at *
 generalize ORD.getD i 0 = v at *
 have hP : (0 : Int) < 256 ^ i := Int.pow_pos (by omega)
 generalize (256 : Int) ^ i = P at *
 constructor
 ·intro h1
  apply Classical.byContradiction
  intro h2
  have h3 : v + 1 ≤ u := by omega
  have h4 : P * (v + 256 * R + 1) ≤ P * (u + 256 * R) := Int.mul_le_mul_of_nonneg_left (by omega) (by omega)
  rw [Int.mul_add P (v + 256 * R) 1] at h4
  omega
 ·intro h1
  have h4 : P * (u + 256 * R + 1) ≤ P * (v + 256 * R) := Int.mul_le_mul_of_nonneg_left (by omega) (by omega)
  rw [Int.mul_add P (u + 256 * R) 1] at h4
  omega
set_option maxRecDepth 100000 in
set_option maxHeartbeats 4000000 in
theorem rLess_num (l : List UInt8) (w : World) (hl : l.length = 32) (hG : GlobO w) :
  Calls Tryz.prog 22 #[.agg (l.map bval).toArray] w fun e w' => e = .returned (.bool (lessB l)) ∧ Below w.heap.size w w' := by
 have HL := Lib.hid hl
 have HG := Lib.hid hG
 have HB := Lib.hid (Blk.made w (l.map bval) 23)
 have HA0 := Lib.hid (Ext.alloc w (.cells (l.map bval).toArray 23))
 clear hl hG
 go_enter Tryz.func22, Tryz.ntmps22
 go_wp2_with fail
 change Code.wp _ _ _ _ (w.alloc (.cells (l.map bval).toArray 23))
 generalize w.alloc (.cells (l.map bval).toArray 23) = w0 at *
 have h1 := HB.out
 have hE := HA0.out
 obtain ⟨A, hA⟩ : ∃ A, A = w.heap.size := ⟨_, rfl⟩
 rw [← hA] at h1 ⊢
 clear hA
 have H1 := Lib.hid h1
 have HE : Hid (Ext w w0) := Lib.hid hE
 clear h1 hE HB HA0
 go_loopw [3] (fun iv wr => ∃ (j : Nat), j ≤ 32 ∧ iv = .int .i64 ((j : Int) - 1) ∧ (∀ k, j ≤ k → k < 32 → ((l.getD k 0).toNat : Int) = ORD.getD k 0) ∧ Blk wr A (l.map bval) 23 ∧ Ext w wr) (fun iv _ => (intOf iv + 1).toNat)
 case atStart => exact ⟨32, by omega, rfl, fun k h1 h2 => by omega, H1.out, HE.out⟩
 case round =>
  clear H1 HE
  obtain ⟨j, hj, rfl, hal, hb1, hbel⟩ := hrel
  by_cases hlt : 1 ≤ j
  ·obtain ⟨i, rfl⟩ : ∃ i, j = i + 1 := ⟨j - 1, by omega⟩
   have hi1 : ((i + 1 : Nat) : Int) - 1 = (i : Int) := by omega
   rw [hi1]
   have i0 : (0 : Int) ≤ (i : Int) := Int.natCast_nonneg _
   have i32 : (i : Int) < 32 := by omega
   have e1 := hb1.cell i
   rw [zbm (by rw [HL.out]; omega)] at e1
   have eg := (HG.out.ext hbel).cell (j := i) (by omega)
   have q1 := ORD_range i
   have q2 := UInt8.toNat_lt (l.getD i 0)
   by_cases heq : ((l.getD i 0).toNat : Int) = ORD.getD i 0
   ·have HAL : Hid (∀ k, i ≤ k → k < 32 → ((l.getD k 0).toNat : Int) = ORD.getD k 0) := Lib.hid (fun k h1 h2 => by
     rcases (by omega : k = i ∨ i + 1 ≤ k) with rfl | g
     ·exact heq
     ·exact hal k g h2)
    rw [heq] at e1
    clear heq
    generalize ORD.getD i 0 = o at *
    have H1 := Lib.hid hb1
    have HE := Lib.hid hbel
    clear hal hb1 hbel hi1
    go_wp2_with fail
    go_region
    go_wp2_with fail
    go_roundw
    case rel => exact ⟨i, by omega, rfl, HAL.out, H1.out.drewN 1, HE.out.trans (Ext.drew _)⟩
    case measure => simp [intOf]
   ·have HLE := Lib.hid (less_at HL.out (by omega) (fun k h1 h2 => hal k h1 h2) heq)
    generalize ORD.getD i 0 = o at *
    generalize (l.getD i 0).toNat = c at *
    have HE := Lib.hid hbel
    clear hal hb1 hbel hi1
    have hne : (c : Int) < o ∨ o < (c : Int) := by omega
    clear heq
    rcases hne with hlt2 | hlt2
    ·have HF : Hid (lessB l = true) := Lib.hid (by rw [HLE.out]; exact decide_eq_true hlt2)
     have hd : ((c : Int) != o) = true := by simp; omega
     go_wp2_with fail
     go_region
     go_wp2_with fail
     go_region
     go_wp2_with fail
     go_ret
     exact ⟨by rw [HF.out]; rfl, (HE.out.trans (Ext.drew _)).trans (Ext.drew _)⟩
    ·have HF : Hid (lessB l = false) := Lib.hid (by rw [HLE.out]; exact decide_eq_false (by omega))
     have hd : ((c : Int) != o) = true := by simp; omega
     go_wp2_with fail
     go_region
     go_wp2_with fail
     go_region
     go_wp2_with fail
     go_ret
     exact ⟨by rw [HLE.out]; rfl, (HE.out.trans (Ext.drew _)).trans (Ext.drew _)⟩
  ·have hj0 : j = 0 := by omega
   subst hj0
   have HF : Hid (lessB l = false) := Lib.hid (less_all HL.out (fun k hk => hal k (by omega) hk))
   have he0 : ((0 : Nat) : Int) - 1 = -1 := rfl
   rw [he0]
   have HE := Lib.hid hbel
   clear hal hb1 hbel
   go_wp2_with fail
   go_ret
   exact ⟨by rw [HF.out]; rfl, HE.out⟩
end Go.Proofs.YtckggbkoabmjiaaGreatDoor
