/- The walk of the document's own padding, for blocks of 64 bytes and a length of 8. Each theorem names its own conditions. -/
import Derived.Test.YtcadfccijeodbaaDoorProg
import Derived.Test.YtcadfccijeodbaaDoorShaSpec
import Derived.Test.YtcadfccijeodbaaDoorRowMore
import Derived.Test.YtcadfccijeodbaaDoorOwnKit
import Derived.Test.YtcadfccijeodbaaDoorInfoKit
import Derived.Test.YtcadfccijeodbaaDoorRefPadK
namespace Go.Proofs.YtcadfccijeodbaaDoor
open Go.RowKit
set_option linter.unusedVariables false
set_option linter.unusedSimpArgs false

set_option maxRecDepth 100000 in
set_option maxHeartbeats 4000000 in
theorem padded_any (v : Value) (b : List UInt8) (w : World) (hv : Row1 w v (b.map bval)) (hb : b.length ≤ 1099511627776) :
    Calls Tryd.prog 33 #[v, .int .i64 64, .int .i64 8] w fun e w' => ∃ x, e = .returned x ∧ Row1 w' x ((padded b).map bval) ∧ Below w.heap.size w w' := by
  obtain ⟨i0, hi, hz0, hz1, hz2⟩ := info_parts Tryd.info5
  have HRW := Lib.hid hv
  obtain ⟨a, cap, hva, r1, r2, r3, r4⟩ := id hv
  rw [List.length_map] at hva r1
  unfold maxLen at r2
  subst hva
  have HI0 := Lib.hid hi
  have HZ0 := Lib.hid hz0
  have HZ1 := Lib.hid hz1
  have HZ2 := Lib.hid hz2
  have HLM : Hid ((b.map bval).length = b.length) := Lib.hid (List.length_map _)
  have HNIL : Hid (w.ownsRow w.heap.size 5 1 (.slice none 0 0) 0 []) := Lib.hid (World.ownsRow_nil _ _ _ _)
  clear hv r3 r4 hi hz0 hz1 hz2
  go_enter Tryd.func33, Tryd.ntmps33
  go_wp2_with (first | (at_builtin; refine wpList_append_row rfl _ _ 34 rfl w.heap.size 5 i0 (.int .u8 0) 1 Tryd.underlying34 HI0.out HZ0.out HZ1.out HZ2.out rfl _ 0 [] rfl HNIL.out rfl HRW.out (bval_one _) (by rw [HLM.out]; unfold maxLen; omega) (by rw [HLM.out]; omega) (Nat.le_refl _) ?_; intro v1 w1 hown1 hgrow1; have HO1 := Lib.hid hown1; have HX1 := Lib.hid (ext_own (Ext.refl w) HNIL.out (Nat.le_refl _) hgrow1); have HS1 := Lib.hid hgrow1.size; clear hown1 hgrow1) | (at_builtin; refine wpList_append_row rfl _ _ 34 rfl w.heap.size 5 i0 (.int .u8 0) 1 Tryd.underlying34 HI0.out HZ0.out HZ1.out HZ2.out rfl _ (0 + (b.map bval).length) _ rfl (HO1.out.alloc _) rfl (Row1.made _ #[.int .u8 128] _ _ 1 ([128].map bval) rfl rfl rfl (by unfold maxLen; omega)) (bval_one _) (by rw [HLM.out]; unfold maxLen; simp; omega) (by rw [HLM.out]; simp; omega) (by simp; have := HS1.out; omega) ?_; intro v2 w2 hown2 hgrow2))
  have HX2 := Lib.hid (ext_own (HX1.out.trans (Ext.alloc w1 (.cells #[.int .u8 128] 5))) (HO1.out.alloc _) (Nat.le_refl _) hgrow2)
  have HO2 : Hid (w2.ownsRow w.heap.size 5 1 v2 (padA b 0).length ((padA b 0).map bval)) := Lib.hid (by
    have h := hown2
    rw [List.nil_append, ← List.map_append] at h
    have e : 0 + (b.map bval).length + ([128].map bval).length = (padA b 0).length := by simp [padA]
    rw [e] at h
    simpa [padA] using h)
  clear hown2 hgrow2 HO1 HX1 HS1
  go_loopw [7] (fun x wr => ∃ (k : Nat), k ≤ padN b.length ∧ wr.ownsRow w.heap.size 5 1 x (padA b k).length ((padA b k).map bval) ∧ Ext w wr) (fun x _ => b.length + 1 + padN b.length - lenOf x)
  case atStart => exact ⟨0, by omega, HO2.out, HX2.out⟩
  case round =>
    clear HO2 HX2
    obtain ⟨k, hk, ho, hE⟩ := hrel
    obtain ⟨a2, cap2, rfl, s1, s2, s3, s4⟩ := id (Row1.of_own ho)
    have hpl := padA_length b k
    have ht := pad_test b.length k hk
    have hp63 : padN b.length < 64 := by unfold padN; omega
    have HO := Lib.hid ho
    have HE := Lib.hid hE
    rw [List.length_map, hpl] at s1 HO ⊢
    unfold maxLen at s2
    clear ho hE s3 s4
    by_cases hkn : k = padN b.length
    · subst hkn
      have hd : (((b.length + 1 + padN b.length : Nat) : Int) % 64 != 56) = false := by simp; omega
      have HO2 : Hid (wr.ownsRow w.heap.size 5 1 (.slice a2 (b.length + 1 + padN b.length) cap2) (padB b 0).length ((padB b 0).map bval)) := Lib.hid (own_eq HO.out (by simp [padB, padA]; omega) (by simp [padB]))
      clear HO ht hpl s1 s2
      generalize b.length + 1 + padN b.length = n at *
      go_wp2_with fail
      obtain ⟨wo, rfl⟩ : ∃ wo : World, wo = wr := ⟨_, rfl⟩
      go_loopw [7, 9] (fun x i wr => ∃ (j : Nat), j ≤ 8 ∧ i = .int .i64 (7 - (j : Int)) ∧ wr.ownsRow w.heap.size 5 1 x (padB b j).length ((padB b j).map bval) ∧ Ext w wr) (fun _ i _ => (intOf i + 1).toNat)
      case atStart => exact ⟨0, by omega, rfl, HO2.out, HE.out⟩
      case round =>
        clear HO2 HE
        obtain ⟨j, hj, rfl, ho, hE⟩ := hrel
        have HO := Lib.hid ho
        have HE := Lib.hid hE
        have HS := Lib.hid hE.size
        have hpb : (padB b j).length ≤ 1099511627900 := by simp [padB, padA]; omega
        by_cases hj8 : j < 8
        · have HBS := Lib.hid (padB_succ b j hj8)
          obtain ⟨k, hk⟩ : ∃ k : Nat, k = 7 - j := ⟨_, rfl⟩
          have hk2 : (7 : Int) - (j : Int) = (k : Int) := by omega
          rw [hk2]
          have HJ : Hid (j + k = 7) := Lib.hid (by omega)
          rw [← hk] at HBS
          clear ho hE hk hk2 hj hj8
          have k0 : (0 : Int) ≤ (k : Int) := Int.natCast_nonneg _
          have k8 : (k : Int) < 8 := by have := HJ.out; omega
          obtain ⟨s, hs⟩ : ∃ s : Nat, s = 8 * k := ⟨_, rfl⟩
          have hs2 : 8 * (k : Int) = (s : Int) := by omega
          have s64 : (s : Int) < 64 := by omega
          have e1 : (2 : Int) ^ s = ((256 ^ k : Nat) : Int) := by rw [hs, Int.pow_mul]; simp
          have hv2 : 8 * (b.length : Int) / 2 ^ s = ((8 * b.length / 256 ^ k : Nat) : Int) := by
            have e2 : 8 * (b.length : Int) = ((8 * b.length : Nat) : Int) := by omega
            rw [e1, e2, ← Int.natCast_ediv]
          have hvb : 8 * b.length / 256 ^ k ≤ 8 * b.length := Nat.div_le_self _ _
          have hq : ((UInt8.ofNat (8 * b.length / 256 ^ k % 256)).toNat : Int) = ((8 * b.length / 256 ^ k : Nat) : Int) % 256 := by rw [UInt8.toNat_ofNat']; omega
          have HQ := Lib.hid hq
          generalize UInt8.ofNat (8 * b.length / 256 ^ k % 256) = c at *
          generalize 8 * b.length / 256 ^ k = q at *
          have hm := and_i64_255 (q : Int) (by omega) (by omega)
          have HBV : Hid (bval c = .int .u8 ((q : Int) % 256)) := Lib.hid (by unfold bval; rw [hq])
          clear hs hq e1
          go_wp2_with (at_builtin; refine wpList_append_row rfl _ _ 34 rfl w.heap.size 5 i0 (.int .u8 0) 1 Tryd.underlying34 HI0.out HZ0.out HZ1.out HZ2.out rfl _ (padB b j).length _ rfl (HO.out.alloc _) rfl (Row1.made _ #[.int .u8 ((q : Int) % 256)] _ _ 1 [.int .u8 ((q : Int) % 256)] rfl rfl rfl (by unfold maxLen; omega)) (by intro u hu; simp at hu; subst hu; rfl) (by unfold maxLen; simp; omega) (by simp; omega) (by simp; have := HS.out; omega) ?_; intro v3 w3 hown3 hgrow3)
          go_roundw
          case rel =>
            refine ⟨j + 1, by have := HJ.out; omega, ?_, own_eq hown3 (by rw [HBS.out]; simp) (by rw [HBS.out, List.map_append, List.map_cons, List.map_nil, HBV.out]), ext_own (HE.out.trans (Ext.alloc wr _)) (HO.out.alloc _) (Nat.le_refl _) hgrow3⟩
            have := HJ.out
            rw [show (k : Int) - 1 = 7 - ((j + 1 : Nat) : Int) from by omega]
          case measure => simp [intOf]
        · have hj8' : j = 8 := by omega
          subst hj8'
          have hm1 : (7 : Int) - ((8 : Nat) : Int) = -1 := rfl
          rw [hm1]
          have hr0 := Row1.of_own ho
          rw [padB_full] at hr0
          have HR := Lib.hid hr0
          clear hr0
          clear ho hE hj hj8 HO hpb
          go_wp2_with fail
          go_ret
          exact ⟨_, rfl, HR.out, HE.out⟩
    · have hd : (((b.length + 1 + k : Nat) : Int) % 64 != 56) = true := by simp; omega
      have hL : ((b.length + 1 + k : Nat) : Int) = (b.length : Int) + 1 + (k : Int) := by omega
      have HS := Lib.hid HE.out.size
      have HK : Hid (k < padN b.length) := Lib.hid (by omega)
      clear ht hL
      generalize hn : b.length + 1 + k = n at *
      have HN := Lib.hid hn
      have hn9 : n ≤ 1099511627900 := by omega
      clear hn hpl hkn hk
      go_wp2_with (at_builtin; refine wpList_append_row rfl _ _ 34 rfl w.heap.size 5 i0 (.int .u8 0) 1 Tryd.underlying34 HI0.out HZ0.out HZ1.out HZ2.out rfl _ n _ rfl (HO.out.alloc _) rfl (Row1.made _ #[.int .u8 0] _ _ 1 ([0].map bval) rfl rfl rfl (by unfold maxLen; omega)) (bval_one _) (by unfold maxLen; simp; omega) (by simp; omega) (by simp; have := HS.out; omega) ?_; intro v3 w3 hown3 hgrow3)
      go_roundw
      case rel =>
        refine ⟨k + 1, HK.out, own_eq hown3 (by rw [padA_length, ← HN.out]; simp; omega) (by rw [padA_succ, List.map_append]), ext_own (HE.out.trans (Ext.alloc wr (.cells #[.int .u8 0] 5))) (HO.out.alloc _) (Nat.le_refl _) hgrow3⟩
      case measure =>
        rw [ownRow_len hown3]
        have := HN.out
        have := HK.out
        simp [lenOf]
        omega
end Go.Proofs.YtcadfccijeodbaaDoor
