/- The walk of the document's own Turn. Each theorem names its own conditions. -/
import Derived.Test.YtldpmphecgffcaaRefBlock
import Derived.Test.YtldpmphecgffcaaMakeKit
import Derived.Test.YtldpmphecgffcaaRowMore
import Derived.Test.YtldpmphecgffcaaInfoKit
import Derived.Laws.OwnMore
import Derived.Deep.Onto
namespace Go.Proofs.Ytldpmphecgffcaa
open Go.RowKit
set_option linter.unusedVariables false
set_option linter.unusedSimpArgs false

theorem Try.arr25 : (Try.prog.info? 25).map (·.size) = some 12 := by kernel_rfl
theorem nonce_size {l : List UInt8} (h : l.length = 12) : (Try.prog.info? 25).map (·.size) = some (l.map bval).length := by rw [List.length_map, h]; exact Try.arr25
theorem ofInt32_mod (c z : Int) : BitVec.ofInt 32 (c % 4294967296 + z) = BitVec.ofInt 32 (c + z) := by
  apply BitVec.eq_of_toInt_eq
  rw [BitVec.toInt_ofInt, BitVec.toInt_ofInt]
  unfold Int.bmod
  have e2 : ((2 ^ 32 : Nat) : Int) = 4294967296 := rfl
  rw [e2, Int.emod_add_emod]
/-- The byte of the stream at k, the block at hand. -/
theorem chaByte_at (key : List UInt8) (c : Int) (nonce kk : List UInt8) (k : Nat) (h : kk = chaBlock key (BitVec.ofInt 32 (c + ((k / 64 : Nat) : Int))) nonce) : kk.getD (k % 64) 0 = chaByte key c nonce k := by
  rw [h]
  rfl

set_option maxRecDepth 100000 in
set_option maxHeartbeats 16000000 in
theorem rTurn_any (kb nb b : List UInt8) (bv : Value) (c : Int) (w : World) (hk : kb.length = 32) (hn : nb.length = 12) (hb : Row1 w bv (b.map bval)) (hbl : b.length ≤ 1099511627776) (hc1 : -9223372036854775808 ≤ c) (hc2 : c ≤ 9223372036854775807) :
    Calls Try.prog 11 #[.agg (kb.map bval).toArray, .int .i64 c, .agg (nb.map bval).toArray, bv] w fun e w' => ∃ x, e = .returned x ∧ w'.ownsRow w.heap.size 5 1 x b.length ((chaTurn kb c nb b).map bval) ∧ Below w.heap.size w w' := by
  obtain ⟨i0, hi0, hz0, hz1, hz2⟩ := info_parts Try.info5
  have HI0 := Lib.hid hi0
  have HZ0 := Lib.hid hz0
  have HZ1 := Lib.hid hz1
  have HZ2 := Lib.hid hz2
  have HKL := Lib.hid hk
  have HNL := Lib.hid hn
  have HBL := Lib.hid hbl
  have HR := Lib.hid hb
  have HB := Lib.hid (boxes2 w (kb.map bval) (nb.map bval) 23 25)
  have HA0 := Lib.hid (and_mask32 c hc1 hc2)
  have HIK : Hid ((Try.prog.info? 23).map (·.size) = some (kb.map bval).length) := Lib.hid (num_size hk)
  have HIN : Hid ((Try.prog.info? 25).map (·.size) = some (nb.map bval).length) := Lib.hid (nonce_size hn)
  have HMOD := Lib.hid (fun z => ofInt32_mod c z)
  obtain ⟨cm, hcm⟩ : ∃ cm, cm = c % 4294967296 := ⟨_, rfl⟩
  have HCM : Hid (0 ≤ cm ∧ cm < 4294967296) := Lib.hid (by omega)
  rw [← hcm] at HA0 HMOD
  clear hk hn hbl hb hi0 hz0 hz1 hz2 hc1 hc2 hcm
  go_enter Try.func11, Try.ntmps11
  go_upto_region 1 with (fail)
  obtain ⟨H1, H2, HE⟩ := HB.out
  change Code.wp _ _ _ _ ((w.alloc (.cells (kb.map bval).toArray 23)).alloc (.cells (nb.map bval).toArray 25))
  generalize (w.alloc (.cells (kb.map bval).toArray 23)).alloc (.cells (nb.map bval).toArray 25) = wa at *
  obtain ⟨K, hK⟩ : ∃ K, K = w.heap.size := ⟨_, rfl⟩
  have HKW : Hid (w.heap.size ≤ K ∧ K ≤ w.heap.size) := Lib.hid (by omega)
  rw [← hK] at H1 H2 ⊢
  have H1 := Lib.hid H1
  have H2 := Lib.hid H2
  have HE : Hid (Ext w wa) := Lib.hid HE
  have HR1 := Lib.hid (HR.out.below HE.out)
  have HNIL : Hid (wa.ownsRow wa.heap.size 5 1 (.slice none 0 0) 0 []) := Lib.hid (World.ownsRow_nil _ _ _ _)
  have HMM : Hid ((b.map bval).length = b.length) := Lib.hid (List.length_map _)
  clear hK HB HR
  go_upto_region 2 with (at_builtin; refine wpList_append_row rfl _ _ 31 rfl wa.heap.size 5 i0 (.int .u8 0) 1 Try.underlying31 HI0.out HZ0.out HZ1.out HZ2.out rfl _ 0 _ rfl HNIL.out rfl HR1.out (bval_one _) (by have := HBL.out; rw [HMM.out]; unfold maxLen; omega) (by have := HBL.out; rw [HMM.out]; omega) (Nat.le_refl _) ?_; intro x1 w1 hown hgrow)
  have HO : Hid (w1.ownsRow (K + 2) 5 1 x1 b.length (b.map bval)) := Lib.hid (by have h := hown; rw [HMM.out, Nat.zero_add, List.nil_append] at h; exact h.mono (by have := H2.out.lt; omega))
  have HE1 : Hid (Ext wa w1) := Lib.hid (ext_own (Ext.refl wa) HNIL.out (Nat.le_refl _) hgrow)
  have H1 := Lib.hid (ext_blk H1.out HE1.out)
  have H2 := Lib.hid (ext_blk H2.out HE1.out)
  have HE := Lib.hid (HE.out.trans HE1.out)
  obtain ⟨ax, cx, hxv, _⟩ := id (Row1.of_own HO.out)
  rw [HMM.out] at hxv
  subst hxv
  clear hown hgrow HE1 HNIL HR1 HMM
  have ha0 := HA0.out
  go_upto_region 3 with (fail)
  clear ha0 HA0
  obtain ⟨M, hM⟩ : ∃ M, M = w1.heap.size := ⟨_, rfl⟩
  have HMW : Hid (K + 1 < M) := Lib.hid (by have := H2.out.lt; omega)
  have HXA := Ext.alloc w1 (.cells (ints .u8 (List.replicate 64 0)).toArray 28)
  have HXM : Hid (∀ g, ax = some ⟨g, 0, none⟩ → g < M) := Lib.hid (fun g hg => by subst hg; rw [hM]; exact (HO.out.lt g rfl).2)
  have H3 : Hid (Blk (w1.alloc (.cells (ints .u8 (List.replicate 64 0)).toArray 28)) M ((List.replicate 64 (0 : UInt8)).map bval) 28) := Lib.hid (by
    have e : (List.replicate 64 (0 : UInt8)).map bval = ints .u8 (List.replicate 64 0) := by rw [List.map_replicate]; unfold ints; rw [List.map_replicate]; rfl
    rw [e, hM]
    exact Blk.made w1 (ints .u8 (List.replicate 64 0)) 28)
  have H1 := Lib.hid (ext_blk H1.out HXA)
  have H2 := Lib.hid (ext_blk H2.out HXA)
  have HO := Lib.hid (HO.out.alloc (.cells (ints .u8 (List.replicate 64 0)).toArray 28))
  have HE := Lib.hid (HE.out.trans HXA)
  clear HXA
  go_upto_region 4 with (fail)
  change Code.wp _ _ _ _ (w1.alloc (.cells (ints .u8 (List.replicate 64 0)).toArray 28))
  rw [← hM]
  clear hM
  generalize w1.alloc (.cells (ints .u8 (List.replicate 64 0)).toArray 28) = w2 at *
  go_wp2_with fail
  go_loopw [12] (fun iv wr => ∃ (k : Nat) (kk : List UInt8), k ≤ b.length ∧ iv = .int .i64 (k : Int) ∧ kk.length = 64 ∧ (k % 64 ≠ 0 → kk = chaBlock kb (BitVec.ofInt 32 (c + ((k / 64 : Nat) : Int))) nb) ∧ wr.ownsRow (K + 2) 5 1 (.slice ax b.length cx) b.length ((chaTo kb c nb b k).map bval) ∧ Blk wr K (kb.map bval) 23 ∧ Blk wr (K + 1) (nb.map bval) 25 ∧ Blk wr M (kk.map bval) 28 ∧ Ext w wr) (fun iv _ => b.length - (intOf iv).toNat)
  case atStart => exact ⟨0, _, by omega, rfl, by simp, fun h => absurd rfl h, HO.out, H1.out, H2.out, H3.out, HE.out⟩
  case round =>
    clear HO H1 H2 H3 HE
    obtain ⟨k, kk, hk, rfl, hkl, hkk, ho, hb1, hb2, hb3, hbel⟩ := hrel
    have k0 : (0 : Int) ≤ (k : Int) := Int.natCast_nonneg _
    have HKK := Lib.hid hkk
    have HLK := Lib.hid hkl
    have HO := Lib.hid ho
    have H1 := Lib.hid hb1
    have H2 := Lib.hid hb2
    have H3 := Lib.hid hb3
    have HE := Lib.hid hbel
    clear hkk hkl ho hb1 hb2 hb3 hbel
    by_cases hlk : k < b.length
    · have k1 : (k : Int) < (b.length : Int) := by omega
      go_upto_if 25 with (fail)
      go_cut [12] from 23 to 32 (fun iv wc => ∃ (k2 : List UInt8), iv = .int .i64 (k : Int) ∧ k2.length = 64 ∧ k2 = chaBlock kb (BitVec.ofInt 32 (c + ((k / 64 : Nat) : Int))) nb ∧ wc.ownsRow (K + 2) 5 1 (.slice ax b.length cx) b.length ((chaTo kb c nb b k).map bval) ∧ Blk wc K (kb.map bval) 23 ∧ Blk wc (K + 1) (nb.map bval) 25 ∧ Blk wc M (k2.map bval) 28 ∧ Ext w wc)
      case first =>
        by_cases hm : k % 64 = 0
        · have q0 : (k : Int) % 64 = 0 := by omega
          obtain ⟨d, hd⟩ : ∃ d, d = k / 64 := ⟨_, rfl⟩
          have q1 : (k : Int) / 64 = (d : Int) := by omega
          have q2 : (0 : Int) ≤ (d : Int) := by omega
          have q3 : cm + (d : Int) ≤ 9223372036854775807 := by have := HCM.out; have := HBL.out; omega
          have q4 : -9223372036854775808 ≤ cm + (d : Int) := by have := HCM.out; omega
          have q5 : (d : Int) ≤ 9223372036854775807 := by have := HBL.out; omega
          have q6 : -9223372036854775808 ≤ (d : Int) := by omega
          obtain ⟨o, ho⟩ : ∃ o, o = chaBlock kb (BitVec.ofInt 32 (c + ((k / 64 : Nat) : Int))) nb := ⟨_, rfl⟩
          have hblk : chaBlock kb (BitVec.ofInt 32 (cm + (d : Int))) nb = o := by rw [ho, hd, HMOD.out]
          have hbk := rBlock_any kb nb (cm + (d : Int)) wr HKL.out HNL.out q4 q3
          rw [hblk] at hbk
          have HBK := Lib.hid hbk
          have HDO := Lib.hid ho
          have HLO : Hid (o.length = 64) := Lib.hid (by rw [ho]; exact chaBlock_length _ _ _)
          clear ho hblk hbk
          clear hd hm
          go_wp2_with (first | (refine wpList_load_blk rfl _ _ rfl K rfl _ _ _ _ H1.out Try.underlying23 HIK.out ?_) | (refine wpList_load_blk rfl _ _ rfl (K + 1) rfl _ _ _ _ H2.out Try.underlying25 HIN.out ?_))
          refine HBK.out.mono ?_
          rintro e w5 ⟨rfl, hb⟩
          have HO := Lib.hid (own_below HO.out hb)
          have H1 := Lib.hid (ext_blk H1.out hb)
          have H2 := Lib.hid (ext_blk H2.out hb)
          have H3 := Lib.hid (ext_blk H3.out hb)
          have HE := Lib.hid (HE.out.trans hb)
          have HIo : Hid ((Try.prog.info? 28).map (·.size) = some (o.map bval).length) := Lib.hid (sig_size HLO.out)
          have HLo : Hid ((o.map bval).length = (kk.map bval).length) := Lib.hid (by rw [List.length_map, List.length_map, HLO.out, HLK.out])
          clear hb HBK
          go_wp2_with (refine wpList_store_blk rfl _ _ _ rfl M (o.map bval) rfl rfl _ _ H3.out HLo.out HIo.out (bval_one _) ?_; intro w6 hb6 hg6)
          go_meet
          refine ⟨o, rfl, HLO.out, HDO.out, HO.out.kept hg6 (Or.inr (fun e => ?_)), H1.out.grown hg6 (fun e => by have h := Option.some.inj e; have := HMW.out; omega), H2.out.grown hg6 (fun e => by have h := Option.some.inj e; have := HMW.out; omega), hb6, ext_grown HE.out hg6 (by have := HMW.out; have := HKW.out; omega)⟩
          cases ax with
          | none => cases e
          | some a =>
            have e2 : a.block = M := Option.some.inj e
            obtain ⟨g, cap, hv, _⟩ := HO.out.form (by omega)
            have hg : a = ⟨g, 0, none⟩ := by
              simp only [Value.slice.injEq, Option.some.injEq] at hv
              exact hv.1
            subst hg
            have := HXM.out g rfl
            have e3 : g = M := e2
            omega
        · have q0 : ((k : Int) % 64 == 0) = false := by simp; omega
          go_wp2_with fail
          go_meet
          exact ⟨kk, rfl, HLK.out, HKK.out hm, HO.out, H1.out, H2.out, H3.out, HE.out⟩
      case rest =>
        obtain ⟨k2, rfl, hl2, hk2, ho, hb1, hb2, hb3, hbel⟩ := hcut
        clear HO H1 H2 H3 HE HKK HLK
        obtain ⟨g, cap, hv, hgK, hgl⟩ := ho.form (by omega)
        have hg2 : ax = some ⟨g, 0, none⟩ := by
          simp only [Value.slice.injEq] at hv
          exact hv.1
        subst hg2
        have HGM := Lib.hid (HXM.out g rfl)
        have c1 := ho.cellAt k (by omega)
        have f1 := ho.frozenAt k
        have hx : (chaTo kb c nb b k).getD k 0 = b.getD k 0 := by rw [chaTo_getD _ _ _ _ k hk, if_neg (by omega)]
        rw [bval_get (by rw [chaTo_length]; exact hlk), hx] at c1
        have c2 := hb3.cell (k % 64)
        rw [bval_get (by rw [hl2]; omega)] at c2
        have hby := chaByte_at kb c nb k2 k hk2
        have x1 := xor_u8 (b.getD k 0) (k2.getD (k % 64) 0)
        have HS := Lib.hid (show ((chaTo kb c nb b k).map bval).set k (bval (b.getD k 0 ^^^ k2.getD (k % 64) 0)) = (chaTo kb c nb b (k + 1)).map bval from by rw [← List.map_set, hby]; rfl)
        have HST := Lib.hid (ho.stored k (bval (b.getD k 0 ^^^ k2.getD (k % 64) 0)))
        have HK2 := Lib.hid hk2
        have HL2 := Lib.hid hl2
        have H1 := Lib.hid hb1
        have H2 := Lib.hid hb2
        have H3 := Lib.hid hb3
        have HE := Lib.hid hbel
        generalize hz : b.getD k 0 ^^^ k2.getD (k % 64) 0 = z at *
        generalize b.getD k 0 = y1 at *
        generalize k2.getD (k % 64) 0 = y2 at *
        obtain ⟨r, hr⟩ : ∃ r, r = k % 64 := ⟨_, rfl⟩
        have q1 : (k : Int) % 64 = (r : Int) := by omega
        have q2 : (0 : Int) ≤ (r : Int) := by omega
        have q3 : (r : Int) < 64 := by omega
        rw [← hr] at c2
        clear hk2 hl2 hb1 hb2 hb3 hbel hby hx hz hr ho hv hgl
        go_wp2_with fail
        go_region
        have k63 : (k : Int) + 1 ≤ 9223372036854775807 := by have := HBL.out; omega
        go_wp2_with fail
        go_roundw
        case rel =>
          refine ⟨k + 1, k2, by omega, by go_num, HL2.out, fun hm => ?_, ?_, H1.out.far (by simp; omega) _, H2.out.far (by simp; omega) _, H3.out.far (by have := HGM.out; simp; omega) _, Ext.trans (b := wc.setCell ⟨g, k, none⟩ (bval z)) (Below.setCell HE.out (by have := HKW.out; simp; omega) _) (Ext.drew _)⟩
          · rw [HK2.out]
            congr 2
            omega
          · rw [← HS.out]
            exact HST.out.1
        case measure =>
          simp [intOf]; omega
    · have hkb : k = b.length := by omega
      subst hkb
      rw [chaTo_full] at HO
      have hlk2 : ¬ (b.length : Int) < (b.length : Int) := by omega
      go_wp2_with fail
      go_ret
      exact ⟨_, rfl, HO.out.mono (by have := HKW.out; omega), HE.out⟩

end Go.Proofs.Ytldpmphecgffcaa
