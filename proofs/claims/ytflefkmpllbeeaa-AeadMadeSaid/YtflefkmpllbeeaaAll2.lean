/- Texts that belong together, one behind the other; each says in its own first remark what it shows. -/
import Derived.Test.YtflefkmpllbeeaaAll1
import Derived.Laws.OwnMore
import Derived.Deep.Onto
import Derived.Laws.Tables
import Derived.Deep.QuietTactic
import Derived.BigQuiet
import Derived.Laws.Slices
import Derived.Deep.RegionHeld
import Derived.Test.YtflefkmpllbeeaaProg
import Derived.Deep.CutRange
import Derived.Lib.AppendZeros
import Derived.Laws.Bits64b
import Derived.Deep.RegionWith

/- The walk of the document's own Turn. Each theorem names its own conditions. -/
namespace Go.Proofs.Ytflefkmpllbeeaa
open Go.RowKit
set_option linter.unusedVariables false
set_option linter.unusedSimpArgs false

theorem Try.arr25 : (Try.prog.info? 25).map (·.size) = some 12 := by kernel_rfl
theorem nonce_size {l : List UInt8} (h : l.length = 12) : (Try.prog.info? 25).map (·.size) = some (l.map bval).length := by rw [List.length_map, h]; exact Try.arr25
theorem ofInt32_mod (c z : Int) : BitVec.ofInt 32 (c % 4294967296 + z) = BitVec.ofInt 32 (c + z) := by
  apply BitVec.eq_of_toInt_eq
  rw [BitVec.toInt_ofInt, BitVec.toInt_ofInt]
  unfold Int.bmod
  have e2 : ((2 ^ 32 : Nat) : Int) = 4294967296 := rfl
  rw [e2, Int.emod_add_emod]
/-- The byte of the stream at k, the block at hand. -/
theorem chaByte_at (key : List UInt8) (c : Int) (nonce kk : List UInt8) (k : Nat) (h : kk = chaBlock key (BitVec.ofInt 32 (c + ((k / 64 : Nat) : Int))) nonce) : kk.getD (k % 64) 0 = chaByte key c nonce k := by
  rw [h]
  rfl

set_option maxRecDepth 100000 in
set_option maxHeartbeats 16000000 in
theorem rTurn_any (kb nb b : List UInt8) (bv : Value) (c : Int) (w : World) (hk : kb.length = 32) (hn : nb.length = 12) (hb : Row1 w bv (b.map bval)) (hbl : b.length ≤ 1099511627776) (hc1 : -9223372036854775808 ≤ c) (hc2 : c ≤ 9223372036854775807) :
    Calls Try.prog 21 #[.agg (kb.map bval).toArray, .int .i64 c, .agg (nb.map bval).toArray, bv] w fun e w' => ∃ x, e = .returned x ∧ w'.ownsRow w.heap.size 5 1 x b.length ((chaTurn kb c nb b).map bval) ∧ Below w.heap.size w w' := by
  obtain ⟨i0, hi0, hz0, hz1, hz2⟩ := info_parts Try.info5
  have HI0 := Lib.hid hi0
  have HZ0 := Lib.hid hz0
  have HZ1 := Lib.hid hz1
  have HZ2 := Lib.hid hz2
  have HKL := Lib.hid hk
  have HNL := Lib.hid hn
  have HBL := Lib.hid hbl
  have HR := Lib.hid hb
  have HB := Lib.hid (boxes2 w (kb.map bval) (nb.map bval) 23 25)
  have HA0 := Lib.hid (and_mask32 c hc1 hc2)
  have HIK : Hid ((Try.prog.info? 23).map (·.size) = some (kb.map bval).length) := Lib.hid (num_size hk)
  have HIN : Hid ((Try.prog.info? 25).map (·.size) = some (nb.map bval).length) := Lib.hid (nonce_size hn)
  have HMOD := Lib.hid (fun z => ofInt32_mod c z)
  obtain ⟨cm, hcm⟩ : ∃ cm, cm = c % 4294967296 := ⟨_, rfl⟩
  have HCM : Hid (0 ≤ cm ∧ cm < 4294967296) := Lib.hid (by omega)
  rw [← hcm] at HA0 HMOD
  clear hk hn hbl hb hi0 hz0 hz1 hz2 hc1 hc2 hcm
  go_enter Try.func21, Try.ntmps21
  go_upto_region 1 with (fail)
  obtain ⟨H1, H2, HE⟩ := HB.out
  change Code.wp _ _ _ _ ((w.alloc (.cells (kb.map bval).toArray 23)).alloc (.cells (nb.map bval).toArray 25))
  generalize (w.alloc (.cells (kb.map bval).toArray 23)).alloc (.cells (nb.map bval).toArray 25) = wa at *
  obtain ⟨K, hK⟩ : ∃ K, K = w.heap.size := ⟨_, rfl⟩
  have HKW : Hid (w.heap.size ≤ K ∧ K ≤ w.heap.size) := Lib.hid (by omega)
  rw [← hK] at H1 H2 ⊢
  have H1 := Lib.hid H1
  have H2 := Lib.hid H2
  have HE : Hid (Ext w wa) := Lib.hid HE
  have HR1 := Lib.hid (HR.out.below HE.out)
  have HNIL : Hid (wa.ownsRow wa.heap.size 5 1 (.slice none 0 0) 0 []) := Lib.hid (World.ownsRow_nil _ _ _ _)
  have HMM : Hid ((b.map bval).length = b.length) := Lib.hid (List.length_map _)
  clear hK HB HR
  go_upto_region 2 with (at_builtin; refine wpList_append_row rfl _ _ 26 rfl wa.heap.size 5 i0 (.int .u8 0) 1 Try.underlying26 HI0.out HZ0.out HZ1.out HZ2.out rfl _ 0 _ rfl HNIL.out rfl HR1.out (bval_one _) (by have := HBL.out; rw [HMM.out]; unfold maxLen; omega) (by have := HBL.out; rw [HMM.out]; omega) (Nat.le_refl _) ?_; intro x1 w1 hown hgrow)
  have HO : Hid (w1.ownsRow (K + 2) 5 1 x1 b.length (b.map bval)) := Lib.hid (by have h := hown; rw [HMM.out, Nat.zero_add, List.nil_append] at h; exact h.mono (by have := H2.out.lt; omega))
  have HE1 : Hid (Ext wa w1) := Lib.hid (ext_own (Ext.refl wa) HNIL.out (Nat.le_refl _) hgrow)
  have H1 := Lib.hid (ext_blk H1.out HE1.out)
  have H2 := Lib.hid (ext_blk H2.out HE1.out)
  have HE := Lib.hid (HE.out.trans HE1.out)
  obtain ⟨ax, cx, hxv, _⟩ := id (Row1.of_own HO.out)
  rw [HMM.out] at hxv
  subst hxv
  clear hown hgrow HE1 HNIL HR1 HMM
  have ha0 := HA0.out
  go_upto_region 3 with (fail)
  clear ha0 HA0
  obtain ⟨M, hM⟩ : ∃ M, M = w1.heap.size := ⟨_, rfl⟩
  have HMW : Hid (K + 1 < M) := Lib.hid (by have := H2.out.lt; omega)
  have HXA := Ext.alloc w1 (.cells (ints .u8 (List.replicate 64 0)).toArray 39)
  have HXM : Hid (∀ g, ax = some ⟨g, 0, none⟩ → g < M) := Lib.hid (fun g hg => by subst hg; rw [hM]; exact (HO.out.lt g rfl).2)
  have H3 : Hid (Blk (w1.alloc (.cells (ints .u8 (List.replicate 64 0)).toArray 39)) M ((List.replicate 64 (0 : UInt8)).map bval) 39) := Lib.hid (by
    have e : (List.replicate 64 (0 : UInt8)).map bval = ints .u8 (List.replicate 64 0) := by rw [List.map_replicate]; unfold ints; rw [List.map_replicate]; rfl
    rw [e, hM]
    exact Blk.made w1 (ints .u8 (List.replicate 64 0)) 39)
  have H1 := Lib.hid (ext_blk H1.out HXA)
  have H2 := Lib.hid (ext_blk H2.out HXA)
  have HO := Lib.hid (HO.out.alloc (.cells (ints .u8 (List.replicate 64 0)).toArray 39))
  have HE := Lib.hid (HE.out.trans HXA)
  clear HXA
  go_upto_region 4 with (fail)
  change Code.wp _ _ _ _ (w1.alloc (.cells (ints .u8 (List.replicate 64 0)).toArray 39))
  rw [← hM]
  clear hM
  generalize w1.alloc (.cells (ints .u8 (List.replicate 64 0)).toArray 39) = w2 at *
  go_wp2_with fail
  go_loopw [12] (fun iv wr => ∃ (k : Nat) (kk : List UInt8), k ≤ b.length ∧ iv = .int .i64 (k : Int) ∧ kk.length = 64 ∧ (k % 64 ≠ 0 → kk = chaBlock kb (BitVec.ofInt 32 (c + ((k / 64 : Nat) : Int))) nb) ∧ wr.ownsRow (K + 2) 5 1 (.slice ax b.length cx) b.length ((chaTo kb c nb b k).map bval) ∧ Blk wr K (kb.map bval) 23 ∧ Blk wr (K + 1) (nb.map bval) 25 ∧ Blk wr M (kk.map bval) 39 ∧ Ext w wr) (fun iv _ => b.length - (intOf iv).toNat)
  case atStart => exact ⟨0, _, by omega, rfl, by simp, fun h => absurd rfl h, HO.out, H1.out, H2.out, H3.out, HE.out⟩
  case round =>
    clear HO H1 H2 H3 HE
    obtain ⟨k, kk, hk, rfl, hkl, hkk, ho, hb1, hb2, hb3, hbel⟩ := hrel
    have k0 : (0 : Int) ≤ (k : Int) := Int.natCast_nonneg _
    have HKK := Lib.hid hkk
    have HLK := Lib.hid hkl
    have HO := Lib.hid ho
    have H1 := Lib.hid hb1
    have H2 := Lib.hid hb2
    have H3 := Lib.hid hb3
    have HE := Lib.hid hbel
    clear hkk hkl ho hb1 hb2 hb3 hbel
    by_cases hlk : k < b.length
    · have k1 : (k : Int) < (b.length : Int) := by omega
      go_upto_if 25 with (fail)
      go_cut [12] from 23 to 32 (fun iv wc => ∃ (k2 : List UInt8), iv = .int .i64 (k : Int) ∧ k2.length = 64 ∧ k2 = chaBlock kb (BitVec.ofInt 32 (c + ((k / 64 : Nat) : Int))) nb ∧ wc.ownsRow (K + 2) 5 1 (.slice ax b.length cx) b.length ((chaTo kb c nb b k).map bval) ∧ Blk wc K (kb.map bval) 23 ∧ Blk wc (K + 1) (nb.map bval) 25 ∧ Blk wc M (k2.map bval) 39 ∧ Ext w wc)
      case first =>
        by_cases hm : k % 64 = 0
        · have q0 : (k : Int) % 64 = 0 := by omega
          obtain ⟨d, hd⟩ : ∃ d, d = k / 64 := ⟨_, rfl⟩
          have q1 : (k : Int) / 64 = (d : Int) := by omega
          have q2 : (0 : Int) ≤ (d : Int) := by omega
          have q3 : cm + (d : Int) ≤ 9223372036854775807 := by have := HCM.out; have := HBL.out; omega
          have q4 : -9223372036854775808 ≤ cm + (d : Int) := by have := HCM.out; omega
          have q5 : (d : Int) ≤ 9223372036854775807 := by have := HBL.out; omega
          have q6 : -9223372036854775808 ≤ (d : Int) := by omega
          obtain ⟨o, ho⟩ : ∃ o, o = chaBlock kb (BitVec.ofInt 32 (c + ((k / 64 : Nat) : Int))) nb := ⟨_, rfl⟩
          have hblk : chaBlock kb (BitVec.ofInt 32 (cm + (d : Int))) nb = o := by rw [ho, hd, HMOD.out]
          have hbk := rBlock_any kb nb (cm + (d : Int)) wr HKL.out HNL.out q4 q3
          rw [hblk] at hbk
          have HBK := Lib.hid hbk
          have HDO := Lib.hid ho
          have HLO : Hid (o.length = 64) := Lib.hid (by rw [ho]; exact chaBlock_length _ _ _)
          clear ho hblk hbk
          clear hd hm
          go_wp2_with (first | (refine wpList_load_blk rfl _ _ rfl K rfl _ _ _ _ H1.out Try.underlying23 HIK.out ?_) | (refine wpList_load_blk rfl _ _ rfl (K + 1) rfl _ _ _ _ H2.out Try.underlying25 HIN.out ?_))
          refine HBK.out.mono ?_
          rintro e w5 ⟨rfl, hb⟩
          have HO := Lib.hid (own_below HO.out hb)
          have H1 := Lib.hid (ext_blk H1.out hb)
          have H2 := Lib.hid (ext_blk H2.out hb)
          have H3 := Lib.hid (ext_blk H3.out hb)
          have HE := Lib.hid (HE.out.trans hb)
          have HIo : Hid ((Try.prog.info? 39).map (·.size) = some (o.map bval).length) := Lib.hid (sig_size HLO.out)
          have HLo : Hid ((o.map bval).length = (kk.map bval).length) := Lib.hid (by rw [List.length_map, List.length_map, HLO.out, HLK.out])
          clear hb HBK
          go_wp2_with (refine wpList_store_blk rfl _ _ _ rfl M (o.map bval) rfl rfl _ _ H3.out HLo.out HIo.out (bval_one _) ?_; intro w6 hb6 hg6)
          go_meet
          refine ⟨o, rfl, HLO.out, HDO.out, HO.out.kept hg6 (Or.inr (fun e => ?_)), H1.out.grown hg6 (fun e => by have h := Option.some.inj e; have := HMW.out; omega), H2.out.grown hg6 (fun e => by have h := Option.some.inj e; have := HMW.out; omega), hb6, ext_grown HE.out hg6 (by have := HMW.out; have := HKW.out; omega)⟩
          cases ax with
          | none => cases e
          | some a =>
            have e2 : a.block = M := Option.some.inj e
            obtain ⟨g, cap, hv, _⟩ := HO.out.form (by omega)
            have hg : a = ⟨g, 0, none⟩ := by
              simp only [Value.slice.injEq, Option.some.injEq] at hv
              exact hv.1
            subst hg
            have := HXM.out g rfl
            have e3 : g = M := e2
            omega
        · have q0 : ((k : Int) % 64 == 0) = false := by simp; omega
          go_wp2_with fail
          go_meet
          exact ⟨kk, rfl, HLK.out, HKK.out hm, HO.out, H1.out, H2.out, H3.out, HE.out⟩
      case rest =>
        obtain ⟨k2, rfl, hl2, hk2, ho, hb1, hb2, hb3, hbel⟩ := hcut
        clear HO H1 H2 H3 HE HKK HLK
        obtain ⟨g, cap, hv, hgK, hgl⟩ := ho.form (by omega)
        have hg2 : ax = some ⟨g, 0, none⟩ := by
          simp only [Value.slice.injEq] at hv
          exact hv.1
        subst hg2
        have HGM := Lib.hid (HXM.out g rfl)
        have c1 := ho.cellAt k (by omega)
        have f1 := ho.frozenAt k
        have hx : (chaTo kb c nb b k).getD k 0 = b.getD k 0 := by rw [chaTo_getD _ _ _ _ k hk, if_neg (by omega)]
        rw [bval_get (by rw [chaTo_length]; exact hlk), hx] at c1
        have c2 := hb3.cell (k % 64)
        rw [bval_get (by rw [hl2]; omega)] at c2
        have hby := chaByte_at kb c nb k2 k hk2
        have x1 := xor_u8 (b.getD k 0) (k2.getD (k % 64) 0)
        have HS := Lib.hid (show ((chaTo kb c nb b k).map bval).set k (bval (b.getD k 0 ^^^ k2.getD (k % 64) 0)) = (chaTo kb c nb b (k + 1)).map bval from by rw [← List.map_set, hby]; rfl)
        have HST := Lib.hid (ho.stored k (bval (b.getD k 0 ^^^ k2.getD (k % 64) 0)))
        have HK2 := Lib.hid hk2
        have HL2 := Lib.hid hl2
        have H1 := Lib.hid hb1
        have H2 := Lib.hid hb2
        have H3 := Lib.hid hb3
        have HE := Lib.hid hbel
        generalize hz : b.getD k 0 ^^^ k2.getD (k % 64) 0 = z at *
        generalize b.getD k 0 = y1 at *
        generalize k2.getD (k % 64) 0 = y2 at *
        obtain ⟨r, hr⟩ : ∃ r, r = k % 64 := ⟨_, rfl⟩
        have q1 : (k : Int) % 64 = (r : Int) := by omega
        have q2 : (0 : Int) ≤ (r : Int) := by omega
        have q3 : (r : Int) < 64 := by omega
        rw [← hr] at c2
        clear hk2 hl2 hb1 hb2 hb3 hbel hby hx hz hr ho hv hgl
        go_wp2_with fail
        go_region
        have k63 : (k : Int) + 1 ≤ 9223372036854775807 := by have := HBL.out; omega
        go_wp2_with fail
        go_roundw
        case rel =>
          refine ⟨k + 1, k2, by omega, by go_num, HL2.out, fun hm => ?_, ?_, H1.out.far (by simp; omega) _, H2.out.far (by simp; omega) _, H3.out.far (by have := HGM.out; simp; omega) _, Ext.trans (b := wc.setCell ⟨g, k, none⟩ (bval z)) (Below.setCell HE.out (by have := HKW.out; simp; omega) _) (Ext.drew _)⟩
          · rw [HK2.out]
            congr 2
            omega
          · rw [← HS.out]
            exact HST.out.1
        case measure =>
          simp [intOf]; omega
    · have hkb : k = b.length := by omega
      subst hkb
      rw [chaTo_full] at HO
      have hlk2 : ¬ (b.length : Int) < (b.length : Int) := by omega
      go_wp2_with fail
      go_ret
      exact ⟨_, rfl, HO.out.mono (by have := HKW.out; omega), HE.out⟩

end Go.Proofs.Ytflefkmpllbeeaa

/- The walk of package chacha's start. Each theorem names its own conditions. -/
namespace Go.Proofs.Ytflefkmpllbeeaa
open Go.RowKit
set_option linter.unusedVariables false
set_option linter.unusedSimpArgs false

theorem build_consts (w : World) : (Instr.build 51 #[(0, .int .u32 1634760805), (1, .int .u32 857760878), (2, .int .u32 2036477234), (3, .int .u32 1797285236)]).run Try.prog w = .ok (.agg (ints .u32 (ws (chaK [] 0))).toArray) w := by
  simp [Instr.build, Try.zeroValue51]
  rfl

set_option maxRecDepth 100000 in
set_option maxHeartbeats 8000000 in
theorem cstart_any (kb nb : List UInt8) (c : Int) (w : World) (hk : kb.length = 32) (hn : nb.length = 12) (hc1 : -9223372036854775808 ≤ c) (hc2 : c ≤ 9223372036854775807) :
    Calls Try.prog 23 #[.agg (kb.map bval).toArray, .int .i64 c, .agg (nb.map bval).toArray] w fun e w' => e = .returned (.agg (ints .u32 (ws (chaInit kb (BitVec.ofInt 32 c) nb))).toArray) ∧ Below w.heap.size w w' := by
  have HKL := Lib.hid hk
  have HNL := Lib.hid hn
  have HB := Lib.hid (boxes4 w (kb.map bval) (nb.map bval) (ints .u32 (List.replicate 16 0)) (ints .u32 (List.replicate 16 0)) 23 25 51 51)
  have HC0 : Hid (IntKind.u32.wrap c = wi (BitVec.ofInt 32 c)) := Lib.hid (by rw [← ctr_word c, IntKind.wrap_u32, IntKind.wrap_u32]; omega)
  obtain ⟨ctr, hctr⟩ : ∃ v, v = BitVec.ofInt 32 c := ⟨_, rfl⟩
  have HCTR := Lib.hid hctr
  rw [← hctr] at HC0
  clear hk hn hc1 hc2 hctr
  go_enter Try.func23, Try.ntmps23
  obtain ⟨H1, H2, H3, H4, HE⟩ := HB.out
  have H1 := Lib.hid H1
  have H2 := Lib.hid H2
  have H3 := Lib.hid H3
  have H4 := Lib.hid H4
  have HE : Hid (Ext w _) := Lib.hid HE
  have HL4 : Hid ((ints .u32 (ws (chaK [] 0))).length = (ints .u32 (List.replicate 16 0)).length) := Lib.hid (by rw [ints_length, ws_length, chaK_length, ints_length, List.length_replicate])
  have HI4 := Lib.hid (words_size (chaK_length [] 0))
  clear HB
  have hbz := build_consts
  go_upto_region 2 with (refine wpList_store_blk rfl _ _ _ rfl (w.heap.size + 1 + 1 + 1) (ints .u32 (ws (chaK [] 0))) rfl rfl _ _ H4.out HL4.out HI4.out (ints_one _ _) ?_; intro wa hb4 hg4)
  have H1 := Lib.hid (H1.out.grown hg4 (by simp; omega))
  have H2 := Lib.hid (H2.out.grown hg4 (by simp; omega))
  have H3 := Lib.hid (H3.out.grown hg4 (by simp))
  have HE := Lib.hid (ext_grown HE.out hg4 (by omega))
  have H4 : Hid (Blk wa (w.heap.size + 1 + 1 + 1) (ints .u32 (ws (chaK kb 0))) 51) := Lib.hid hb4
  obtain ⟨B, hB⟩ : ∃ B, B = w.heap.size := ⟨_, rfl⟩
  have HBW : Hid (w.heap.size ≤ B) := Lib.hid (by omega)
  rw [← hB] at H1 H2 H3 H4 ⊢
  clear hb4 hg4 hbz HL4 HI4 hB
  obtain ⟨S, hS⟩ : ∃ S, S = B + 1 + 1 + 1 := ⟨_, rfl⟩
  have HSB : Hid (B + 3 ≤ S ∧ S ≤ B + 3) := Lib.hid (by omega)
  rw [← hS] at H4 ⊢
  clear hS
  obtain ⟨R, hR⟩ : ∃ R, R = B + 1 + 1 := ⟨_, rfl⟩
  have HRB : Hid (B + 2 ≤ R ∧ R ≤ B + 2) := Lib.hid (by omega)
  rw [← hR] at H3 ⊢
  clear hR
  go_wp2_with fail
  go_loopw [11] (fun iv wr => ∃ (k : Nat), k ≤ 8 ∧ iv = .int .i64 (k : Int) ∧ Blk wr B (kb.map bval) 23 ∧ Blk wr (B + 1) (nb.map bval) 25 ∧ Blk wr R (ints .u32 (List.replicate 16 0)) 51 ∧ Blk wr S (ints .u32 (ws (chaK kb k))) 51 ∧ Ext w wr) (fun iv _ => 8 - (intOf iv).toNat)
  case atStart => exact ⟨0, by omega, rfl, H1.out, H2.out, H3.out, H4.out, HE.out⟩
  case round =>
    clear H1 H2 H3 H4 HE
    obtain ⟨k, hk, rfl, hb1, hb2, hb3, hb4, hbel⟩ := hrel
    have k0 : (0 : Int) ≤ (k : Int) := Int.natCast_nonneg _
    by_cases hlk : k < 8
    · have k1 : (k : Int) < 8 := by omega
      have hs := cut_arrL Try.underlying23 Try.sizeOf5 wr (B) (4 * k) (by omega)
      have e4 : ((4 * k : Nat) : Int) = 4 * (k : Int) := by omega
      rw [e4] at hs
      have HW := Lib.hid (cword_any (B) (4 * k) (32 - 4 * k) (32 - 4 * k) kb 23 wr hb1 (by have := HKL.out; omega) (by omega))
      have H1 := Lib.hid hb1
      have H2 := Lib.hid hb2
      have H3 := Lib.hid hb3
      have H4 := Lib.hid hb4
      have HE := Lib.hid hbel
      clear hb1 hb2 hb3 hb4 hbel e4
      go_wp2_with fail
      refine HW.out.mono ?_
      rintro e w5 ⟨rfl, rfl⟩
      have H1 : Hid (Blk wr.drew B (kb.map bval) 23) := Lib.hid H1.out
      have H2 : Hid (Blk wr.drew (B + 1) (nb.map bval) 25) := Lib.hid H2.out
      have H3 : Hid (Blk wr.drew R (ints .u32 (List.replicate 16 0)) 51) := Lib.hid H3.out
      have H4 : Hid (Blk wr.drew S (ints .u32 (ws (chaK kb k))) 51) := Lib.hid H4.out
      have HE : Hid (Ext w wr.drew) := Lib.hid (HE.out.trans (Ext.drew _))
      clear HW hs
      generalize wr.drew = w5 at *
      have f0 := H4.out.free (4 + k)
      obtain ⟨u, c0⟩ : ∃ u, w5.cell? ⟨S, 4 + k, none⟩ = some u := ⟨_, word_cell H4.out (by rw [chaK_length]; omega)⟩
      have i0 : (0 : Int) ≤ 4 + (k : Int) := by omega
      have i1 : (4 : Int) + (k : Int) < 16 := by omega
      have i2 : ((4 : Int) + (k : Int)).toNat = 4 + k := by omega
      have HX : Hid (Blk (w5.setCell ⟨S, 4 + k, none⟩ (.int .u32 (wi (leW kb (4 * k))))) S (ints .u32 (ws (chaK kb (k + 1)))) 51) := Lib.hid (set_word H4.out (4 + k) _ (leW kb (4 * k)) rfl)
      generalize leW kb (4 * k) = lw at *
      go_wp2_with fail
      go_roundw
      case rel => exact ⟨k + 1, by omega, by go_num, H1.out.far (by have := HSB.out; simp; omega) _, H2.out.far (by have := HSB.out; simp; omega) _, H3.out.far (by have := HSB.out; have := HRB.out; simp; omega) _, HX.out, far_ext HE.out (by have := HBW.out; have := HSB.out; omega)⟩
      case measure => simp [intOf]; omega
    · have hk8 : k = 8 := by omega
      subst hk8
      rw [show ((8 : Nat) : Int) = 8 from rfl]
      have H1 := Lib.hid hb1
      have H2 := Lib.hid hb2
      have H3 := Lib.hid hb3
      have H4 := Lib.hid hb4
      have HE := Lib.hid hbel
      clear hb1 hb2 hb3 hb4 hbel k0 hk
      have f0 := H4.out.free 12
      obtain ⟨u, c0⟩ : ∃ u, wr.cell? ⟨S, 12, none⟩ = some u := ⟨_, word_cell H4.out (by rw [chaK_length]; omega)⟩
      have HX : Hid (Blk (wr.setCell ⟨S, 12, none⟩ (.int .u32 (wi ctr))) S (ints .u32 (ws (chaN kb ctr nb 0))) 51) := Lib.hid (set_word H4.out 12 _ ctr rfl)
      have hc0 := HC0.out
      have H1n := Lib.hid (H1.out.far (a := ⟨S, 12, none⟩) (by have := HSB.out; simp; omega) (.int .u32 (wi ctr)))
      have H2n := Lib.hid (H2.out.far (a := ⟨S, 12, none⟩) (by have := HSB.out; simp; omega) (.int .u32 (wi ctr)))
      have H3n := Lib.hid (H3.out.far (a := ⟨S, 12, none⟩) (by have := HSB.out; have := HRB.out; simp; omega) (.int .u32 (wi ctr)))
      have HEn : Hid (Ext w (wr.setCell ⟨S, 12, none⟩ (.int .u32 (wi ctr)))) := Lib.hid (far_ext HE.out (by have := HBW.out; have := HSB.out; omega))
      go_upto_region 8 with (fail)
      clear H1 H2 H3 H4 HE f0 c0 hc0
      generalize wr.setCell ⟨S, 12, none⟩ (.int .u32 (wi ctr)) = w6 at *
      have H1 := H1n
      have H2 := H2n
      have H3 := H3n
      have H4 := HX
      have HE := HEn
      clear H1n H2n H3n HX HEn
      go_wp2_with fail
      go_loopw [25] (fun iv wr => ∃ (k : Nat), k ≤ 3 ∧ iv = .int .i64 (k : Int) ∧ Blk wr B (kb.map bval) 23 ∧ Blk wr (B + 1) (nb.map bval) 25 ∧ Blk wr R (ints .u32 (List.replicate 16 0)) 51 ∧ Blk wr S (ints .u32 (ws (chaN kb ctr nb k))) 51 ∧ Ext w wr) (fun iv _ => 3 - (intOf iv).toNat)
      case atStart => exact ⟨0, by omega, rfl, H1.out, H2.out, H3.out, H4.out, HE.out⟩
      case round =>
        clear H1 H2 H3 H4 HE
        obtain ⟨k, hk, rfl, hb1, hb2, hb3, hb4, hbel⟩ := hrel
        have k0 : (0 : Int) ≤ (k : Int) := Int.natCast_nonneg _
        by_cases hlk : k < 3
        · have k1 : (k : Int) < 3 := by omega
          have hs := cut_arrL Try.underlying25 Try.sizeOf5 wr ((B + 1)) (4 * k) (by omega)
          have e4 : ((4 * k : Nat) : Int) = 4 * (k : Int) := by omega
          rw [e4] at hs
          have HW := Lib.hid (cword_any ((B + 1)) (4 * k) (12 - 4 * k) (12 - 4 * k) nb 25 wr hb2 (by have := HNL.out; omega) (by omega))
          have H1 := Lib.hid hb1
          have H2 := Lib.hid hb2
          have H3 := Lib.hid hb3
          have H4 := Lib.hid hb4
          have HE := Lib.hid hbel
          clear hb1 hb2 hb3 hb4 hbel e4
          go_wp2_with fail
          refine HW.out.mono ?_
          rintro e w5 ⟨rfl, rfl⟩
          have H1 : Hid (Blk wr.drew B (kb.map bval) 23) := Lib.hid H1.out
          have H2 : Hid (Blk wr.drew (B + 1) (nb.map bval) 25) := Lib.hid H2.out
          have H3 : Hid (Blk wr.drew R (ints .u32 (List.replicate 16 0)) 51) := Lib.hid H3.out
          have H4 : Hid (Blk wr.drew S (ints .u32 (ws (chaN kb ctr nb k))) 51) := Lib.hid H4.out
          have HE : Hid (Ext w wr.drew) := Lib.hid (HE.out.trans (Ext.drew _))
          clear HW hs
          generalize wr.drew = w5 at *
          have f0 := H4.out.free (13 + k)
          obtain ⟨u, c0⟩ : ∃ u, w5.cell? ⟨S, 13 + k, none⟩ = some u := ⟨_, word_cell H4.out (by rw [chaN_length]; omega)⟩
          have i0 : (0 : Int) ≤ 13 + (k : Int) := by omega
          have i1 : (13 : Int) + (k : Int) < 16 := by omega
          have i2 : ((13 : Int) + (k : Int)).toNat = 13 + k := by omega
          have HX : Hid (Blk (w5.setCell ⟨S, 13 + k, none⟩ (.int .u32 (wi (leW nb (4 * k))))) S (ints .u32 (ws (chaN kb ctr nb (k + 1)))) 51) := Lib.hid (set_word H4.out (13 + k) _ (leW nb (4 * k)) rfl)
          generalize leW nb (4 * k) = lw at *
          go_wp2_with fail
          go_roundw
          case rel => exact ⟨k + 1, by omega, by go_num, H1.out.far (by have := HSB.out; simp; omega) _, H2.out.far (by have := HSB.out; simp; omega) _, H3.out.far (by have := HSB.out; have := HRB.out; simp; omega) _, HX.out, far_ext HE.out (by have := HBW.out; have := HSB.out; omega)⟩
          case measure => simp [intOf]; omega
        · have hk8 : k = 3 := by omega
          subst hk8
          rw [show ((3 : Nat) : Int) = 3 from rfl]
          have H1 := Lib.hid hb1
          have H2 := Lib.hid hb2
          have H3 := Lib.hid hb3
          have H4 := Lib.hid hb4
          have HE := Lib.hid hbel
          clear hb1 hb2 hb3 hb4 hbel k0 hk
          rw [chaN_full] at H4
          have HSL := Lib.hid (chaInit_length kb ctr nb)
          rw [HCTR.out] at H4 HSL
          obtain ⟨s, hs⟩ : ∃ s, s = chaInit kb (BitVec.ofInt 32 c) nb := ⟨_, rfl⟩
          rw [← hs] at H4 HSL
          have HSS := Lib.hid hs
          clear hs
          have HIs := Lib.hid (words_size HSL.out)
          have HLs : Hid ((ints .u32 (ws s)).length = (ints .u32 (List.replicate 16 0)).length) := Lib.hid (by rw [ints_length, ws_length, HSL.out, ints_length, List.length_replicate])
          go_wp2_with (first | (refine wpList_load_blk rfl _ _ rfl S rfl _ _ _ _ H4.out Try.underlying51 HIs.out ?_) | (refine wpList_store_blk rfl _ _ _ rfl R (ints .u32 (ws s)) rfl rfl _ _ H3.out HLs.out HIs.out (ints_one _ _) ?_; intro w7 hb7 hg7))
          refine bodyPost_ret (result_blk rfl _ R _ _ _ _ rfl hb7 Try.underlying51 HIs.out) rfl ?_
          exact ⟨by rw [HSS.out], ext_grown HE.out hg7 (by have := HBW.out; have := HRB.out; omega)⟩

end Go.Proofs.Ytflefkmpllbeeaa

/- The rounds of package chacha's mixed. Each theorem names its own conditions. -/
namespace Go.Proofs.Ytflefkmpllbeeaa
open Go.RowKit
set_option linter.unusedVariables false
set_option linter.unusedSimpArgs false

theorem cq_at (a b c d a' b' c' d' : W32) (h : qr4 a b c d = (a', b', c', d')) (w : World) : Calls Try.prog 44 #[.int .u32 (wi a), .int .u32 (wi b), .int .u32 (wi c), .int .u32 (wi d)] w fun e w' =>
    e = .returned (.tuple #[.int .u32 (wi a'), .int .u32 (wi b'), .int .u32 (wi c'), .int .u32 (wi d')]) ∧ w = w' := by
  have := cq_any a b c d w
  rw [h] at this
  exact this
theorem qrt_l0 {t0 t1 t2 t3 t4 t5 t6 t7 t8 t9 t10 t11 t12 t13 t14 t15 a b c d : W32} (h : qr4 t0 t4 t8 t12 = (a, b, c, d)) : qrt [t0, t1, t2, t3, t4, t5, t6, t7, t8, t9, t10, t11, t12, t13, t14, t15] 0 4 8 12 = [a, t1, t2, t3, b, t5, t6, t7, c, t9, t10, t11, d, t13, t14, t15] := by
  simp only [qrt, List.getD_cons_zero, List.getD_cons_succ, h, List.set_cons_zero, List.set_cons_succ]
theorem qrt_l1 {t0 t1 t2 t3 t4 t5 t6 t7 t8 t9 t10 t11 t12 t13 t14 t15 a b c d : W32} (h : qr4 t1 t5 t9 t13 = (a, b, c, d)) : qrt [t0, t1, t2, t3, t4, t5, t6, t7, t8, t9, t10, t11, t12, t13, t14, t15] 1 5 9 13 = [t0, a, t2, t3, t4, b, t6, t7, t8, c, t10, t11, t12, d, t14, t15] := by
  simp only [qrt, List.getD_cons_zero, List.getD_cons_succ, h, List.set_cons_zero, List.set_cons_succ]
theorem qrt_l2 {t0 t1 t2 t3 t4 t5 t6 t7 t8 t9 t10 t11 t12 t13 t14 t15 a b c d : W32} (h : qr4 t2 t6 t10 t14 = (a, b, c, d)) : qrt [t0, t1, t2, t3, t4, t5, t6, t7, t8, t9, t10, t11, t12, t13, t14, t15] 2 6 10 14 = [t0, t1, a, t3, t4, t5, b, t7, t8, t9, c, t11, t12, t13, d, t15] := by
  simp only [qrt, List.getD_cons_zero, List.getD_cons_succ, h, List.set_cons_zero, List.set_cons_succ]
theorem qrt_l3 {t0 t1 t2 t3 t4 t5 t6 t7 t8 t9 t10 t11 t12 t13 t14 t15 a b c d : W32} (h : qr4 t3 t7 t11 t15 = (a, b, c, d)) : qrt [t0, t1, t2, t3, t4, t5, t6, t7, t8, t9, t10, t11, t12, t13, t14, t15] 3 7 11 15 = [t0, t1, t2, a, t4, t5, t6, b, t8, t9, t10, c, t12, t13, t14, d] := by
  simp only [qrt, List.getD_cons_zero, List.getD_cons_succ, h, List.set_cons_zero, List.set_cons_succ]
theorem qrt_l4 {t0 t1 t2 t3 t4 t5 t6 t7 t8 t9 t10 t11 t12 t13 t14 t15 a b c d : W32} (h : qr4 t0 t5 t10 t15 = (a, b, c, d)) : qrt [t0, t1, t2, t3, t4, t5, t6, t7, t8, t9, t10, t11, t12, t13, t14, t15] 0 5 10 15 = [a, t1, t2, t3, t4, b, t6, t7, t8, t9, c, t11, t12, t13, t14, d] := by
  simp only [qrt, List.getD_cons_zero, List.getD_cons_succ, h, List.set_cons_zero, List.set_cons_succ]
theorem qrt_l5 {t0 t1 t2 t3 t4 t5 t6 t7 t8 t9 t10 t11 t12 t13 t14 t15 a b c d : W32} (h : qr4 t1 t6 t11 t12 = (a, b, c, d)) : qrt [t0, t1, t2, t3, t4, t5, t6, t7, t8, t9, t10, t11, t12, t13, t14, t15] 1 6 11 12 = [t0, a, t2, t3, t4, t5, b, t7, t8, t9, t10, c, d, t13, t14, t15] := by
  simp only [qrt, List.getD_cons_zero, List.getD_cons_succ, h, List.set_cons_zero, List.set_cons_succ]
theorem qrt_l6 {t0 t1 t2 t3 t4 t5 t6 t7 t8 t9 t10 t11 t12 t13 t14 t15 a b c d : W32} (h : qr4 t2 t7 t8 t13 = (a, b, c, d)) : qrt [t0, t1, t2, t3, t4, t5, t6, t7, t8, t9, t10, t11, t12, t13, t14, t15] 2 7 8 13 = [t0, t1, a, t3, t4, t5, t6, b, c, t9, t10, t11, t12, d, t14, t15] := by
  simp only [qrt, List.getD_cons_zero, List.getD_cons_succ, h, List.set_cons_zero, List.set_cons_succ]
theorem qrt_l7 {t0 t1 t2 t3 t4 t5 t6 t7 t8 t9 t10 t11 t12 t13 t14 t15 a b c d : W32} (h : qr4 t3 t4 t9 t14 = (a, b, c, d)) : qrt [t0, t1, t2, t3, t4, t5, t6, t7, t8, t9, t10, t11, t12, t13, t14, t15] 3 4 9 14 = [t0, t1, t2, a, b, t5, t6, t7, t8, c, t10, t11, t12, t13, d, t15] := by
  simp only [qrt, List.getD_cons_zero, List.getD_cons_succ, h, List.set_cons_zero, List.set_cons_succ]
theorem dround_l {t0 t1 t2 t3 t4 t5 t6 t7 t8 t9 t10 t11 t12 t13 t14 t15 x0 x4 x8 x12 x1 x5 x9 x13 x2 x6 x10 x14 x3 x7 x11 x15 y0 y5 y10 y15 y1 y6 y11 y12 y2 y7 y8 y13 y3 y4 y9 y14 : W32} (q0 : qr4 t0 t4 t8 t12 = (x0, x4, x8, x12)) (q1 : qr4 t1 t5 t9 t13 = (x1, x5, x9, x13)) (q2 : qr4 t2 t6 t10 t14 = (x2, x6, x10, x14)) (q3 : qr4 t3 t7 t11 t15 = (x3, x7, x11, x15)) (q4 : qr4 x0 x5 x10 x15 = (y0, y5, y10, y15)) (q5 : qr4 x1 x6 x11 x12 = (y1, y6, y11, y12)) (q6 : qr4 x2 x7 x8 x13 = (y2, y7, y8, y13)) (q7 : qr4 x3 x4 x9 x14 = (y3, y4, y9, y14)) :
    dround [t0, t1, t2, t3, t4, t5, t6, t7, t8, t9, t10, t11, t12, t13, t14, t15] = [y0, y1, y2, y3, y4, y5, y6, y7, y8, y9, y10, y11, y12, y13, y14, y15] := by
  unfold dround
  rw [qrt_l0 q0, qrt_l1 q1, qrt_l2 q2, qrt_l3 q3, qrt_l4 q4, qrt_l5 q5, qrt_l6 q6, qrt_l7 q7]
theorem cons_of (s : List W32) (n : Nat) (h : s.length = n + 1) : ∃ a t, s = a :: t ∧ t.length = n := by
  match s, h with
  | a :: t, h => exact ⟨a, t, rfl, by simpa using h⟩
theorem list16 (s : List W32) (h : s.length = 16) : ∃ s0 s1 s2 s3 s4 s5 s6 s7 s8 s9 s10 s11 s12 s13 s14 s15 : W32, s = [s0, s1, s2, s3, s4, s5, s6, s7, s8, s9, s10, s11, s12, s13, s14, s15] := by
  obtain ⟨s0, r0, e0, h0⟩ := cons_of s 15 h
  obtain ⟨s1, r1, e1, h1⟩ := cons_of r0 14 h0
  obtain ⟨s2, r2, e2, h2⟩ := cons_of r1 13 h1
  obtain ⟨s3, r3, e3, h3⟩ := cons_of r2 12 h2
  obtain ⟨s4, r4, e4, h4⟩ := cons_of r3 11 h3
  obtain ⟨s5, r5, e5, h5⟩ := cons_of r4 10 h4
  obtain ⟨s6, r6, e6, h6⟩ := cons_of r5 9 h5
  obtain ⟨s7, r7, e7, h7⟩ := cons_of r6 8 h6
  obtain ⟨s8, r8, e8, h8⟩ := cons_of r7 7 h7
  obtain ⟨s9, r9, e9, h9⟩ := cons_of r8 6 h8
  obtain ⟨s10, r10, e10, h10⟩ := cons_of r9 5 h9
  obtain ⟨s11, r11, e11, h11⟩ := cons_of r10 4 h10
  obtain ⟨s12, r12, e12, h12⟩ := cons_of r11 3 h11
  obtain ⟨s13, r13, e13, h13⟩ := cons_of r12 2 h12
  obtain ⟨s14, r14, e14, h14⟩ := cons_of r13 1 h13
  obtain ⟨s15, r15, e15, h15⟩ := cons_of r14 0 h14
  have e := List.eq_nil_of_length_eq_zero h15
  exact ⟨s0, s1, s2, s3, s4, s5, s6, s7, s8, s9, s10, s11, s12, s13, s14, s15, by rw [e0, e1, e2, e3, e4, e5, e6, e7, e8, e9, e10, e11, e12, e13, e14, e15, e]⟩
theorem build_words (t0 t1 t2 t3 t4 t5 t6 t7 t8 t9 t10 t11 t12 t13 t14 t15 : W32) (w : World) : (Instr.build 51 #[(0, .int .u32 (wi t0)), (1, .int .u32 (wi t1)), (2, .int .u32 (wi t2)), (3, .int .u32 (wi t3)), (4, .int .u32 (wi t4)), (5, .int .u32 (wi t5)), (6, .int .u32 (wi t6)), (7, .int .u32 (wi t7)), (8, .int .u32 (wi t8)), (9, .int .u32 (wi t9)), (10, .int .u32 (wi t10)), (11, .int .u32 (wi t11)), (12, .int .u32 (wi t12)), (13, .int .u32 (wi t13)), (14, .int .u32 (wi t14)), (15, .int .u32 (wi t15))]).run Try.prog w = .ok (.agg (ints .u32 (ws [t0, t1, t2, t3, t4, t5, t6, t7, t8, t9, t10, t11, t12, t13, t14, t15])).toArray) w :=
  run_build w 51 _ _ (by kernel_rfl)
/-- The words added, k of them. -/
def addK (t s : List W32) : Nat → List W32
  | 0 => t
  | k + 1 => (addK t s k).set k (t.getD k 0#32 + s.getD k 0#32)
theorem addK_length (t s : List W32) : ∀ k, (addK t s k).length = t.length
  | 0 => rfl
  | k + 1 => by rw [addK, List.length_set, addK_length t s k]
theorem addK_getD (t s : List W32) : ∀ k, k ≤ t.length → ∀ i, (addK t s k).getD i 0#32 = if i < k then t.getD i 0#32 + s.getD i 0#32 else t.getD i 0#32
  | 0, _, i => by rw [if_neg (by omega)]; rfl
  | k + 1, hk, i => by
    rw [addK]
    by_cases e : k = i
    · subst e
      rw [if_pos (by omega), List.getD_eq_getElem?_getD, List.getElem?_set_self (by rw [addK_length]; omega)]
      rfl
    · have h := addK_getD t s k (by omega) i
      rw [List.getD_eq_getElem?_getD, List.getElem?_set_ne e, ← List.getD_eq_getElem?_getD, h]
      by_cases h2 : i < k
      · rw [if_pos h2, if_pos (by omega)]
      · rw [if_neg h2, if_neg (by omega)]
theorem addK_full (t s : List W32) (h : t.length = 16) : addK t s 16 = wAdd t s := by
  apply List.ext_getElem (by rw [addK_length, h]; simp [wAdd])
  intro i h1 h2
  have hi : i < 16 := by rw [addK_length, h] at h1; exact h1
  have e1 := addK_getD t s 16 (by omega) i
  have e2 := wAdd_getD t s hi
  rw [if_pos hi] at e1
  rw [List.getD_eq_getElem?_getD, List.getElem?_eq_getElem h1] at e1
  rw [List.getD_eq_getElem?_getD, List.getElem?_eq_getElem h2] at e2
  exact e1.trans e2.symm
def wordsOut (s : List W32) : List W32 := wAdd (dRun s 10) s
theorem wordsOut_length (s : List W32) : (wordsOut s).length = 16 := by simp [wordsOut, wAdd]

end Go.Proofs.Ytflefkmpllbeeaa

/- The walk of package chacha's mixed. Each theorem names its own conditions. -/
namespace Go.Proofs.Ytflefkmpllbeeaa
open Go.RowKit
set_option linter.unusedVariables false
set_option linter.unusedSimpArgs false

set_option maxRecDepth 100000 in
set_option maxHeartbeats 16000000 in
theorem cmixed_any (s : List W32) (hs : s.length = 16) (w : World) : Calls Try.prog 26 #[.agg (ints .u32 (ws s)).toArray] w fun e w' => e = .returned (.agg (ints .u32 (ws (wordsOut s))).toArray) ∧ Below w.heap.size w w' := by
  have HSL := Lib.hid hs
  have HIs := Lib.hid (words_size hs)
  have HB := Lib.hid (boxes2 w (ints .u32 (ws s)) (ints .u32 (List.replicate 16 0)) 51 51)
  obtain ⟨s0, s1, s2, s3, s4, s5, s6, s7, s8, s9, s10, s11, s12, s13, s14, s15, he⟩ := list16 s hs
  have HSE := Lib.hid he
  clear hs he
  go_enter Try.func26, Try.ntmps26
  go_wp2_with fail
  obtain ⟨H1, H2, HE⟩ := HB.out
  change Code.wp _ _ _ _ ((w.alloc (.cells (ints .u32 (ws s)).toArray 51)).alloc (.cells (ints .u32 (List.replicate 16 0)).toArray 51))
  generalize (w.alloc (.cells (ints .u32 (ws s)).toArray 51)).alloc (.cells (ints .u32 (List.replicate 16 0)).toArray 51) = wa0 at *
  obtain ⟨A, hA⟩ : ∃ A, A = w.heap.size := ⟨_, rfl⟩
  have HAW : Hid (w.heap.size ≤ A ∧ A ≤ w.heap.size) := Lib.hid (by omega)
  rw [← hA] at H1 H2 ⊢
  have H1 := Lib.hid H1
  have H2 := Lib.hid H2
  have HE : Hid (Ext w wa0) := Lib.hid HE
  clear hA HB
  have c0 : wa0.cell? ⟨A, 0, none⟩ = some (.int .u32 (wi s0)) := by rw [word_cell H1.out (by rw [HSL.out]; omega), HSE.out]; rfl
  have c1 : wa0.cell? ⟨A, 1, none⟩ = some (.int .u32 (wi s1)) := by rw [word_cell H1.out (by rw [HSL.out]; omega), HSE.out]; rfl
  have c2 : wa0.cell? ⟨A, 2, none⟩ = some (.int .u32 (wi s2)) := by rw [word_cell H1.out (by rw [HSL.out]; omega), HSE.out]; rfl
  have c3 : wa0.cell? ⟨A, 3, none⟩ = some (.int .u32 (wi s3)) := by rw [word_cell H1.out (by rw [HSL.out]; omega), HSE.out]; rfl
  go_quiet (fail)
  have H1 : Hid (Blk (wa0.drewN nq) A (ints .u32 (ws s)) 51) := Lib.hid H1.out
  have H2 : Hid (Blk (wa0.drewN nq) (A + 1) (ints .u32 (List.replicate 16 0)) 51) := Lib.hid H2.out
  have HE : Hid (Ext w (wa0.drewN nq)) := Lib.hid (Ext.trans HE.out ⟨rfl, rfl, rfl, Nat.le_refl _, fun _ _ => rfl⟩)
  clear c0 c1 c2 c3
  generalize wa0.drewN nq = wa1 at *
  go_wp2_with fail
  have c4 : wa1.cell? ⟨A, 4, none⟩ = some (.int .u32 (wi s4)) := by rw [word_cell H1.out (by rw [HSL.out]; omega), HSE.out]; rfl
  have c5 : wa1.cell? ⟨A, 5, none⟩ = some (.int .u32 (wi s5)) := by rw [word_cell H1.out (by rw [HSL.out]; omega), HSE.out]; rfl
  have c6 : wa1.cell? ⟨A, 6, none⟩ = some (.int .u32 (wi s6)) := by rw [word_cell H1.out (by rw [HSL.out]; omega), HSE.out]; rfl
  have c7 : wa1.cell? ⟨A, 7, none⟩ = some (.int .u32 (wi s7)) := by rw [word_cell H1.out (by rw [HSL.out]; omega), HSE.out]; rfl
  go_quiet (fail)
  have H1 : Hid (Blk (wa1.drewN nq) A (ints .u32 (ws s)) 51) := Lib.hid H1.out
  have H2 : Hid (Blk (wa1.drewN nq) (A + 1) (ints .u32 (List.replicate 16 0)) 51) := Lib.hid H2.out
  have HE : Hid (Ext w (wa1.drewN nq)) := Lib.hid (Ext.trans HE.out ⟨rfl, rfl, rfl, Nat.le_refl _, fun _ _ => rfl⟩)
  clear c4 c5 c6 c7
  generalize wa1.drewN nq = wa2 at *
  go_wp2_with fail
  have c8 : wa2.cell? ⟨A, 8, none⟩ = some (.int .u32 (wi s8)) := by rw [word_cell H1.out (by rw [HSL.out]; omega), HSE.out]; rfl
  have c9 : wa2.cell? ⟨A, 9, none⟩ = some (.int .u32 (wi s9)) := by rw [word_cell H1.out (by rw [HSL.out]; omega), HSE.out]; rfl
  have c10 : wa2.cell? ⟨A, 10, none⟩ = some (.int .u32 (wi s10)) := by rw [word_cell H1.out (by rw [HSL.out]; omega), HSE.out]; rfl
  have c11 : wa2.cell? ⟨A, 11, none⟩ = some (.int .u32 (wi s11)) := by rw [word_cell H1.out (by rw [HSL.out]; omega), HSE.out]; rfl
  go_quiet (fail)
  have H1 : Hid (Blk (wa2.drewN nq) A (ints .u32 (ws s)) 51) := Lib.hid H1.out
  have H2 : Hid (Blk (wa2.drewN nq) (A + 1) (ints .u32 (List.replicate 16 0)) 51) := Lib.hid H2.out
  have HE : Hid (Ext w (wa2.drewN nq)) := Lib.hid (Ext.trans HE.out ⟨rfl, rfl, rfl, Nat.le_refl _, fun _ _ => rfl⟩)
  clear c8 c9 c10 c11
  generalize wa2.drewN nq = wa3 at *
  go_wp2_with fail
  have c12 : wa3.cell? ⟨A, 12, none⟩ = some (.int .u32 (wi s12)) := by rw [word_cell H1.out (by rw [HSL.out]; omega), HSE.out]; rfl
  have c13 : wa3.cell? ⟨A, 13, none⟩ = some (.int .u32 (wi s13)) := by rw [word_cell H1.out (by rw [HSL.out]; omega), HSE.out]; rfl
  have c14 : wa3.cell? ⟨A, 14, none⟩ = some (.int .u32 (wi s14)) := by rw [word_cell H1.out (by rw [HSL.out]; omega), HSE.out]; rfl
  have c15 : wa3.cell? ⟨A, 15, none⟩ = some (.int .u32 (wi s15)) := by rw [word_cell H1.out (by rw [HSL.out]; omega), HSE.out]; rfl
  go_quiet (fail)
  have H1 : Hid (Blk (wa3.drewN nq) A (ints .u32 (ws s)) 51) := Lib.hid H1.out
  have H2 : Hid (Blk (wa3.drewN nq) (A + 1) (ints .u32 (List.replicate 16 0)) 51) := Lib.hid H2.out
  have HE : Hid (Ext w (wa3.drewN nq)) := Lib.hid (Ext.trans HE.out ⟨rfl, rfl, rfl, Nat.le_refl _, fun _ _ => rfl⟩)
  clear c12 c13 c14 c15
  generalize wa3.drewN nq = wa4 at *
  go_wp2_with fail
  go_loop [3, 4, 5, 6, 7, 8, 9, 10, 11, 12, 13, 14, 15, 16, 17, 18, 54] (fun v0 v1 v2 v3 v4 v5 v6 v7 v8 v9 v10 v11 v12 v13 v14 v15 iv => ∃ (k : Nat) (t0 t1 t2 t3 t4 t5 t6 t7 t8 t9 t10 t11 t12 t13 t14 t15 : W32), k ≤ 10 ∧ dRun s k = [t0, t1, t2, t3, t4, t5, t6, t7, t8, t9, t10, t11, t12, t13, t14, t15] ∧ v0 = .int .u32 (wi t0) ∧ v1 = .int .u32 (wi t1) ∧ v2 = .int .u32 (wi t2) ∧ v3 = .int .u32 (wi t3) ∧ v4 = .int .u32 (wi t4) ∧ v5 = .int .u32 (wi t5) ∧ v6 = .int .u32 (wi t6) ∧ v7 = .int .u32 (wi t7) ∧ v8 = .int .u32 (wi t8) ∧ v9 = .int .u32 (wi t9) ∧ v10 = .int .u32 (wi t10) ∧ v11 = .int .u32 (wi t11) ∧ v12 = .int .u32 (wi t12) ∧ v13 = .int .u32 (wi t13) ∧ v14 = .int .u32 (wi t14) ∧ v15 = .int .u32 (wi t15) ∧ iv = .int .i64 (k : Int)) (fun _ _ _ _ _ _ _ _ _ _ _ _ _ _ _ _ iv => 10 - (intOf iv).toNat)
  case atStart => exact ⟨0, s0, s1, s2, s3, s4, s5, s6, s7, s8, s9, s10, s11, s12, s13, s14, s15, by omega, HSE.out, rfl, rfl, rfl, rfl, rfl, rfl, rfl, rfl, rfl, rfl, rfl, rfl, rfl, rfl, rfl, rfl, rfl⟩
  case round =>
    obtain ⟨k, t0, t1, t2, t3, t4, t5, t6, t7, t8, t9, t10, t11, t12, t13, t14, t15, hk, hd, rfl, rfl, rfl, rfl, rfl, rfl, rfl, rfl, rfl, rfl, rfl, rfl, rfl, rfl, rfl, rfl, rfl⟩ := hrel
    have HD := Lib.hid hd
    clear hd
    have k0 : (0 : Int) ≤ (k : Int) := Int.natCast_nonneg _
    by_cases hlk : k < 10
    · have k1 : (k : Int) < 10 := by omega
      obtain ⟨⟨x0, x4, x8, x12⟩, q0⟩ : ∃ q, qr4 t0 t4 t8 t12 = q := ⟨_, rfl⟩
      have Q0 := Lib.hid q0
      clear q0
      obtain ⟨⟨x1, x5, x9, x13⟩, q1⟩ : ∃ q, qr4 t1 t5 t9 t13 = q := ⟨_, rfl⟩
      have Q1 := Lib.hid q1
      clear q1
      obtain ⟨⟨x2, x6, x10, x14⟩, q2⟩ : ∃ q, qr4 t2 t6 t10 t14 = q := ⟨_, rfl⟩
      have Q2 := Lib.hid q2
      clear q2
      obtain ⟨⟨x3, x7, x11, x15⟩, q3⟩ : ∃ q, qr4 t3 t7 t11 t15 = q := ⟨_, rfl⟩
      have Q3 := Lib.hid q3
      clear q3
      obtain ⟨⟨y0, y5, y10, y15⟩, q4⟩ : ∃ q, qr4 x0 x5 x10 x15 = q := ⟨_, rfl⟩
      have Q4 := Lib.hid q4
      clear q4
      obtain ⟨⟨y1, y6, y11, y12⟩, q5⟩ : ∃ q, qr4 x1 x6 x11 x12 = q := ⟨_, rfl⟩
      have Q5 := Lib.hid q5
      clear q5
      obtain ⟨⟨y2, y7, y8, y13⟩, q6⟩ : ∃ q, qr4 x2 x7 x8 x13 = q := ⟨_, rfl⟩
      have Q6 := Lib.hid q6
      clear q6
      obtain ⟨⟨y3, y4, y9, y14⟩, q7⟩ : ∃ q, qr4 x3 x4 x9 x14 = q := ⟨_, rfl⟩
      have Q7 := Lib.hid q7
      clear q7
      go_wp2_with fail
      refine (cq_at _ _ _ _ _ _ _ _ Q0.out _).mono ?_
      rintro e w' ⟨rfl, rfl⟩
      go_wp2_with fail
      refine (cq_at _ _ _ _ _ _ _ _ Q1.out _).mono ?_
      rintro e w' ⟨rfl, rfl⟩
      go_wp2_with fail
      refine (cq_at _ _ _ _ _ _ _ _ Q2.out _).mono ?_
      rintro e w' ⟨rfl, rfl⟩
      go_wp2_with fail
      refine (cq_at _ _ _ _ _ _ _ _ Q3.out _).mono ?_
      rintro e w' ⟨rfl, rfl⟩
      go_wp2_with fail
      refine (cq_at _ _ _ _ _ _ _ _ Q4.out _).mono ?_
      rintro e w' ⟨rfl, rfl⟩
      go_wp2_with fail
      refine (cq_at _ _ _ _ _ _ _ _ Q5.out _).mono ?_
      rintro e w' ⟨rfl, rfl⟩
      go_wp2_with fail
      refine (cq_at _ _ _ _ _ _ _ _ Q6.out _).mono ?_
      rintro e w' ⟨rfl, rfl⟩
      go_wp2_with fail
      refine (cq_at _ _ _ _ _ _ _ _ Q7.out _).mono ?_
      rintro e w' ⟨rfl, rfl⟩
      go_wp2_with fail
      go_round
      case rel => exact ⟨k + 1, y0, y1, y2, y3, y4, y5, y6, y7, y8, y9, y10, y11, y12, y13, y14, y15, by omega, by rw [dRun, HD.out]; exact dround_l Q0.out Q1.out Q2.out Q3.out Q4.out Q5.out Q6.out Q7.out, rfl, rfl, rfl, rfl, rfl, rfl, rfl, rfl, rfl, rfl, rfl, rfl, rfl, rfl, rfl, rfl, by go_num⟩
      case measure => simp [intOf]; omega
    · have hk10 : k = 10 := by omega
      subst hk10
      rw [show ((10 : Nat) : Int) = 10 from rfl]
      have HOUT : Hid (wordsOut s = wAdd [t0, t1, t2, t3, t4, t5, t6, t7, t8, t9, t10, t11, t12, t13, t14, t15] s) := Lib.hid (by rw [← HD.out]; rfl)
      have HTL : Hid ([t0, t1, t2, t3, t4, t5, t6, t7, t8, t9, t10, t11, t12, t13, t14, t15].length = 16) := Lib.hid rfl
      clear HD
      have HZ := Lib.hid (Blk.made wa4 (ints .u32 (ws [t0, t1, t2, t3, t4, t5, t6, t7, t8, t9, t10, t11, t12, t13, t14, t15])) 51)
      have HXA := Ext.alloc wa4 (.cells (ints .u32 (ws [t0, t1, t2, t3, t4, t5, t6, t7, t8, t9, t10, t11, t12, t13, t14, t15])).toArray 51)
      have HL2 := Lib.hid H2.out.lt
      have H1 := Lib.hid (ext_blk H1.out HXA)
      have H2 := Lib.hid (ext_blk H2.out HXA)
      have HXS := Lib.hid HE.out.size
      have HE := Lib.hid (HE.out.trans HXA)
      clear HXA
      go_upto_region 17 with (fail)
      change Code.wp _ _ _ _ (wa4.alloc (.cells (ints .u32 (ws [t0, t1, t2, t3, t4, t5, t6, t7, t8, t9, t10, t11, t12, t13, t14, t15])).toArray 51))
      obtain ⟨Y, hY⟩ : ∃ Y, Y = wa4.heap.size := ⟨_, rfl⟩
      have HYW : Hid (w.heap.size ≤ Y ∧ A + 1 < Y) := Lib.hid (by have := HXS.out; have := HL2.out; omega)
      rw [← hY] at HZ ⊢
      clear HXS HL2 hY
      generalize wa4.alloc (.cells (ints .u32 (ws [t0, t1, t2, t3, t4, t5, t6, t7, t8, t9, t10, t11, t12, t13, t14, t15])).toArray 51) = w7 at *
      have H3 : Hid (Blk w7 Y (ints .u32 (ws (addK [t0, t1, t2, t3, t4, t5, t6, t7, t8, t9, t10, t11, t12, t13, t14, t15] s 0))) 51) := Lib.hid HZ.out
      clear HZ
      obtain ⟨t, ht⟩ : ∃ t, t = [t0, t1, t2, t3, t4, t5, t6, t7, t8, t9, t10, t11, t12, t13, t14, t15] := ⟨_, rfl⟩
      rw [← ht] at HOUT HTL H3
      clear ht
      go_wp2_with (refine wpList_load_blk rfl _ _ rfl A rfl _ _ _ _ H1.out Try.underlying51 HIs.out ?_)
      go_loopw [155] (fun iv wr => ∃ (k : Nat), k ≤ 16 ∧ iv = .int .i64 (k : Int) ∧ Blk wr (A + 1) (ints .u32 (List.replicate 16 0)) 51 ∧ Blk wr Y (ints .u32 (ws (addK t s k))) 51 ∧ Ext w wr) (fun iv _ => 16 - (intOf iv).toNat)
      case atStart => exact ⟨0, by omega, rfl, H2.out, H3.out, HE.out⟩
      case round =>
        clear H1 H2 H3 HE
        obtain ⟨k, hk, rfl, hb2, hb3, hbel⟩ := hrel
        have k0 : (0 : Int) ≤ (k : Int) := Int.natCast_nonneg _
        by_cases hlk : k < 16
        · have k1 : (k : Int) < 16 := by omega
          have hi := index_wordsL Try.underlying51 Try.sizeOf49 Try.isAgg49 s HSL.out k hlk
          have hc := word_cell hb3 (i := k) (by rw [addK_length, HTL.out]; exact hlk)
          have hg := addK_getD t s k (by rw [HTL.out]; omega) k
          rw [if_neg (by omega)] at hg
          rw [hg] at hc
          have f0 := hb3.free k
          have e1 : IntKind.u32.wrap (wi (t.getD k 0#32) + wi (s.getD k 0#32)) = wi (t.getD k 0#32 + s.getD k 0#32) := wi_add _ _
          have HX : Hid (Blk (wr.setCell ⟨Y, k, none⟩ (.int .u32 (wi (t.getD k 0#32 + s.getD k 0#32)))) Y (ints .u32 (ws (addK t s (k + 1)))) 51) := Lib.hid (set_word hb3 k _ (t.getD k 0#32 + s.getD k 0#32) rfl)
          have H2 := Lib.hid (hb2.far (a := ⟨Y, k, none⟩) (by have := HYW.out; simp; omega) (.int .u32 (wi (t.getD k 0#32 + s.getD k 0#32))))
          have HE : Hid (Ext w (wr.setCell ⟨Y, k, none⟩ (.int .u32 (wi (t.getD k 0#32 + s.getD k 0#32))))) := Lib.hid (far_ext hbel (by have := HYW.out; omega))
          generalize t.getD k 0#32 + s.getD k 0#32 = y at *
          generalize t.getD k 0#32 = y1 at *
          generalize s.getD k 0#32 = y2 at *
          have e2 := e1
          rw [IntKind.wrap_u32] at e2
          clear hb2 hb3 hbel hg
          go_wp2_with fail
          go_roundw
          case rel => exact ⟨k + 1, by omega, by go_num, H2.out, HX.out, HE.out⟩
          case measure => simp [intOf]; omega
        · have hk16 : k = 16 := by omega
          subst hk16
          rw [show ((16 : Nat) : Int) = 16 from rfl]
          rw [addK_full t s HTL.out, ← HOUT.out] at hb3
          have H2 := Lib.hid hb2
          have H3 := Lib.hid hb3
          have HE := Lib.hid hbel
          clear hb2 hb3 hbel
          have HIo := Lib.hid (words_size (wordsOut_length s))
          have HLo : Hid ((ints .u32 (ws (wordsOut s))).length = (ints .u32 (List.replicate 16 0)).length) := Lib.hid (by rw [ints_length, ws_length, wordsOut_length, ints_length, List.length_replicate])
          go_wp2_with (first | (refine wpList_load_blk rfl _ _ rfl Y rfl _ _ _ _ H3.out Try.underlying51 HIo.out ?_) | (refine wpList_store_blk rfl _ _ _ rfl (A + 1) (ints .u32 (ws (wordsOut s))) rfl rfl _ _ H2.out HLo.out HIo.out (ints_one _ _) ?_; intro w8 hb8 hg8))
          refine bodyPost_ret (result_blk rfl _ (A + 1) _ _ _ _ rfl hb8 Try.underlying51 HIo.out) rfl ?_
          exact ⟨rfl, ext_grown HE.out hg8 (by have := HAW.out; omega)⟩

end Go.Proofs.Ytflefkmpllbeeaa

/- s[n:] of whatever reads as a list, whatever its address. Nothing here speaks of a program. Each theorem names its own conditions. -/
namespace Go.Proofs.Ytflefkmpllbeeaa
open Go.RowKit
set_option linter.unusedVariables false

section
variable {P : Program} {w : World}
theorem row_cut {t e : TypeId} (ht : P.underlying t = some (.slice e)) (hs : ∀ w, (sizeOf e).run P w = .ok 1 w) {v : Value} {vs : List Value} (h : Row1 w v vs) (n : Nat) (hn : n ≤ vs.length) :
    ∃ v', Row1 w v' (vs.drop n) ∧ ∀ w', (Instr.sliceAt t v (some (.int .i64 (n : Int))) none none).run P w' = .ok v' w' := by
  obtain ⟨a, cap, rfl, h1, h2, h3, h4⟩ := h
  have e2 : P.elem t = e := by unfold Program.elem; rw [ht]
  have ht2 : P.underlying t = some (.slice (P.elem t)) := by rw [e2]; exact ht
  have hr : ∀ w', (Instr.sliceAt t (.slice a vs.length cap) (some (.int .i64 (n : Int))) none none).run P w' = .ok (sliced a n vs.length cap 1) w' := fun w' => by
    rw [run_sliceAt_slice w' t _ _ _ _ ht2, run_slice_l (ht := ht2) (kl := .i64) (l := (n : Int)) (h0 := by omega) (h1 := by omega), e2, hs]
    simp
  refine ⟨_, ?_, hr⟩
  have hl : (vs.drop n).length = vs.length - n := by simp
  unfold sliced
  by_cases hc : cap = n
  · rw [if_pos hc]
    have hv : vs.drop n = [] := List.drop_eq_nil_of_le (by omega)
    rw [hv]
    refine ⟨a, cap - n, by rw [show vs.length - n = 0 from by omega]; rfl, Nat.zero_le _, by omega, fun e => by have := h3 e; omega, fun h => absurd rfl h⟩
  · rw [if_neg hc]
    refine ⟨a.map (·.add (n * 1)), cap - n, by rw [hl], by rw [hl]; omega, by omega, fun e => ?_, fun hne => ?_⟩
    · cases a with
      | none => have := h3 rfl; omega
      | some a => cases e
    · have hne2 : vs ≠ [] := by rintro rfl; simp at hne
      obtain ⟨b, off, rfl, g1, g2⟩ := h4 hne2
      refine ⟨b, off + n, by rw [Option.map_some, WideShapes.add_plain, Nat.mul_one], g1, fun i hi => ?_⟩
      rw [hl] at hi
      rw [Nat.add_assoc, g2 (n + i) (by omega), List.getElem?_drop]
/-- A part of what reads as a list, by the address that slicing makes of it. -/
theorem row_sliced {a : Option Addr} {cap : Nat} {vs : List Value} (h : Row1 w (.slice a vs.length cap) vs) (i k : Nat) (hik : i ≤ k) (hk : k ≤ vs.length) : Row1 w (sliced a i k cap 1) ((vs.drop i).take (k - i)) := by
  obtain ⟨a0, cap0, e0, h1, h2, h3, h4⟩ := h
  cases e0
  have hl : ((vs.drop i).take (k - i)).length = k - i := by simp; omega
  unfold sliced
  by_cases hc : cap = i
  · rw [if_pos hc]
    have hv : (vs.drop i).take (k - i) = [] := List.eq_nil_of_length_eq_zero (by omega)
    rw [hv]
    refine ⟨a, cap - i, by rw [show k - i = 0 from by omega]; rfl, Nat.zero_le _, by omega, fun e => by have := h3 e; omega, fun h => absurd rfl h⟩
  · rw [if_neg hc]
    refine ⟨a.map (·.add (i * 1)), cap - i, by rw [hl], by rw [hl]; omega, by omega, fun e => ?_, fun hne => ?_⟩
    · cases a with
      | none => have := h3 rfl; omega
      | some a => cases e
    · have hne2 : vs ≠ [] := by rintro rfl; simp at hne
      obtain ⟨b, off, rfl, g1, g2⟩ := h4 hne2
      refine ⟨b, off + i, by rw [Option.map_some, WideShapes.add_plain, Nat.mul_one], g1, fun j hj => ?_⟩
      rw [hl] at hj
      rw [Nat.add_assoc, g2 (i + j) (by omega), List.getElem?_take, if_pos hj, List.getElem?_drop]
/-- s[:k]. -/
theorem row_upto {t e : TypeId} (ht : P.underlying t = some (.slice e)) (hs : ∀ w, (sizeOf e).run P w = .ok 1 w) {v : Value} {vs : List Value} (h : Row1 w v vs) (k : Nat) (hk : k ≤ vs.length) :
    ∃ v', Row1 w v' (vs.take k) ∧ ∀ w', (Instr.sliceAt t v none (some (.int .i64 (k : Int))) none).run P w' = .ok v' w' := by
  obtain ⟨a, cap, rfl, h1, _⟩ := id h
  have e2 : P.elem t = e := by unfold Program.elem; rw [ht]
  have ht2 : P.underlying t = some (.slice (P.elem t)) := by rw [e2]; exact ht
  refine ⟨sliced a 0 k cap 1, by simpa using row_sliced h 0 k (Nat.zero_le _) hk, fun w' => ?_⟩
  rw [run_sliceAt_slice w' t _ _ _ _ ht2, run_slice_h (ht := ht2) (kh := .i64) (h := (k : Int)) (h0 := by omega) (h2 := by omega), e2, hs]
  simp
/-- s[i:k]. -/
theorem row_mid {t e : TypeId} (ht : P.underlying t = some (.slice e)) (hs : ∀ w, (sizeOf e).run P w = .ok 1 w) {v : Value} {vs : List Value} (h : Row1 w v vs) (i k : Nat) (hik : i ≤ k) (hk : k ≤ vs.length) :
    ∃ v', Row1 w v' ((vs.drop i).take (k - i)) ∧ ∀ w', (Instr.sliceAt t v (some (.int .i64 (i : Int))) (some (.int .i64 (k : Int))) none).run P w' = .ok v' w' := by
  obtain ⟨a, cap, rfl, h1, _⟩ := id h
  have e2 : P.elem t = e := by unfold Program.elem; rw [ht]
  have ht2 : P.underlying t = some (.slice (P.elem t)) := by rw [e2]; exact ht
  refine ⟨sliced a i k cap 1, row_sliced h i k hik hk, fun w' => ?_⟩
  rw [run_sliceAt_slice w' t _ _ _ _ ht2, run_slice_lh (ht := ht2) (kl := .i64) (kh := .i64) (l := (i : Int)) (h := (k : Int)) (h0 := by omega) (h1 := by omega) (h2 := by omega), e2, hs]
  simp
/-- Rows of rows. -/
theorem rowB1 {v x : Value} {l : List UInt8} (h : Row1 w v [x]) (hx : Row1 w x (l.map bval)) : RowB w v [l] :=
  ⟨_, h, rfl, fun i y k hy hk => by
    match i with
    | 0 => simp at hy hk; subst hy; subst hk; exact hx
    | i + 1 => simp at hy⟩
theorem rowB2 {v x y : Value} {l m : List UInt8} (h : Row1 w v [x, y]) (hx : Row1 w x (l.map bval)) (hy : Row1 w y (m.map bval)) : RowB w v [l, m] :=
  ⟨_, h, rfl, fun i u k hu hk => by
    match i with
    | 0 => simp at hu hk; subst hu; subst hk; exact hx
    | 1 => simp at hu hk; subst hu; subst hk; exact hy
    | i + 2 => simp at hu⟩
theorem rowB3 {v x y z : Value} {l m n : List UInt8} (h : Row1 w v [x, y, z]) (hx : Row1 w x (l.map bval)) (hy : Row1 w y (m.map bval)) (hz : Row1 w z (n.map bval)) : RowB w v [l, m, n] :=
  ⟨_, h, rfl, fun i u k hu hk => by
    match i with
    | 0 => simp at hu hk; subst hu; subst hk; exact hx
    | 1 => simp at hu hk; subst hu; subst hk; exact hy
    | 2 => simp at hu hk; subst hu; subst hk; exact hz
    | i + 3 => simp at hu⟩
theorem rowB4 {v x y z u : Value} {l m n o : List UInt8} (h : Row1 w v [x, y, z, u]) (hx : Row1 w x (l.map bval)) (hy : Row1 w y (m.map bval)) (hz : Row1 w z (n.map bval)) (hu : Row1 w u (o.map bval)) : RowB w v [l, m, n, o] :=
  ⟨_, h, rfl, fun i q k hq hk => by
    match i with
    | 0 => simp at hq hk; subst hq; subst hk; exact hx
    | 1 => simp at hq hk; subst hq; subst hk; exact hy
    | 2 => simp at hq hk; subst hq; subst hk; exact hz
    | 3 => simp at hq hk; subst hq; subst hk; exact hu
    | i + 4 => simp at hq⟩
/-- A new block of cells that bears a mark, as a row. -/
theorem Row1.made_mark (w : World) (c : Array Value) (e : TypeId) (fr : Nat × Nat) (n m : Nat) (l : List Value) (hn : w.heap.size = n) (hc : c.toList = l) (hl : l.length = m) (hm : m ≤ maxLen) : Row1 (w.alloc (.cells c e fr)) (.slice (some ⟨n, 0, none⟩) m m) l := by
  subst hn; subst hl; subst hc
  refine ⟨_, _, rfl, Nat.le_refl _, hm, (fun e => by cases e), fun _ => ⟨w.heap.size, 0, rfl, by simp, fun i hi => ?_⟩⟩
  rw [Nat.zero_add, World.cell?_alloc_mark]
  simp
/-- A whole array, as a row. -/
theorem blk_row {c n : Nat} {cs : List Value} {t : TypeId} (h : Blk w c cs t) (hn : cs.length = n) (hm : n ≤ maxLen) : Row1 w (.slice (some ⟨c, 0, none⟩) n n) cs := by
  subst hn
  exact ⟨_, _, rfl, Nat.le_refl _, hm, (fun e => by cases e), fun _ => ⟨c, 0, rfl, h.lt, fun i _ => by rw [Nat.zero_add, h.cell]⟩⟩
/-- a[:] of an array that is a variable. -/
theorem cut_whole {t : TypeId} {n : Nat} {e : TypeId} (ht : P.underlying t = some (.array n e)) (h : ∀ w, (sizeOf e).run P w = .ok 1 w) (hn : 0 < n) (A : Nat) (w : World) :
    (Instr.sliceAt t (.pointer (some ⟨A, 0, none⟩)) none none none).run P w = .ok (.slice (some ⟨A, 0, none⟩) n n) w := by
  have e1 : P.arrayLen t = n := by unfold Program.arrayLen; rw [ht]
  have e2 : P.elem t = e := by unfold Program.elem; rw [ht]
  rw [run_sliceAt_array_all w t ⟨A, 0, none⟩ (by rw [e1, e2]; exact ht), e2, h, e1]
  simp [slicedAt, Addr.add, show ¬ n = 0 by omega]
end

end Go.Proofs.Ytflefkmpllbeeaa

/- The walks of package chacha's Block and xor. Each theorem names its own conditions. -/
namespace Go.Proofs.Ytflefkmpllbeeaa
open Go.RowKit
set_option linter.unusedVariables false
set_option linter.unusedSimpArgs false

theorem chaBlock_out (kb nb : List UInt8) (ctr : W32) : leB (wordsOut (chaInit kb ctr nb)) 64 = chaBlock kb ctr nb := rfl

set_option maxRecDepth 100000 in
set_option maxHeartbeats 4000000 in
theorem CBlock_num (kb nb : List UInt8) (c : Int) (w : World) (hk : kb.length = 32) (hn : nb.length = 12) (hc1 : -9223372036854775808 ≤ c) (hc2 : c ≤ 9223372036854775807) :
    Calls Try.prog 15 #[.agg (kb.map bval).toArray, .int .i64 c, .agg (nb.map bval).toArray] w fun e w' => e = .returned (.agg ((chaBlock kb (BitVec.ofInt 32 c) nb).map bval).toArray) ∧ Below w.heap.size w w' := by
  have HKL := Lib.hid hk
  have HNL := Lib.hid hn
  have HC1 := Lib.hid hc1
  have HC2 := Lib.hid hc2
  have HB := Lib.hid (boxes3 w (kb.map bval) (nb.map bval) (ints .u8 (List.replicate 64 0)) 23 25 39)
  have HIK : Hid ((Try.prog.info? 23).map (·.size) = some (kb.map bval).length) := Lib.hid (num_size hk)
  have HIN : Hid ((Try.prog.info? 25).map (·.size) = some (nb.map bval).length) := Lib.hid (nonce_size hn)
  clear hk hn hc1 hc2
  go_enter Try.func15, Try.ntmps15
  go_upto_region 1 with (fail)
  obtain ⟨H1, H2, H3, HE⟩ := HB.out
  change Code.wp _ _ _ _ (((w.alloc (.cells (kb.map bval).toArray 23)).alloc (.cells (nb.map bval).toArray 25)).alloc (.cells (ints .u8 (List.replicate 64 0)).toArray 39))
  generalize ((w.alloc (.cells (kb.map bval).toArray 23)).alloc (.cells (nb.map bval).toArray 25)).alloc (.cells (ints .u8 (List.replicate 64 0)).toArray 39) = wa at *
  obtain ⟨B, hB⟩ : ∃ B, B = w.heap.size := ⟨_, rfl⟩
  have HBW : Hid (w.heap.size ≤ B) := Lib.hid (by omega)
  rw [← hB] at H1 H2 H3 ⊢
  have H1 := Lib.hid H1
  have H2 := Lib.hid H2
  have H3 := Lib.hid H3
  have HE : Hid (Ext w wa) := Lib.hid HE
  clear hB HB
  go_wp2_with (first | (refine wpList_load_blk rfl _ _ rfl B rfl _ _ _ _ H1.out Try.underlying23 HIK.out ?_) | (refine wpList_load_blk rfl _ _ rfl (B + 1) rfl _ _ _ _ H2.out Try.underlying25 HIN.out ?_))
  refine (cstart_any kb nb c wa HKL.out HNL.out HC1.out HC2.out).mono ?_
  rintro e w5 ⟨rfl, hb⟩
  have H3 := Lib.hid (ext_blk H3.out hb)
  have HE := Lib.hid (HE.out.trans hb)
  clear hb
  have HO := Lib.hid (chaBlock_out kb nb (BitVec.ofInt 32 c))
  have HSL := Lib.hid (chaInit_length kb (BitVec.ofInt 32 c) nb)
  have HLO := Lib.hid (chaBlock_length kb (BitVec.ofInt 32 c) nb)
  generalize chaInit kb (BitVec.ofInt 32 c) nb = s at *
  go_wp2_with fail
  refine (cmixed_any s HSL.out w5).mono ?_
  rintro e w6 ⟨rfl, hb⟩
  have H3 := Lib.hid (ext_blk H3.out hb)
  have HE := Lib.hid (HE.out.trans hb)
  clear hb
  go_wp2_with fail
  refine (cbytes_any (wordsOut s) (wordsOut_length s) w6).mono ?_
  rintro e w7 ⟨rfl, hb⟩
  rw [HO.out]
  have H3 := Lib.hid (ext_blk H3.out hb)
  have HE := Lib.hid (HE.out.trans hb)
  clear hb HO
  obtain ⟨o, ho⟩ : ∃ o, o = chaBlock kb (BitVec.ofInt 32 c) nb := ⟨_, rfl⟩
  rw [← ho] at HLO ⊢
  have HO := Lib.hid ho
  have HIo : Hid ((Try.prog.info? 39).map (·.size) = some (o.map bval).length) := Lib.hid (sig_size HLO.out)
  have HLo : Hid ((o.map bval).length = (ints .u8 (List.replicate 64 0)).length) := Lib.hid (by rw [List.length_map, HLO.out, ints_length, List.length_replicate])
  clear ho
  go_wp2_with (refine wpList_store_blk rfl _ _ _ rfl (B + 1 + 1) (o.map bval) rfl rfl _ _ H3.out HLo.out HIo.out (bval_one _) ?_; intro w9 hb9 hg9)
  refine bodyPost_ret (result_blk rfl _ (B + 1 + 1) _ _ _ _ rfl hb9 Try.underlying39 HIo.out) rfl ?_
  exact ⟨by rw [HO.out], ext_grown HE.out hg9 (by have := HBW.out; omega)⟩

/-- The first k bytes of l, xored with o's, laid over cs from d on. -/
def xorK (cs : List UInt8) (d : Nat) (l o : List UInt8) : Nat → List UInt8
  | 0 => cs
  | k + 1 => (xorK cs d l o k).set (d + k) (l.getD k 0 ^^^ o.getD k 0)
theorem xorK_length (cs : List UInt8) (d : Nat) (l o : List UInt8) : ∀ k, (xorK cs d l o k).length = cs.length
  | 0 => rfl
  | k + 1 => by rw [xorK, List.length_set, xorK_length cs d l o k]
theorem xorK_getD (cs : List UInt8) (d : Nat) (l o : List UInt8) : ∀ k, d + k ≤ cs.length → ∀ i, (xorK cs d l o k).getD i 0 = if d ≤ i ∧ i < d + k then l.getD (i - d) 0 ^^^ o.getD (i - d) 0 else cs.getD i 0
  | 0, _, i => by rw [if_neg (by omega)]; rfl
  | k + 1, hk, i => by
    rw [xorK]
    by_cases e : d + k = i
    · subst e
      rw [if_pos (by omega), List.getD_eq_getElem?_getD, List.getElem?_set_self (by rw [xorK_length]; omega), show d + k - d = k from by omega]
      rfl
    · have h := xorK_getD cs d l o k (by omega) i
      rw [List.getD_eq_getElem?_getD, List.getElem?_set_ne e, ← List.getD_eq_getElem?_getD, h]
      by_cases h2 : d ≤ i ∧ i < d + k
      · rw [if_pos h2, if_pos (by omega)]
      · rw [if_neg h2, if_neg (by omega)]

set_option maxRecDepth 100000 in
set_option maxHeartbeats 8000000 in
theorem cxor_any (w0 w : World) (M d : Nat) (cs l o : List UInt8) (bv : Value) (hE : Ext w0 w) (hM : w0.heap.size ≤ M) (hb : Row1 w0 bv (l.map bval)) (hB : Blk w M (cs.map bval) 5) (ho : o.length = 64) (hl : d + l.length = cs.length) (hl0 : 0 < l.length) (hcs : cs.length ≤ 1099511627776) :
    Calls Try.prog 24 #[.slice (some ⟨M, d, none⟩) l.length l.length, bv, .agg (o.map bval).toArray] w fun e w' =>
      e = .returned (.int .i64 ((min l.length 64 : Nat) : Int)) ∧ Blk w' M ((xorK cs d l o (min l.length 64)).map bval) 5 ∧ w.grownBy w' (some M) := by
  obtain ⟨m, hm⟩ : ∃ m, m = min l.length 64 := ⟨_, rfl⟩
  rw [← hm]
  obtain ⟨v2, hr2, hs2⟩ := row_upto (P := Try.prog) Try.underlying26 Try.sizeOf5 hb m (by rw [List.length_map]; omega)
  obtain ⟨a2, c2, he2, ha1, ha2, ha3, ha4⟩ := id hr2
  have hlen2 : ((l.map bval).take m).length = m := by rw [List.length_take, List.length_map]; omega
  rw [hlen2] at he2 ha1
  obtain ⟨b3, off3, rfl, hb3, hcell⟩ := ha4 (by intro e; have h := congrArg List.length e; rw [hlen2] at h; simp at h; omega)
  obtain ⟨a, c, hv, _⟩ := id hb
  rw [List.length_map] at hv
  subst hv he2
  have HCELL : Hid (∀ k, k < m → ∀ w', Ext w0 w' → w'.cell? ⟨b3, off3 + k, none⟩ = some (.int .u8 ((l.getD k 0).toNat : Int))) := Lib.hid (fun k hk w' hx => by
    have h1 := hcell k (by rw [hlen2]; exact hk)
    rw [List.getElem?_take, if_pos hk, bval_get (by omega)] at h1
    rw [← h1]
    exact hx.cell (p := ⟨b3, off3 + k, none⟩) hb3)
  have HML : Hid (m ≤ l.length ∧ m ≤ 64 ∧ 0 < m) := Lib.hid (by omega)
  have hmin : (if (64 : Int) < (l.length : Int) then (64 : Int) else (l.length : Int)) = (m : Int) := by
    by_cases h : (64 : Int) < (l.length : Int)
    · rw [if_pos h]; omega
    · rw [if_neg h]; omega
  have HO := Lib.hid ho
  have HDL := Lib.hid hl
  have HMW := Lib.hid hM
  have HBX := Lib.hid (Blk.made w (o.map bval) 39)
  have HEX := Lib.hid (Ext.alloc w (.cells (o.map bval).toArray 39))
  have HB1 := Lib.hid (hB.alloc (.cells (o.map bval).toArray 39))
  have HMS := Lib.hid hB.lt
  have HE := Lib.hid (hE.trans HEX.out)
  have HG := Lib.hid (grown_of_below HEX.out (some M))
  have HCS := Lib.hid hcs
  clear hE hM hb hB ho hl hl0 hcs hr2 ha1 ha2 ha3 ha4 hcell hb3 hm hlen2 HEX
  go_enter Try.func24, Try.ntmps24
  go_upto_region 1 with (fail)
  change Code.wp _ _ _ _ (w.alloc (.cells (o.map bval).toArray 39))
  generalize w.alloc (.cells (o.map bval).toArray 39) = wa at *
  obtain ⟨O, hO⟩ : ∃ O, O = w.heap.size := ⟨_, rfl⟩
  rw [← hO] at HBX HMS ⊢
  clear hO
  go_wp2_with fail
  go_loopw [17] (fun iv wr => ∃ (k : Nat), k ≤ m ∧ iv = .int .i64 (k : Int) ∧ Blk wr M ((xorK cs d l o k).map bval) 5 ∧ Blk wr O (o.map bval) 39 ∧ Ext w0 wr ∧ w.grownBy wr (some M)) (fun iv _ => m - (intOf iv).toNat)
  case atStart => exact ⟨0, by omega, rfl, HB1.out, HBX.out, HE.out, HG.out⟩
  case round =>
    clear HB1 HBX HE HG
    obtain ⟨k, hk, rfl, h1, h2, hE, hG⟩ := hrel
    have k0 : (0 : Int) ≤ (k : Int) := Int.natCast_nonneg _
    by_cases hlk : k < m
    · have k1 : (k : Int) < (m : Int) := by omega
      have k2 : (k : Int) < 64 := by have := HML.out; omega
      have k3 : (k : Int) < (l.length : Int) := by have := HML.out; omega
      have e1 := HCELL.out k hlk wr hE
      have e2 := h2.cell k
      rw [bval_get (by rw [HO.out]; omega)] at e2
      obtain ⟨u3, e3⟩ : ∃ u, wr.cell? ⟨M, d + k, none⟩ = some u := ⟨_, by rw [h1.cell, bval_get (by rw [xorK_length]; have := HDL.out; omega)]⟩
      have f3 := h1.free (d + k)
      have x1 := xor_u8 (l.getD k 0) (o.getD k 0)
      have HX : Hid (Blk (wr.setCell ⟨M, d + k, none⟩ (bval (l.getD k 0 ^^^ o.getD k 0))) M ((xorK cs d l o (k + 1)).map bval) 5) := Lib.hid (by rw [xorK, List.map_set]; exact h1.set _ _)
      have H2 := Lib.hid (h2.far (a := ⟨M, d + k, none⟩) (by have := HMS.out; simp; omega) (bval (l.getD k 0 ^^^ o.getD k 0)))
      have HE : Hid (Ext w0 (wr.setCell ⟨M, d + k, none⟩ (bval (l.getD k 0 ^^^ o.getD k 0)))) := Lib.hid (Below.setCell hE HMW.out _)
      have HG := Lib.hid (grownBy_set hG (d + k) (bval (l.getD k 0 ^^^ o.getD k 0)))
      clear h1 h2 hE hG
      unfold bval at HX H2 HE HG
      generalize l.getD k 0 ^^^ o.getD k 0 = z at *
      generalize l.getD k 0 = y1 at *
      generalize o.getD k 0 = y2 at *
      change wr.cell? ⟨O, k, none⟩ = some (.int .u8 (y2.toNat : Int)) at e2
      go_wp2_with fail
      have k63 : (k : Int) + 1 ≤ 9223372036854775807 := by omega
      go_wp2_with fail
      go_roundw
      case rel => exact ⟨k + 1, by omega, by go_num, HX.out, H2.out, HE.out, HG.out⟩
      case measure => simp [intOf]; omega
    · have hkm : k = m := by omega
      subst hkm
      go_wp2_with fail
      go_ret
      exact ⟨rfl, h1, hG⟩

end Go.Proofs.Ytflefkmpllbeeaa

/- What may be taken first in a drawn region in which calls and new memory stand in a chain. Nothing here speaks of a program. Each theorem names its own conditions. -/
namespace Go.Proofs.Ytflefkmpllbeeaa
open Go.RowKit
set_option linter.unusedVariables false

section
variable {P : Program} {ops : Array Oper} {S : World → Prop}
theorem yi_val {o : Oper} {a : Act} (v : Value) (hw : Region.wanted o (yielded ops a.tmps) = true) (h : ∀ w, S w → (execOp a.eval o).run P w = .ok (.value v) w) : YieldsIf P ops S o v a := Or.inl ⟨hw, h⟩
theorem yi_skip {o : Oper} {a : Act} (hw : Region.wanted o (yielded ops a.tmps) = false) : YieldsIf P ops S o undef a := Or.inr ⟨hw, rfl⟩
theorem yi_move {o : Oper} {a : Act} (x : Operand) (v : Value) (hw : Region.wanted o (yielded ops a.tmps) = true) (ho : o.op = .move x) (hx : a.eval x = v) : YieldsIf P ops S o v a :=
  yi_val v hw (fun w _ => by unfold execOp; simp only [ho, hx, Sem.run_pure])
theorem yi_assign {o : Oper} {a : Act} (x : Operand) (v : Value) (hw : Region.wanted o (yielded ops a.tmps) = true) (ho : o.op = .assign x) (hx : a.eval x = v) : YieldsIf P ops S o v a :=
  yi_val v hw (fun w _ => by unfold execOp; simp only [ho, hx, Sem.run_pure])
theorem yi_pick {o : Oper} {a : Act} (c x y : Operand) (b : Bool) (v : Value) (hw : Region.wanted o (yielded ops a.tmps) = true) (ho : o.op = .pick c x y) (hc : a.eval c = .bool b) (hx : (if b then a.eval x else a.eval y) = v) : YieldsIf P ops S o v a :=
  yi_val v hw (fun w _ => by
    unfold execOp
    cases b <;> simp only [ho, hc, Bool.false_eq_true, if_false, if_true] at hx ⊢ <;> simp [asBool, hx])
theorem yi_eql {o : Oper} {a : Act} (ty rt e : TypeId) (x y : Operand) (n : Nat) (i : TypeInfo) (xs ys : List UInt8) (r : Bool) (hw : Region.wanted o (yielded ops a.tmps) = true) (ho : o.op = .binOp .eql ty x y rt) (hb : decide (xs = ys) = r)
    (hu : P.underlying ty = some (.array n e)) (he : P.underlying e = some (.int .u8)) (hi : P.info? e = some i) (hc : P.cellsOf e = 1) (hg : P.eqGuardType P.depth ty = false)
    (hx : a.eval x = .agg (xs.map bval).toArray) (hy : a.eval y = .agg (ys.map bval).toArray) (lx : xs.length = n) (ly : ys.length = n) : YieldsIf P ops S o (.bool r) a :=
  yi_val _ hw (fun w _ => by
    have h1 := run_equal_bytes hu he hi hc xs ys lx ly w
    rw [hb] at h1
    unfold execOp
    simp [ho, hx, hy, eqGuard, hg, binOp, h1])
/-- A slice, whose run is known. -/
theorem yi_slice {o : Oper} {a : Act} (t : TypeId) (x : Operand) (lo hi : Option Operand) (vx v : Value) (vlo vhi : Option Value) (hw : Region.wanted o (yielded ops a.tmps) = true) (ho : o.op = .slice t x lo hi none) (hx : a.eval x = vx) (hlo : lo.map a.eval = vlo) (hhi : hi.map a.eval = vhi)
    (h : ∀ w, (Instr.sliceAt t vx vlo vhi none).run P w = .ok v w) : YieldsIf P ops S o v a :=
  yi_val v hw (fun w _ => by
    unfold execOp
    simp only [ho, hx, hlo, hhi, Option.map_none, Sem.run_bind, h, Result.andThen_ok, Sem.run_pure])
theorem step_wp {o : Oper} {a : Act} {w : World} {K : Act → World → Prop} {Q : Exit → Act → World → Prop} {E : Prop} (hw : Region.wanted o (yielded ops a.tmps) = true) (h : Oper.wp P o a w K Q) : if Region.wanted o (yielded ops a.tmps) = true then Oper.wp P o a w K Q else E := by
  rw [if_pos hw]
  exact h
end

end Go.Proofs.Ytflefkmpllbeeaa

/- Further operations that may be taken first in a drawn region in which calls and new memory stand in a chain: lengths, texts of bytes, comparisons, not. Nothing here speaks of a program. Each theorem names its own conditions. -/
namespace Go.Proofs.Ytflefkmpllbeeaa
open Go.RowKit
set_option linter.unusedVariables false
set_option linter.unusedSimpArgs false

section
variable {P : Program} {ops : Array Oper} {S : World → Prop}
theorem yi_len {o : Oper} {a : Act} (x : Operand) (t e : TypeId) (ad : Option Addr) (n c : Nat) (ht : P.underlying t = some (.slice e)) (hw : Region.wanted o (yielded ops a.tmps) = true) (ho : o.op = .call { callee := .builtin .len, args := #[x], argTypes := #[t] }) (hx : a.eval x = .slice ad n c) : YieldsIf P ops S o (.int .i64 (n : Int)) a :=
  yi_val _ hw (fun w _ => by
    unfold execOp
    simp [ho, resolve, invoke, builtin, hx, Builtin.len_, run_underlying ht, goInt, Result.andThen])
theorem yi_not {o : Oper} {a : Act} (ty : TypeId) (x : Operand) (b : Bool) (hw : Region.wanted o (yielded ops a.tmps) = true) (ho : o.op = .unOp .not ty x) (hx : a.eval x = .bool b) : YieldsIf P ops S o (.bool !b) a :=
  yi_val _ hw (fun w _ => by
    unfold execOp
    simp [ho, hx, Op.unary, Result.andThen])
theorem yi_eqb {o : Oper} {a : Act} (ty rt : TypeId) (x y : Operand) (b c r : Bool) (hr : (b == c) = r) (hu : P.underlying ty = some .bool) (hw : Region.wanted o (yielded ops a.tmps) = true) (ho : o.op = .binOp .eql ty x y rt) (hx : a.eval x = .bool b) (hy : a.eval y = .bool c) : YieldsIf P ops S o (.bool r) a :=
  yi_val _ hw (fun w _ => by
    unfold execOp
    simp only [ho, hx, hy]
    simp [eqGuard, binOp, run_equal_bools hu, hr])
/-- A text of bytes, whose run is known. -/
theorem yi_conv {o : Oper} {a : Act} (s t : TypeId) (x : Operand) (vx v : Value) (hw : Region.wanted o (yielded ops a.tmps) = true) (ho : o.op = .convert s t x) (hx : a.eval x = vx) (h : ∀ w, S w → (convert s t vx).run P w = .ok v w) : YieldsIf P ops S o v a :=
  yi_val v hw (fun w hS => by
    unfold execOp
    simp only [ho, hx, Sem.run_bind, h w hS, Result.andThen_ok, Sem.run_pure])
theorem yi_eqi {o : Oper} {a : Act} (k : IntKind) (ty rt : TypeId) (x y : Operand) (b c : Int) (r : Bool) (hr : decide (b = c) = r) (hw : Region.wanted o (yielded ops a.tmps) = true) (ho : o.op = .binOp .eql ty x y rt) (hx : a.eval x = .int k b) (hy : a.eval y = .int k c) : YieldsIf P ops S o (.bool r) a :=
  yi_val _ hw (fun w _ => by
    subst hr
    unfold execOp
    simp only [ho, hx, hy]
    simp [eqGuard, binOp, Op.intCmp, Result.andThen]
    try rw [Bool.eq_iff_iff]; simp)
theorem yi_eqt {o : Oper} {a : Act} (ty rt : TypeId) (x y : Operand) (b c : List UInt8) (r : Bool) (hr : decide (b = c) = r) (hw : Region.wanted o (yielded ops a.tmps) = true) (ho : o.op = .binOp .eql ty x y rt) (hx : a.eval x = .string ⟨b.toArray⟩) (hy : a.eval y = .string ⟨c.toArray⟩) : YieldsIf P ops S o (.bool r) a :=
  yi_val _ hw (fun w _ => by
    subst hr
    unfold execOp
    simp only [ho, hx, hy]
    simp [eqGuard, binOp, Op.stringOp, Result.andThen]
    try rw [Bool.eq_iff_iff]; simp)
theorem yi_and {o : Oper} {a : Act} (k : IntKind) (ty rt : TypeId) (x y : Operand) (m n r : Int) (hr : bits .and k m n = r) (hw : Region.wanted o (yielded ops a.tmps) = true) (ho : o.op = .binOp .and ty x y rt) (hx : a.eval x = .int k m) (hy : a.eval y = .int k n) : YieldsIf P ops S o (.int k r) a :=
  yi_val _ hw (fun w _ => by rw [← hr]; unfold execOp bits; simp [ho, hx, hy, eqGuard, binOp, Op.intBits])
theorem yi_iconv {o : Oper} {a : Act} (src dst : TypeId) (x : Operand) (k k' : IntKind) (n r : Int) (hs : (P.underlying src).isSome = true) (hd : P.underlying dst = some (.int k')) (hr : k'.wrap n = r) (hw : Region.wanted o (yielded ops a.tmps) = true) (ho : o.op = .convert src dst x) (hx : a.eval x = .int k n) : YieldsIf P ops S o (.int k' r) a :=
  yi_val _ hw (fun w _ => by
    obtain ⟨u, hu⟩ := Option.isSome_iff_exists.1 hs
    have h : (convert src dst (.int k n)).run P w = .ok (.int k' r) w := by
      simp [convert, run_underlying hu, run_underlying hd, Conv.intToInt, hr]
    unfold execOp
    simp only [ho, hx, Sem.run_bind, h, Result.andThen_ok, Sem.run_pure])
theorem wp_alloc_d {o : Oper} {a : Act} {w : World} {K : Act → World → Prop} {Q : Exit → Act → World → Prop} (d : Option Nat) (ty : TypeId) (zs : List Value) (hd : o.dst = d) (ho : o.op = .alloc ty) (hz : ∀ w, (zeroValue ty).run P w = .ok (.agg zs.toArray) w)
    (h : K (a.put d (.pointer (some ⟨w.heap.size, 0, none⟩))) (w.alloc (.cells zs.toArray ty))) : o.wp P a w K Q := by
  subst hd
  unfold Oper.wp
  rw [run_alloc_zero ho hz]
  exact h
theorem wp_conv_d {o : Oper} {a : Act} {w : World} {K : Act → World → Prop} {Q : Exit → Act → World → Prop} (d : Option Nat) (s t : TypeId) (x : Operand) (vx v : Value) (w' : World) (hd : o.dst = d) (ho : o.op = .convert s t x) (hx : a.eval x = vx) (hr : (convert s t vx).run P w = .ok v w')
    (h : K (a.put d v) w') : o.wp P a w K Q := by
  subst hd
  unfold Oper.wp execOp
  simp only [ho, hx, Sem.run_bind, hr, Result.andThen_ok, Sem.run_pure]
  exact h
theorem yi_neqB {o : Oper} {a : Act} (ty rt e : TypeId) (x y : Operand) (n : Nat) (i : TypeInfo) (xs ys : List UInt8) (r : Bool) (hw : Region.wanted o (yielded ops a.tmps) = true) (ho : o.op = .binOp .neq ty x y rt) (hb : decide (xs = ys) = !r)
    (hu : P.underlying ty = some (.array n e)) (he : P.underlying e = some (.int .u8)) (hi : P.info? e = some i) (hc : P.cellsOf e = 1) (hg : P.eqGuardType P.depth ty = false)
    (hx : a.eval x = .agg (xs.map bval).toArray) (hy : a.eval y = .agg (ys.map bval).toArray) (lx : xs.length = n) (ly : ys.length = n) : YieldsIf P ops S o (.bool r) a :=
  yi_val _ hw (fun w _ => by
    have h1 := run_equal_bytes hu he hi hc xs ys lx ly w
    rw [hb] at h1
    unfold execOp
    simp [ho, hx, hy, eqGuard, hg, binOp, h1])
theorem yi_build {o : Oper} {a : Act} (ty : TypeId) (parts : Array (Nat × Operand)) (vs : Array (Nat × Value)) (v : Value) (hr : ∀ w, (Instr.build ty vs).run P w = .ok v w) (hw : Region.wanted o (yielded ops a.tmps) = true) (ho : o.op = .build ty parts) (hp : parts.map (fun (i, x) => (i, a.eval x)) = vs) : YieldsIf P ops S o v a :=
  yi_val _ hw (fun w _ => by
    subst hp
    unfold execOp
    simp only [ho, Sem.run_bind, hr, Result.andThen_ok, Sem.run_pure])
theorem wp_make_d {o : Oper} {a : Act} {w : World} {K : Act → World → Prop} {Q : Exit → Act → World → Prop} (d : Option Nat) (t : TypeId) (x y : Operand) (vx vy v : Value) (w' : World) (hd : o.dst = d) (ho : o.op = .makeSlice t x y) (hx : a.eval x = vx) (hy : a.eval y = vy) (hr : (Instr.makeSlice t vx vy).run P w = .ok v w')
    (h : K (a.put d v) w') : o.wp P a w K Q := by
  subst hd
  unfold Oper.wp execOp
  simp only [ho, hx, hy, Sem.run_bind, hr, Result.andThen_ok, Sem.run_pure]
  exact h
theorem yi_add {o : Oper} {a : Act} (k : IntKind) (ty rt : TypeId) (x y : Operand) (m n r : Int) (hr : k.wrap (m + n) = r) (hw : Region.wanted o (yielded ops a.tmps) = true) (ho : o.op = .binOp .add ty x y rt) (hx : a.eval x = .int k m) (hy : a.eval y = .int k n) : YieldsIf P ops S o (.int k r) a :=
  yi_val _ hw (fun w _ => by unfold execOp; simp [ho, hx, hy, eqGuard, binOp, Op.intArith, hr])
theorem yi_sub {o : Oper} {a : Act} (k : IntKind) (ty rt : TypeId) (x y : Operand) (m n r : Int) (hr : k.wrap (m - n) = r) (hw : Region.wanted o (yielded ops a.tmps) = true) (ho : o.op = .binOp .sub ty x y rt) (hx : a.eval x = .int k m) (hy : a.eval y = .int k n) : YieldsIf P ops S o (.int k r) a :=
  yi_val _ hw (fun w _ => by unfold execOp; simp [ho, hx, hy, eqGuard, binOp, Op.intArith, hr])
theorem yi_mul {o : Oper} {a : Act} (k : IntKind) (ty rt : TypeId) (x y : Operand) (m n r : Int) (hr : k.wrap (m * n) = r) (hw : Region.wanted o (yielded ops a.tmps) = true) (ho : o.op = .binOp .mul ty x y rt) (hx : a.eval x = .int k m) (hy : a.eval y = .int k n) : YieldsIf P ops S o (.int k r) a :=
  yi_val _ hw (fun w _ => by unfold execOp; simp [ho, hx, hy, eqGuard, binOp, Op.intArith, hr])
theorem yi_net {o : Oper} {a : Act} (ty rt : TypeId) (x y : Operand) (b c : List UInt8) (r : Bool) (hr : decide (b = c) = !r) (hw : Region.wanted o (yielded ops a.tmps) = true) (ho : o.op = .binOp .neq ty x y rt) (hx : a.eval x = .string ⟨b.toArray⟩) (hy : a.eval y = .string ⟨c.toArray⟩) : YieldsIf P ops S o (.bool r) a :=
  yi_val _ hw (fun w _ => by
    have hr2 : r = !decide (b = c) := by rw [hr, Bool.not_not]
    subst hr2
    unfold execOp
    simp only [ho, hx, hy]
    simp [eqGuard, binOp, Op.stringOp, Result.andThen]
    try rw [Bool.eq_iff_iff]; simp)
end

end Go.Proofs.Ytflefkmpllbeeaa

/- The walk of package chacha's Turn. Each theorem names its own conditions. -/
namespace Go.Proofs.Ytflefkmpllbeeaa
open Go.RowKit
set_option linter.unusedVariables false
set_option linter.unusedSimpArgs false

/-- The first d bytes turned, noughts behind them. -/
def chaZ (kb : List UInt8) (c : Int) (nb b : List UInt8) (d : Nat) : List UInt8 := (List.range b.length).map fun i => if i < d then b.getD i 0 ^^^ chaByte kb c nb i else 0
theorem chaZ_length (kb : List UInt8) (c : Int) (nb b : List UInt8) (d : Nat) : (chaZ kb c nb b d).length = b.length := by simp [chaZ]
theorem chaZ_getD (kb : List UInt8) (c : Int) (nb b : List UInt8) (d : Nat) {i : Nat} (h : i < b.length) : (chaZ kb c nb b d).getD i 0 = if i < d then b.getD i 0 ^^^ chaByte kb c nb i else 0 := by
  simp [chaZ, List.getD, h]
theorem zB_getD (n i : Nat) : (zB n).getD i 0 = 0 := by
  unfold zB
  rw [List.getD_eq_getElem?_getD, List.getElem?_replicate]
  by_cases h : i < n
  · rw [if_pos h]; rfl
  · rw [if_neg h]; rfl
theorem chaZ_zero (kb : List UInt8) (c : Int) (nb b : List UInt8) : chaZ kb c nb b 0 = zB b.length := by
  apply bytes_ext (by rw [chaZ_length, zB_length])
  intro i hi
  rw [chaZ_length] at hi
  rw [chaZ_getD _ _ _ _ _ hi, if_neg (by omega), zB_getD]
theorem chaZ_full (kb : List UInt8) (c : Int) (nb b : List UInt8) (d : Nat) (h : b.length ≤ d) : chaZ kb c nb b d = chaTurn kb c nb b := by
  apply bytes_ext (by rw [chaZ_length, chaTurn_length])
  intro i hi
  rw [chaZ_length] at hi
  rw [chaZ_getD _ _ _ _ _ hi, if_pos (by omega), chaTurn_getD _ _ _ _ hi]
theorem chaZ_step (kb : List UInt8) (c : Int) (nb b o : List UInt8) (j : Nat) (ho : o = chaBlock kb (BitVec.ofInt 32 (c + (j : Int))) nb) (h : 64 * j < b.length) :
    xorK (chaZ kb c nb b (64 * j)) (64 * j) (b.drop (64 * j)) o (min (b.drop (64 * j)).length 64) = chaZ kb c nb b (min (64 * (j + 1)) b.length) := by
  have hdl : (b.drop (64 * j)).length = b.length - 64 * j := List.length_drop
  apply bytes_ext (by rw [xorK_length, chaZ_length, chaZ_length])
  intro i hi
  rw [xorK_length, chaZ_length] at hi
  rw [xorK_getD _ _ _ _ _ (by rw [chaZ_length, hdl]; omega), chaZ_getD _ _ _ _ _ hi, chaZ_getD _ _ _ _ _ hi, hdl]
  by_cases h1 : i < 64 * j
  · rw [if_neg (by omega), if_pos h1, if_pos (by omega)]
  · by_cases h2 : i < 64 * (j + 1)
    · rw [if_pos (by omega), if_pos (by omega)]
      have e1 : (b.drop (64 * j)).getD (i - 64 * j) 0 = b.getD i 0 := by
        rw [List.getD_eq_getElem?_getD, List.getD_eq_getElem?_getD, List.getElem?_drop, show 64 * j + (i - 64 * j) = i from by omega]
      have e2 : o.getD (i - 64 * j) 0 = chaByte kb c nb i := by
        unfold chaByte
        rw [ho, show i / 64 = j from by omega, show i % 64 = i - 64 * j from by omega]
      rw [e1, e2]
    · rw [if_neg (by omega), if_neg h1, if_neg (by omega)]
theorem ctr_next (c : Int) (j : Nat) : BitVec.ofInt 32 (c + (j : Int)) + 1#32 = BitVec.ofInt 32 (c + ((j + 1 : Nat) : Int)) := by
  apply BitVec.eq_of_toInt_eq
  rw [BitVec.toInt_add, BitVec.toInt_ofInt, BitVec.toInt_ofInt]
  have e : (1#32).toInt = 1 := by decide
  rw [e, Int.bmod_add_bmod]
  congr 1
  omega
theorem cut_tailL {P : Program} {t e : TypeId} (ht : P.underlying t = some (.slice e)) (hs : ∀ w, (sizeOf e).run P w = .ok 1 w) (M n i : Nat) (h : i < n) (w : World) :
    (Instr.sliceAt t (.slice (some ⟨M, 0, none⟩) n n) (some (.int .i64 (i : Int))) none none).run P w = .ok (.slice (some ⟨M, i, none⟩) (n - i) (n - i)) w := by
  have e2 : P.elem t = e := by unfold Program.elem; rw [ht]
  have ht2 : P.underlying t = some (.slice (P.elem t)) := by rw [e2]; exact ht
  rw [run_sliceAt_slice w t _ _ _ _ ht2, run_slice_l (ht := ht2) (kl := .i64) (l := (i : Int)) (h0 := by omega) (h1 := by omega), e2, hs]
  simp [sliced, Addr.add, show ¬ n = i by omega]
  omega

set_option maxRecDepth 100000 in
set_option maxHeartbeats 8000000 in
theorem CTurn_num (kb nb b : List UInt8) (bv : Value) (c : Int) (w : World) (hk : kb.length = 32) (hn : nb.length = 12) (hb : Row1 w bv (b.map bval)) (hbl : b.length ≤ 1099511627776) (hc1 : -9223372036854775808 ≤ c) (hc2 : c ≤ 9223372036854775807) :
    Calls Try.prog 14 #[.agg (kb.map bval).toArray, .int .i64 c, .agg (nb.map bval).toArray, bv] w fun e w' => ∃ x, e = .returned x ∧ w'.ownsRow w.heap.size 5 1 x b.length ((chaTurn kb c nb b).map bval) ∧ Below w.heap.size w w' := by
  obtain ⟨i0, hi0, hz0, hz1, hz2⟩ := info_parts Try.info5
  obtain ⟨a, cap, hv, _⟩ := id hb
  rw [List.length_map] at hv
  subst hv
  have HI0 := Lib.hid hi0
  have HZ0 := Lib.hid hz0
  have HZ1 := Lib.hid hz1
  have HZ2 := Lib.hid hz2
  have HKL := Lib.hid hk
  have HNL := Lib.hid hn
  have HC1 := Lib.hid hc1
  have HC2 := Lib.hid hc2
  have HBL := Lib.hid hbl
  have HR := Lib.hid hb
  have HB := Lib.hid (boxes2 w (kb.map bval) (nb.map bval) 23 25)
  have HIK : Hid ((Try.prog.info? 23).map (·.size) = some (kb.map bval).length) := Lib.hid (num_size hk)
  have HIN : Hid ((Try.prog.info? 25).map (·.size) = some (nb.map bval).length) := Lib.hid (nonce_size hn)
  have HSZ : Hid (((w.alloc (.cells (kb.map bval).toArray 23)).alloc (.cells (nb.map bval).toArray 25)).heap.size = w.heap.size + 1 + 1) := Lib.hid (by simp)
  clear hk hn hc1 hc2 hbl hb hi0 hz0 hz1 hz2
  go_enter Try.func14, Try.ntmps14
  go_upto_region 1 with (fail)
  obtain ⟨H1, H2, HE⟩ := HB.out
  change Code.wp _ _ _ _ ((w.alloc (.cells (kb.map bval).toArray 23)).alloc (.cells (nb.map bval).toArray 25))
  generalize (w.alloc (.cells (kb.map bval).toArray 23)).alloc (.cells (nb.map bval).toArray 25) = wa at *
  have hmk := run_make_zeros wa 26 5 Try.underlying26 i0 HI0.out HZ0.out HZ1.out HZ2.out b.length (by have := HBL.out; omega)
  have HMA := Blk.made wa ((zB b.length).map bval) 5
  have HEM := Ext.alloc wa (.cells ((zB b.length).map bval).toArray 5)
  have H1 := Lib.hid (ext_blk H1 HEM)
  have H2 := Lib.hid (ext_blk H2 HEM)
  have HE : Hid (Ext w _) := Lib.hid (Ext.trans (b := wa) HE HEM)
  have HM := Lib.hid HMA
  clear HMA HEM HB
  go_upto_region 2 with (fail)
  change Code.wp _ _ _ _ (wa.alloc (.cells ((zB b.length).map bval).toArray 5))
  clear hmk
  generalize wa.alloc (.cells ((zB b.length).map bval).toArray 5) = w2 at *
  obtain ⟨M, hM⟩ : ∃ M, M = wa.heap.size := ⟨_, rfl⟩
  have HMW : Hid (w.heap.size ≤ M) := Lib.hid (by rw [hM, HSZ.out]; omega)
  rw [← hM] at HM ⊢
  obtain ⟨K, hK⟩ : ∃ K, K = w.heap.size := ⟨_, rfl⟩
  rw [← hK] at H1 H2 ⊢
  clear hM hK HSZ
  go_wp2_with (first | (refine wpList_load_blk rfl _ _ rfl K rfl _ _ _ _ H1.out Try.underlying23 HIK.out ?_) | (refine wpList_load_blk rfl _ _ rfl (K + 1) rfl _ _ _ _ H2.out Try.underlying25 HIN.out ?_))
  refine (cstart_any kb nb c w2 HKL.out HNL.out HC1.out HC2.out).mono ?_
  rintro e w5 ⟨rfl, hb⟩
  have HM := Lib.hid (ext_blk HM.out hb)
  have HE := Lib.hid (HE.out.trans hb)
  clear hb H1 H2
  obtain ⟨s, hs⟩ : ∃ s, s = chaInit kb (BitVec.ofInt 32 c) nb := ⟨_, rfl⟩
  rw [← hs]
  have HSS := Lib.hid hs
  have HSL : Hid (s.length = 16) := Lib.hid (by rw [hs]; exact chaInit_length _ _ _)
  clear hs
  have HXB := Lib.hid (Blk.made w5 (ints .u32 (List.replicate 16 0)) 51)
  have HXA := Lib.hid (Ext.alloc w5 (.cells (ints .u32 (List.replicate 16 0)).toArray 51))
  have HML := Lib.hid HM.out.lt
  have HIs := Lib.hid (words_size HSL.out)
  have HLs : Hid ((ints .u32 (ws s)).length = (ints .u32 (List.replicate 16 0)).length) := Lib.hid (by rw [ints_length, ws_length, HSL.out, ints_length, List.length_replicate])
  go_upto_region 3 with (refine wpList_store_blk rfl _ _ _ rfl w5.heap.size (ints .u32 (ws s)) rfl rfl _ _ HXB.out HLs.out HIs.out (ints_one _ _) ?_; intro w7 hb7 hg7)
  have HX := Lib.hid hb7
  have HM := Lib.hid ((HM.out.below HXA.out).grown hg7 (fun e => by have h := Option.some.inj e; have := HML.out; omega))
  have HE := Lib.hid (ext_grown (HE.out.trans HXA.out) hg7 HE.out.size)
  have HMX : Hid (M ≠ w5.heap.size) := Lib.hid (by have := HML.out; omega)
  have HXW : Hid (w.heap.size ≤ w5.heap.size) := Lib.hid (by have := HML.out; have := HMW.out; omega)
  obtain ⟨X, hX⟩ : ∃ X, X = w5.heap.size := ⟨_, rfl⟩
  rw [← hX] at HX HMX HXW ⊢
  clear hX hb7 hg7 HXB HXA HML HLs HIs
  rw [HSS.out] at HX
  clear HSL HSS
  go_wp2_with fail
  go_loopw [11] (fun dv wr => ∃ (j : Nat), dv = .int .i64 ((min (64 * j) b.length : Nat) : Int) ∧ Blk wr M ((chaZ kb c nb b (min (64 * j) b.length)).map bval) 5 ∧ Blk wr X (ints .u32 (ws (chaInit kb (BitVec.ofInt 32 (c + (j : Int))) nb))) 51 ∧ Ext w wr) (fun dv _ => b.length - (intOf dv).toNat)
  case atStart => exact ⟨0, by simp, by rw [show min (64 * 0) b.length = 0 from by omega, chaZ_zero]; exact HM.out, by rw [show c + ((0 : Nat) : Int) = c from by omega]; exact HX.out, HE.out⟩
  case round =>
    clear HM HX HE
    obtain ⟨j, rfl, hm, hx, hE⟩ := hrel
    by_cases hlt : 64 * j < b.length
    · have hmn : min (64 * j) b.length = 64 * j := by omega
      have hlt2 : ((64 * j : Nat) : Int) < (b.length : Int) := by omega
      rw [hmn] at hm ⊢
      obtain ⟨l, hl⟩ : ∃ l, l = b.drop (64 * j) := ⟨_, rfl⟩
      obtain ⟨s, hs⟩ : ∃ s, s = chaInit kb (BitVec.ofInt 32 (c + (j : Int))) nb := ⟨_, rfl⟩
      obtain ⟨o, ho⟩ : ∃ o, o = chaBlock kb (BitVec.ofInt 32 (c + (j : Int))) nb := ⟨_, rfl⟩
      have HOUT : Hid (leB (wordsOut s) 64 = o) := Lib.hid (by rw [hs, ho]; exact chaBlock_out _ _ _)
      have HOL : Hid (o.length = 64) := Lib.hid (by rw [ho]; exact chaBlock_length _ _ _)
      have HSL : Hid (s.length = 16) := Lib.hid (by rw [hs]; exact chaInit_length _ _ _)
      have hstep := chaZ_step kb c nb b o j ho hlt
      rw [← hl] at hstep
      have HSTEP := Lib.hid hstep
      have HNEXT : Hid (s.set 12 (BitVec.ofInt 32 (c + (j : Int)) + 1#32) = chaInit kb (BitVec.ofInt 32 (c + ((j + 1 : Nat) : Int))) nb) := Lib.hid (by rw [hs, ctr_next]; rfl)
      have HC12 : Hid (s.getD 12 0#32 = BitVec.ofInt 32 (c + (j : Int))) := Lib.hid (by rw [hs]; rfl)
      rw [← hs] at hx
      have HIX := Lib.hid (words_size HSL.out)
      have HDD : Hid (l.length = b.length - 64 * j) := Lib.hid (by rw [hl]; exact List.length_drop)
      have HDL : Hid (64 * j + l.length = (chaZ kb c nb b (64 * j)).length) := Lib.hid (by rw [chaZ_length, HDD.out]; omega)
      have HDP : Hid (0 < l.length) := Lib.hid (by rw [HDD.out]; omega)
      have HZL : Hid ((chaZ kb c nb b (64 * j)).length ≤ 1099511627776) := Lib.hid (by rw [chaZ_length]; exact HBL.out)
      have HADD : Hid (IntKind.i64.wrap (((64 * j : Nat) : Int) + ((min l.length 64 : Nat) : Int)) = ((min (64 * (j + 1)) b.length : Nat) : Int)) := Lib.hid (by have := HBL.out; rw [IntKind.wrap_i64, HDD.out]; omega)
      have HCUT : Hid (∀ wx, (Instr.sliceAt 26 (.slice (some ⟨M, 0, none⟩) b.length b.length) (some (.int .i64 ((64 * j : Nat) : Int))) none none).run Try.prog wx = .ok (.slice (some ⟨M, 64 * j, none⟩) l.length l.length) wx) := Lib.hid (fun wx => by rw [HDD.out]; exact cut_tailL Try.underlying26 Try.sizeOf5 M b.length (64 * j) hlt wx)
      obtain ⟨bv2, hr2, hc2⟩ := row_cut (P := Try.prog) Try.underlying26 Try.sizeOf5 HR.out (64 * j) (by rw [List.length_map]; omega)
      rw [← List.map_drop, ← hl] at hr2
      have HR2 := Lib.hid hr2
      have HCUT2 := Lib.hid hc2
      have HM := Lib.hid hm
      have HX := Lib.hid hx
      have HE := Lib.hid hE
      have HLT := Lib.hid hlt
      clear hm hx hE hmn hlt hs ho hr2 hc2 hl hstep
      go_upto_region 5 with (fail)
      have B0 : Ext w wr.drew ∧ Blk wr.drew X (ints .u32 (ws s)) 51 := ⟨HE.out.trans (Ext.drew _), HX.out.below (Ext.drew _)⟩
      refine wp_region_held_drew (S := fun w' => Ext w w' ∧ Blk w' X (ints .u32 (ws s)) 51) (by kernel_rfl) B0 (fun hHeld => ?_)
      refine wpAnyH_take (i := 0) (v := .int .i64 ((64 * j : Nat) : Int)) rfl (by kernel_rfl) (by kernel_rfl) (by kernel_rfl) (fun _ _ _ h => h) (yi_move _ (.int .i64 ((64 * j : Nat) : Int)) (by rfl) rfl rfl) hHeld ?_
      simp only [Act.put, List.getElem_toArray, List.getElem_cons_zero, List.getElem_cons_succ, List.setIfInBounds_toArray, List.set_cons_zero, List.set_cons_succ]
      refine wpAnyH_take (i := 1) (v := .slice (some ⟨M, 0, none⟩) b.length b.length) rfl (by kernel_rfl) (by kernel_rfl) (by kernel_rfl) (fun _ _ _ h => h) (yi_move _ (.slice (some ⟨M, 0, none⟩) b.length b.length) (by rfl) rfl rfl) hHeld ?_
      simp only [Act.put, List.getElem_toArray, List.getElem_cons_zero, List.getElem_cons_succ, List.setIfInBounds_toArray, List.set_cons_zero, List.set_cons_succ]
      refine wpAnyH_take (i := 2) (v := .int .i64 ((64 * j : Nat) : Int)) rfl (by kernel_rfl) (by kernel_rfl) (by kernel_rfl) (fun _ _ _ h => h) (yi_move _ (.int .i64 ((64 * j : Nat) : Int)) (by rfl) rfl rfl) hHeld ?_
      simp only [Act.put, List.getElem_toArray, List.getElem_cons_zero, List.getElem_cons_succ, List.setIfInBounds_toArray, List.set_cons_zero, List.set_cons_succ]
      refine wpAnyH_take (i := 3) (v := .slice (some ⟨M, 64 * j, none⟩) l.length l.length) rfl (by kernel_rfl) (by kernel_rfl) (by kernel_rfl) (fun _ _ _ h => h) (yi_slice _ _ _ _ (.slice (some ⟨M, 0, none⟩) b.length b.length) (.slice (some ⟨M, 64 * j, none⟩) l.length l.length) (some (.int .i64 ((64 * j : Nat) : Int))) none (by rfl) rfl rfl rfl rfl HCUT.out) hHeld ?_
      simp only [Act.put, List.getElem_toArray, List.getElem_cons_zero, List.getElem_cons_succ, List.setIfInBounds_toArray, List.set_cons_zero, List.set_cons_succ]
      refine wpAnyH_take (i := 4) (v := .slice a b.length cap) rfl (by kernel_rfl) (by kernel_rfl) (by kernel_rfl) (fun _ _ _ h => h) (yi_move _ (.slice a b.length cap) (by rfl) rfl rfl) hHeld ?_
      simp only [Act.put, List.getElem_toArray, List.getElem_cons_zero, List.getElem_cons_succ, List.setIfInBounds_toArray, List.set_cons_zero, List.set_cons_succ]
      refine wpAnyH_take (i := 5) (v := .int .i64 ((64 * j : Nat) : Int)) rfl (by kernel_rfl) (by kernel_rfl) (by kernel_rfl) (fun _ _ _ h => h) (yi_move _ (.int .i64 ((64 * j : Nat) : Int)) (by rfl) rfl rfl) hHeld ?_
      simp only [Act.put, List.getElem_toArray, List.getElem_cons_zero, List.getElem_cons_succ, List.setIfInBounds_toArray, List.set_cons_zero, List.set_cons_succ]
      refine wpAnyH_take (i := 6) (v := bv2) rfl (by kernel_rfl) (by kernel_rfl) (by kernel_rfl) (fun _ _ _ h => h) (yi_slice _ _ _ _ (.slice a b.length cap) bv2 (some (.int .i64 ((64 * j : Nat) : Int))) none (by rfl) rfl rfl rfl rfl HCUT2.out) hHeld ?_
      simp only [Act.put, List.getElem_toArray, List.getElem_cons_zero, List.getElem_cons_succ, List.setIfInBounds_toArray, List.set_cons_zero, List.set_cons_succ]
      refine wpAnyH_take (i := 7) (v := .agg (ints .u32 (ws s)).toArray) rfl (by kernel_rfl) (by kernel_rfl) (by kernel_rfl) (fun _ _ _ h => h) (yieldsIf_load_mid (by rfl) _ _ rfl X 0 rfl _ _ (fun w h => Blk.range h.2) Try.underlying51 rfl HIX.out) hHeld ?_
      simp only [Act.put, List.getElem_toArray, List.getElem_cons_zero, List.getElem_cons_succ, List.setIfInBounds_toArray, List.set_cons_zero, List.set_cons_succ]
      refine wpAnyH_ready (rs := [8]) (by kernel_rfl) (by simp) (AllReadyH.cons rfl (fun K hK => ?_) AllReadyH.nil)
      go_simp
      refine (cmixed_any s HSL.out _).mono ?_
      rintro e m1 ⟨rfl, b1⟩
      have N1 : Ext w m1 ∧ Blk m1 X (ints .u32 (ws s)) 51 := ⟨B0.1.trans b1, ext_blk B0.2 b1⟩
      refine hK.out _ _ N1 (fun hHeld => ?_)
      clear hK K
      try simp only [Act.put, List.getElem_toArray, List.getElem_cons_zero, List.getElem_cons_succ, List.setIfInBounds_toArray, List.set_cons_zero, List.set_cons_succ]
      refine wpAnyH_ready (rs := [9]) (by kernel_rfl) (by simp) (AllReadyH.cons rfl (fun K hK => ?_) AllReadyH.nil)
      go_simp
      refine (cbytes_any (wordsOut s) (wordsOut_length s) _).mono ?_
      rintro e m2 ⟨rfl, b2⟩
      rw [HOUT.out]
      have N2 : Ext w m2 ∧ Blk m2 X (ints .u32 (ws s)) 51 := ⟨N1.1.trans b2, ext_blk N1.2 b2⟩
      refine hK.out _ _ N2 (fun hHeld => ?_)
      clear hK K
      try simp only [Act.put, List.getElem_toArray, List.getElem_cons_zero, List.getElem_cons_succ, List.setIfInBounds_toArray, List.set_cons_zero, List.set_cons_succ]
      refine wpAnyH_ready (rs := [10]) (by kernel_rfl) (by simp) (AllReadyH.cons rfl (fun K hK => ?_) AllReadyH.nil)
      go_simp
      refine (cxor_any w m2 M (64 * j) (chaZ kb c nb b (64 * j)) l o bv2 N2.1 HMW.out HR2.out (ext_blk (ext_blk (HM.out.below (Ext.drew _)) b1) b2) HOL.out HDL.out HDP.out HZL.out).mono ?_
      rintro e m3 ⟨rfl, hb3, hg3⟩
      rw [HSTEP.out] at hb3
      have N3 : Ext w m3 ∧ Blk m3 X (ints .u32 (ws s)) 51 := ⟨ext_grown N2.1 hg3 HMW.out, N2.2.grown hg3 (fun e => HMX.out (Option.some.inj e))⟩
      refine hK.out _ _ N3 (fun hHeld => ?_)
      clear hK K
      try simp only [Act.put, List.getElem_toArray, List.getElem_cons_zero, List.getElem_cons_succ, List.setIfInBounds_toArray, List.set_cons_zero, List.set_cons_succ]
      refine wpAnyH_take (i := 11) (v := .int .i64 ((min (64 * (j + 1)) b.length : Nat) : Int)) rfl (by kernel_rfl) (by kernel_rfl) (by kernel_rfl) (fun _ _ _ h => h) (yi_add .i64 _ _ _ _ _ _ _ HADD.out (by rfl) rfl rfl rfl) hHeld ?_
      simp only [Act.put, List.getElem_toArray, List.getElem_cons_zero, List.getElem_cons_succ, List.setIfInBounds_toArray, List.set_cons_zero, List.set_cons_succ]
      refine wpAnyH_ready (rs := [12]) (by kernel_rfl) (by simp) (AllReadyH.cons rfl (fun K hK => ?_) AllReadyH.nil)
      go_simp
      refine hK.out _ _ N3 (fun hHeld => ?_)
      clear hK K
      try simp only [Act.put, List.getElem_toArray, List.getElem_cons_zero, List.getElem_cons_succ, List.setIfInBounds_toArray, List.set_cons_zero, List.set_cons_succ]
      refine wpAnyH_done (by kernel_rfl) ?_ _
      have HM1 := Lib.hid hb3
      have HX1 := Lib.hid N3.2
      have HE1 := Lib.hid N3.1
      clear hb3 hg3 N1 N2 N3 b1 b2 B0 HM HX HE HADD HCUT HCUT2 HR2 HSTEP HOUT HDL HDP HZL HIX HDD
      have c0 := word_cell HX1.out (i := 12) (by rw [HSL.out]; omega)
      rw [HC12.out] at c0
      have f0 := HX1.out.free 12
      obtain ⟨z, hz⟩ : ∃ z, z = BitVec.ofInt 32 (c + (j : Int)) := ⟨_, rfl⟩
      rw [← hz] at HNEXT c0
      have hw1 : IntKind.u32.wrap (wi z + 1) = wi (z + 1#32) := wi_add z 1#32
      have hw2 := hw1
      rw [IntKind.wrap_u32] at hw2
      have HXS := set_word HX1.out 12 (wi (z + 1#32)) (z + 1#32) rfl
      rw [HNEXT.out] at HXS
      have HXS := Lib.hid HXS
      have HMS := Lib.hid (HM1.out.far (a := ⟨X, 12, none⟩) (fun e => HMX.out e.symm) (.int .u32 (wi (z + 1#32))))
      have HES : Hid (Ext w (m3.setCell ⟨X, 12, none⟩ (.int .u32 (wi (z + 1#32))))) := Lib.hid (far_ext HE1.out HXW.out)
      clear HM1 HX1 HE1 HNEXT HC12 hz
      generalize z + 1#32 = z1 at *
      go_wp2_with fail
      go_roundw
      case rel =>
        exact ⟨j + 1, rfl, HMS.out, HXS.out, HES.out⟩
      case measure => have := HLT.out; simp [intOf]; omega
    · have hmn : min (64 * j) b.length = b.length := by omega
      have hlt2 : ¬ ((b.length : Int) < (b.length : Int)) := by omega
      rw [hmn] at hm ⊢
      rw [chaZ_full kb c nb b _ (Nat.le_refl _)] at hm
      have HMF := Lib.hid hm
      have HE := Lib.hid hE
      clear hm hE hx hmn hlt
      go_wp2_with fail
      go_ret
      exact ⟨_, rfl, own_blk HMF.out HMW.out (by rw [List.length_map, chaTurn_length]) (by have := HBL.out; unfold maxLen; omega), HE.out⟩

end Go.Proofs.Ytflefkmpllbeeaa

/- Numbers modulo 2^130 - 5 by seventeen digits to the base 256, as the document's own has them: carries, a product, the whole number. No program. Each theorem names its own conditions. -/
namespace Go.Proofs.Ytflefkmpllbeeaa
open Go.RowKit
set_option linter.unusedVariables false
set_option linter.unusedSimpArgs false

/-- 2^130 - 5. -/
def pQ : Nat := 1361129467683753853853498429727072845819
def two130 : Int := 1361129467683753853853498429727072845824
theorem two130_eq : two130 = (pQ : Int) + 5 := by decide +kernel

/-- One pass of the carry: the digits below i are small, u goes on. -/
def qRun (h : List Int) : Nat → List Int × Int
  | 0 => (h, 0)
  | i + 1 => ((qRun h i).1.set i (((qRun h i).2 + (qRun h i).1.getD i 0) % 256), ((qRun h i).2 + (qRun h i).1.getD i 0) / 256)
theorem qRun_length (h : List Int) : ∀ i, (qRun h i).1.length = h.length
  | 0 => rfl
  | i + 1 => by simp [qRun, qRun_length h i]
theorem qRun_far (h : List Int) : ∀ i j, i ≤ j → (qRun h i).1.getD j 0 = h.getD j 0
  | 0, _, _ => rfl
  | i + 1, j, hj => by
    rw [qRun, getD_set_far (by omega), qRun_far h i j (by omega)]
theorem qRun_small (h : List Int) (hl : h.length = 17) : ∀ i, i ≤ 16 → ∀ j, j < i → 0 ≤ (qRun h i).1.getD j 0 ∧ (qRun h i).1.getD j 0 < 256
  | 0, _, j, hj => by omega
  | i + 1, hi, j, hj => by
    rw [qRun]
    by_cases e : j = i
    · subst e
      rw [getD_set_same (by rw [qRun_length]; omega)]
      omega
    · rw [getD_set_far (by omega)]
      exact qRun_small h hl i (by omega) j (by omega)
theorem qRun_val (h : List Int) (hl : h.length = 17) : ∀ i, i ≤ 16 → gV 256 (qRun h i).1 + (qRun h i).2 * 256 ^ i = gV 256 h
  | 0, _ => by simp [qRun]
  | i + 1, hi => by
    have ih := qRun_val h hl i (by omega)
    rw [qRun, gV_set _ _ _ _ (by rw [qRun_length]; omega), ← ih, Int.pow_succ]
    generalize (qRun h i).2 = u
    generalize (qRun h i).1.getD i 0 = z
    generalize gV 256 (qRun h i).1 = V
    generalize hB : (256 : Int) ^ i = B
    have e : (u + z) = 256 * ((u + z) / 256) + (u + z) % 256 := (Int.mul_ediv_add_emod _ _).symm
    generalize (u + z) / 256 = q at *
    generalize (u + z) % 256 = r at *
    have : u = 256 * q + r - z := by omega
    subst this
    grind
theorem qRun_nonneg (h : List Int) (hn : ∀ i, 0 ≤ h.getD i 0) : ∀ i, 0 ≤ (qRun h i).2
  | 0 => by simp [qRun]
  | i + 1 => by
    have ih := qRun_nonneg h hn i
    have := hn i
    rw [qRun, qRun_far h i i (Nat.le_refl _)]
    show 0 ≤ ((qRun h i).2 + h.getD i 0) / 256
    omega
theorem qRun_top (h : List Int) {M : Int} (hn : ∀ i, 0 ≤ h.getD i 0 ∧ h.getD i 0 ≤ M) : ∀ i, (qRun h i).2 ≤ M
  | 0 => by
    have := hn 0
    simp only [qRun]
    omega
  | i + 1 => by
    have ih := qRun_top h hn i
    have := hn i
    rw [qRun, qRun_far h i i (Nat.le_refl _)]
    show ((qRun h i).2 + h.getD i 0) / 256 ≤ M
    omega

/-- A whole pass: what is above 2^130 comes back five times. -/
def qPass (h : List Int) : List Int := ((qRun h 16).1.set 16 (((qRun h 16).2 + h.getD 16 0) % 4)).set 0 ((qRun h 16).1.getD 0 0 + 5 * (((qRun h 16).2 + h.getD 16 0) / 4))
theorem qPass_length (h : List Int) : (qPass h).length = h.length := by simp [qPass, qRun_length]
theorem pow_16 : (256 : Int) ^ 16 = 340282366920938463463374607431768211456 := by decide +kernel
theorem digits16 {zs : List Int} (hl : zs.length = 17) (h : ∀ j, j < 16 → 0 ≤ zs.getD j 0 ∧ zs.getD j 0 < 256) : 0 ≤ gV 256 (zs.take 16) ∧ gV 256 (zs.take 16) < 340282366920938463463374607431768211456 := by
  have := gV_range (B := 256) (by omega) (zs := zs.take 16) (fun i hi => by
    have hi2 : i < 16 := by simp at hi; omega
    rw [getD_take hi2]
    exact h i hi2)
  rw [List.length_take, hl] at this
  rw [← pow_16]
  exact this
theorem gV_17 {zs : List Int} (hl : zs.length = 17) : gV 256 zs = gV 256 (zs.take 16) + zs.getD 16 0 * 340282366920938463463374607431768211456 := by
  have h1 : zs.take 17 = zs := List.take_of_length_le (by omega)
  have h2 := gV_take_succ 256 zs 16 (by omega)
  rw [h1, pow_16] at h2
  exact h2
/-- What a pass does to a number that is not negative. -/
theorem qPass_val (h : List Int) (hl : h.length = 17) (hn : ∀ i, 0 ≤ h.getD i 0) :
    gV 256 (qPass h) = gV 256 h % two130 + 5 * (gV 256 h / two130) ∧ ((qRun h 16).2 + h.getD 16 0) / 4 = gV 256 h / two130 := by
  have hv := qRun_val h hl 16 (Nat.le_refl _)
  have hs := qRun_small h hl 16 (Nat.le_refl _)
  have hf := qRun_far h 16 16 (Nat.le_refl _)
  have hlen : (qRun h 16).1.length = 17 := by rw [qRun_length, hl]
  have hd := digits16 hlen hs
  have h17 := gV_17 hlen
  rw [hf] at h17
  rw [h17, pow_16] at hv
  have e1 : gV 256 (qPass h) = gV 256 ((qRun h 16).1.take 16) + ((qRun h 16).2 + h.getD 16 0) % 4 * 340282366920938463463374607431768211456 + 5 * (((qRun h 16).2 + h.getD 16 0) / 4) := by
    unfold qPass
    rw [gV_set _ _ _ _ (by simp [hlen]), gV_set _ _ _ _ (by omega), getD_set_far (by omega), pow_16, h17, hf]
    generalize gV 256 ((qRun h 16).1.take 16) = D
    generalize (qRun h 16).1.getD 0 0 = z
    generalize ((qRun h 16).2 + h.getD 16 0) % 4 = r
    generalize ((qRun h 16).2 + h.getD 16 0) / 4 = q
    rw [Int.pow_zero, Int.mul_one]
    omega
  have hu := qRun_nonneg h hn 16
  have h16 := hn 16
  rw [e1]
  generalize gV 256 ((qRun h 16).1.take 16) = D at *
  generalize (qRun h 16).2 = u at *
  generalize h.getD 16 0 = z at *
  generalize gV 256 h = V at *
  unfold two130
  clear e1 h17 hf hs hlen
  constructor
  · omega
  · omega
/-- What is below 2^130 stands, and its digits are small. -/
theorem qPass_small (h : List Int) (hl : h.length = 17) (hn : ∀ i, 0 ≤ h.getD i 0) (hv : gV 256 h < two130) :
    gV 256 (qPass h) = gV 256 h ∧ (∀ i, i < 16 → 0 ≤ (qPass h).getD i 0 ∧ (qPass h).getD i 0 < 256) ∧ 0 ≤ (qPass h).getD 16 0 ∧ (qPass h).getD 16 0 < 4 := by
  obtain ⟨h1, h2⟩ := qPass_val h hl hn
  have h0 : 0 ≤ gV 256 h := by
    have hv' := qRun_val h hl 16 (Nat.le_refl _)
    have hs := qRun_small h hl 16 (Nat.le_refl _)
    have hf := qRun_far h 16 16 (Nat.le_refl _)
    have hlen : (qRun h 16).1.length = 17 := by rw [qRun_length, hl]
    have hd := digits16 hlen hs
    have h17 := gV_17 hlen
    rw [hf] at h17
    rw [h17, pow_16] at hv'
    have hu := qRun_nonneg h hn 16
    have h16 := hn 16
    omega
  have hq : gV 256 h / two130 = 0 := Int.ediv_eq_zero_of_lt h0 hv
  have hm : gV 256 h % two130 = gV 256 h := Int.emod_eq_of_lt h0 hv
  rw [hq] at h1 h2
  rw [hm] at h1
  have hlen : (qRun h 16).1.length = 17 := by rw [qRun_length, hl]
  have hs := qRun_small h hl 16 (Nat.le_refl _)
  refine ⟨by rw [h1]; omega, fun i hi => ?_, ?_⟩
  · unfold qPass
    rw [h2]
    by_cases e : i = 0
    · subst e
      rw [getD_set_same (by simp [hlen])]
      have := hs 0 (by omega)
      omega
    · rw [getD_set_far (by omega), getD_set_far (by omega)]
      exact hs i hi
  · unfold qPass
    rw [getD_set_far (by omega), getD_set_same (by omega)]
    omega
theorem qPass_nonneg (h : List Int) (hl : h.length = 17) (hn : ∀ i, 0 ≤ h.getD i 0) : ∀ i, 0 ≤ (qPass h).getD i 0 := by
  intro i
  have hlen : (qRun h 16).1.length = 17 := by rw [qRun_length, hl]
  have hs := qRun_small h hl 16 (Nat.le_refl _)
  have hu := qRun_nonneg h hn 16
  have h16 := hn 16
  unfold qPass
  by_cases e : i = 0
  · subst e
    rw [getD_set_same (by simp [hlen])]
    have := hs 0 (by omega)
    omega
  · rw [getD_set_far (by omega)]
    by_cases e2 : i = 16
    · subst e2
      rw [getD_set_same (by omega)]
      omega
    · rw [getD_set_far (by omega)]
      rcases Nat.lt_or_ge i 16 with h | h
      · exact (hs i h).1
      · rw [getD_out (by omega)]
        omega
/-- Three passes, of digits none too great: the number modulo 2^130 - 5, below 2^130, in small digits. -/
def qThree (h : List Int) : List Int := qPass (qPass (qPass h))
def Can17 (h : List Int) : Prop := h.length = 17 ∧ (∀ i, i < 16 → 0 ≤ h.getD i 0 ∧ h.getD i 0 < 256) ∧ 0 ≤ h.getD 16 0 ∧ h.getD 16 0 < 4
theorem qThree_val (h : List Int) (hl : h.length = 17) (hn : ∀ i, 0 ≤ h.getD i 0) (hV : gV 256 h < 1496577676626844588240573268701473812127674924007424) :
    Can17 (qThree h) ∧ gV 256 (qThree h) % (pQ : Int) = gV 256 h % (pQ : Int) := by
  have n1 := qPass_nonneg h hl hn
  have l1 : (qPass h).length = 17 := by rw [qPass_length, hl]
  have n2 := qPass_nonneg _ l1 n1
  have l2 : (qPass (qPass h)).length = 17 := by rw [qPass_length, l1]
  have v1 := (qPass_val h hl hn).1
  have v2 := (qPass_val _ l1 n1).1
  have pos : ∀ k : List Int, k.length = 17 → (∀ i, 0 ≤ k.getD i 0) → 0 ≤ gV 256 k := fun k hk hn => by
    have : ∀ (zs : List Int), (∀ i, 0 ≤ zs.getD i 0) → 0 ≤ gV 256 zs := by
      intro zs
      induction zs with
      | nil => intro _; exact Int.le_refl _
      | cons z r ih =>
        intro h
        have h0 : 0 ≤ z := h 0
        have h1 := ih (fun i => by have := h (i + 1); simpa using this)
        simp only [gV]
        omega
    exact this k hn
  have p0 := pos h hl hn
  have b2 : gV 256 (qPass (qPass h)) < two130 ∧ gV 256 (qPass (qPass h)) % (pQ : Int) = gV 256 h % (pQ : Int) := by
    rw [v2, v1]
    generalize gV 256 h = V at *
    unfold two130 pQ
    clear v1 v2
    omega
  obtain ⟨s1, s2, s3⟩ := qPass_small _ l2 n2 b2.1
  refine ⟨⟨by unfold qThree; rw [qPass_length, l2], s2, s3⟩, ?_⟩
  unfold qThree
  rw [s1, b2.2]

end Go.Proofs.Ytflefkmpllbeeaa

/- Poly1305 as a function on lists of bytes. No program. Each theorem names its own conditions. -/
namespace Go.Proofs.Ytflefkmpllbeeaa
open Go.RowKit
set_option linter.unusedVariables false
set_option linter.unusedSimpArgs false

/-- The number r of a key: bytes 3, 7, 11, 15 below 16, and 4, 8, 12 without their lowest two bits. -/
def pDigit (key : List UInt8) (i : Nat) : Nat :=
  if i = 3 ∨ i = 7 ∨ i = 11 ∨ i = 15 then (key.getD i 0).toNat % 16 else if i = 4 ∨ i = 8 ∨ i = 12 then (key.getD i 0).toNat / 4 * 4 else (key.getD i 0).toNat
def pDigits (key : List UInt8) : List Int := (List.range 16).map fun i => (pDigit key i : Int)
def pR (key : List UInt8) : Int := gV 256 (pDigits key)
def pS (key : List UInt8) : Nat := leN ((key.drop 16).take 16)
/-- A block's number: its bytes, and a 1 behind. -/
def pBlk (b : List UInt8) (n : Nat) : Int := ((leN ((b.drop (16 * n)).take 16) : Nat) : Int) + 256 ^ (min 16 (b.length - 16 * n))
/-- After n blocks. -/
def pAcc (r : Int) (b : List UInt8) : Nat → Int
  | 0 => 0
  | n + 1 => (pAcc r b n + pBlk b n) * r % (pQ : Int)
def pNum (key b : List UInt8) : Int := pAcc (pR key) b ((b.length + 15) / 16)
/-- The tag. -/
def polyTag (key b : List UInt8) : List UInt8 := bytesN 16 (pNum key b + pS key).toNat
theorem polyTag_length (key b : List UInt8) : (polyTag key b).length = 16 := bytesN_length _ _
theorem pQ_pos : (0 : Int) < (pQ : Int) := by decide +kernel
theorem pAcc_range (r : Int) (b : List UInt8) : ∀ n, 0 ≤ pAcc r b n ∧ pAcc r b n < (pQ : Int)
  | 0 => ⟨Int.le_refl _, pQ_pos⟩
  | n + 1 => ⟨Int.emod_nonneg _ (Int.ne_of_gt pQ_pos), Int.emod_lt_of_pos _ pQ_pos⟩
/-- RFC 8439, section 2.5.2. -/
theorem poly_rfc : polyTag [0x85, 0xd6, 0xbe, 0x78, 0x57, 0x55, 0x6d, 0x33, 0x7f, 0x44, 0x52, 0xfe, 0x42, 0xd5, 0x06, 0xa8, 0x01, 0x03, 0x80, 0x8a, 0xfb, 0x0d, 0xb2, 0xfd, 0x4a, 0xbf, 0xf6, 0xaf, 0x41, 0x49, 0xf5, 0x1b]
    [67, 114, 121, 112, 116, 111, 103, 114, 97, 112, 104, 105, 99, 32, 70, 111, 114, 117, 109, 32, 82, 101, 115, 101, 97, 114, 99, 104, 32, 71, 114, 111, 117, 112] = [0xa8, 0x06, 0x1d, 0xc1, 0x30, 0x51, 0x36, 0xc6, 0xc2, 0x2b, 0x8b, 0xaf, 0x0c, 0x01, 0x27, 0xa9] := by decide +kernel
theorem pR_zero {key : List UInt8} (h : ∀ i, i < 16 → key.getD i 0 = 0) : pR key = 0 := by
  unfold pR
  have e : pDigits key = List.replicate 16 0 := by
    unfold pDigits
    rw [List.eq_replicate_iff]
    refine ⟨by simp, fun z hz => ?_⟩
    obtain ⟨i, hi, rfl⟩ := List.mem_map.1 hz
    have hi2 : i < 16 := List.mem_range.1 hi
    unfold pDigit
    rw [h i hi2]
    split
    · rfl
    · split <;> rfl
  rw [e, gV_zeros]
/-- Under a key whose first half is nought each tag is the last half. -/
theorem pNum_zero {key : List UInt8} (b : List UInt8) (h : ∀ i, i < 16 → key.getD i 0 = 0) : pNum key b = 0 := by
  unfold pNum
  rw [pR_zero h]
  have : ∀ n, pAcc 0 b n = 0 := fun n => by
    cases n with
    | zero => rfl
    | succ n => simp [pAcc]
  exact this _

end Go.Proofs.Ytflefkmpllbeeaa

/- ChaCha20-Poly1305 as functions on lists of bytes: what is tagged, the tag, what is sealed, what is opened. No program. Each theorem names its own conditions. -/
namespace Go.Proofs.Ytflefkmpllbeeaa
open Go.RowKit
set_option linter.unusedVariables false
set_option linter.unusedSimpArgs false

/-- Noughts up to a multiple of 16. -/
def z16 (n : Nat) : List UInt8 := List.replicate ((16 - n % 16) % 16) 0
theorem z16_length (n : Nat) : (z16 n).length = (16 - n % 16) % 16 := by simp [z16]
theorem z16_nil {n : Nat} (h : n % 16 = 0) : z16 n = [] := by
  unfold z16
  rw [h]
  rfl
/-- What is tagged. -/
def aeaMsg (c s : List UInt8) : List UInt8 := s ++ (z16 s.length ++ (c ++ (z16 c.length ++ (bytesN 8 s.length ++ bytesN 8 c.length))))
def oneKey (kb nb : List UInt8) : List UInt8 := (chaBlock kb 0#32 nb).take 32
theorem oneKey_length (kb nb : List UInt8) : (oneKey kb nb).length = 32 := by
  unfold oneKey
  rw [List.length_take, chaBlock_length]
  rfl
def aeaTag (kb nb c s : List UInt8) : List UInt8 := polyTag (oneKey kb nb) (aeaMsg c s)
theorem aeaTag_length (kb nb c s : List UInt8) : (aeaTag kb nb c s).length = 16 := polyTag_length _ _
def sealB (kb nb p s : List UInt8) : List UInt8 := chaTurn kb 1 nb p ++ aeaTag kb nb (chaTurn kb 1 nb p) s
theorem sealB_length (kb nb p s : List UInt8) : (sealB kb nb p s).length = p.length + 16 := by
  unfold sealB
  rw [List.length_append, chaTurn_length, aeaTag_length]
/-- What is opened: nothing, if the tag is another one. -/
def openB (kb nb b s : List UInt8) : Option (List UInt8) :=
  if b.length < 16 then none else if aeaTag kb nb (b.take (b.length - 16)) s = b.drop (b.length - 16) then some (chaTurn kb 1 nb (b.take (b.length - 16))) else none
theorem openB_short (kb nb : List UInt8) {b : List UInt8} (s : List UInt8) (h : b.length < 16) : openB kb nb b s = none := by
  unfold openB
  rw [if_pos h]
theorem sealB_take (kb nb p s : List UInt8) : (sealB kb nb p s).take ((sealB kb nb p s).length - 16) = chaTurn kb 1 nb p := by
  rw [sealB_length, Nat.add_sub_cancel]
  unfold sealB
  rw [List.take_append_of_le_length (by rw [chaTurn_length]; omega), List.take_of_length_le (by rw [chaTurn_length]; omega)]
theorem sealB_drop (kb nb p s : List UInt8) : (sealB kb nb p s).drop ((sealB kb nb p s).length - 16) = aeaTag kb nb (chaTurn kb 1 nb p) s := by
  rw [sealB_length, Nat.add_sub_cancel]
  unfold sealB
  rw [List.drop_append, List.drop_eq_nil_of_le (by rw [chaTurn_length]; omega), List.nil_append, chaTurn_length, Nat.sub_self, List.drop_zero]
theorem open_seal (kb nb p s : List UInt8) : openB kb nb (sealB kb nb p s) s = some p := by
  unfold openB
  rw [if_neg (by rw [sealB_length]; omega), sealB_take, sealB_drop, if_pos rfl, chaTurn_twice]
/-- A tag of which a byte is another one is no tag. -/
theorem open_turned (kb nb p s : List UInt8) (k : Nat) (hk : p.length ≤ k) (hk2 : k < p.length + 16) (z : UInt8) (hz : z ≠ (sealB kb nb p s).getD k 0) : openB kb nb ((sealB kb nb p s).set k z) s = none := by
  have hl := sealB_length kb nb p s
  unfold openB
  rw [if_neg (by rw [List.length_set, hl]; omega), List.length_set]
  have e1 : ((sealB kb nb p s).set k z).take ((sealB kb nb p s).length - 16) = chaTurn kb 1 nb p := by
    rw [List.take_set_of_le (by omega), sealB_take]
  rw [e1, if_neg]
  intro h
  rw [← sealB_drop] at h
  have h2 := congrArg (fun l : List UInt8 => l.getD (k - p.length) 0) h
  have e2 : (List.drop ((sealB kb nb p s).length - 16) (sealB kb nb p s)).getD (k - p.length) 0 = (sealB kb nb p s).getD k 0 := by
    rw [List.getD_eq_getElem?_getD, List.getElem?_drop, hl, show p.length + 16 - 16 + (k - p.length) = k by omega, ← List.getD_eq_getElem?_getD]
  have e3 : (List.drop ((sealB kb nb p s).length - 16) ((sealB kb nb p s).set k z)).getD (k - p.length) 0 = z := by
    rw [List.getD_eq_getElem?_getD, List.getElem?_drop, hl, show p.length + 16 - 16 + (k - p.length) = k by omega, List.getElem?_set_self (by omega)]
    rfl
  rw [e2, e3] at h2
  exact hz h2.symm
theorem xor_other {a y : UInt8} (hy : y ≠ 0) : a ^^^ y ≠ a := by
  intro h
  apply hy
  have h2 : a ^^^ (a ^^^ y) = a ^^^ a := by rw [h]
  rw [← UInt8.xor_assoc, UInt8.xor_self, UInt8.zero_xor] at h2
  exact h2
theorem zero_bytes (n : Nat) : bytesN n 0 = List.replicate n 0 := by
  have h := bytesN_leN (List.replicate n (0 : UInt8))
  rw [leN_zeros, List.length_replicate] at h
  exact h

end Go.Proofs.Ytflefkmpllbeeaa

/- The walks of package aead's filling, length and turned. Each theorem names its own conditions. -/
namespace Go.Proofs.Ytflefkmpllbeeaa
open Go.RowKit
set_option linter.unusedVariables false
set_option linter.unusedSimpArgs false

theorem z16_zB (n : Nat) : z16 n = zB ((16 - n % 16) % 16) := rfl

set_option maxRecDepth 100000 in
set_option maxHeartbeats 4000000 in
theorem afilling_any (v : Value) (l : List UInt8) (w : World) (hv : Row1 w v (l.map bval)) :
    Calls Try.prog 35 #[v] w fun e w' => ∃ x, e = .returned x ∧ w'.ownsRow w.heap.size 5 1 x (z16 l.length).length ((z16 l.length).map bval) ∧ Below w.heap.size w w' := by
  obtain ⟨i0, hi0, hz0, hz1, hz2⟩ := info_parts Try.info5
  obtain ⟨a, cap, rfl, h1, h2, _⟩ := id hv
  rw [List.length_map] at h1 ⊢
  unfold maxLen at h2
  rw [z16_length, z16_zB]
  obtain ⟨r, hr⟩ : ∃ r, r = l.length % 16 := ⟨_, rfl⟩
  obtain ⟨q, hq⟩ : ∃ q, q = 16 - r := ⟨_, rfl⟩
  obtain ⟨k, hk⟩ : ∃ k, k = q % 16 := ⟨_, rfl⟩
  rw [← hr, ← hq, ← hk]
  have e1 : Int.tmod ((l.length : Nat) : Int) 16 = (r : Int) := by rw [Int.tmod_eq_emod_of_nonneg (by omega)]; omega
  have e1' : ((l.length : Nat) : Int) % 16 = (r : Int) := by omega
  have e2 : (16 : Int) - (r : Int) = (q : Int) := by omega
  have e3 : Int.tmod (q : Int) 16 = (k : Int) := by rw [Int.tmod_eq_emod_of_nonneg (by omega)]; omega
  have e3' : (q : Int) % 16 = (k : Int) := by omega
  have q0 : (0 : Int) ≤ (q : Int) := Int.natCast_nonneg _
  have q1 : (q : Int) ≤ 16 := by omega
  have k0 : (0 : Int) ≤ (k : Int) := Int.natCast_nonneg _
  have hmk := run_make_zeros w 26 5 Try.underlying26 i0 hi0 hz0 hz1 hz2 k (by omega)
  have HO : Hid ((w.alloc (.cells ((zB k).map bval).toArray 5)).ownsRow w.heap.size 5 1 (.slice (some ⟨w.heap.size, 0, none⟩) k k) k ((zB k).map bval)) := Lib.hid (own_made _ _ _ _ _ _ rfl (by rw [List.length_map, zB_length]) (by unfold maxLen; omega) (Nat.le_refl _))
  clear hi0 hz0 hz1 hz2 hr hq hk hv
  go_enter Try.func35, Try.ntmps35
  go_wp2_with fail
  go_ret
  exact ⟨_, rfl, HO.out, Ext.alloc _ _⟩

set_option maxRecDepth 100000 in
set_option maxHeartbeats 4000000 in
theorem alength_any (v : Value) (l : List UInt8) (w : World) (hv : Row1 w v (l.map bval)) :
    Calls Try.prog 36 #[v] w fun e w' => ∃ x, e = .returned x ∧ w'.ownsRow w.heap.size 5 1 x 8 ((bytesN 8 l.length).map bval) ∧ Below w.heap.size w w' := by
  obtain ⟨i0, hi0, hz0, hz1, hz2⟩ := info_parts Try.info5
  obtain ⟨a, cap, rfl, h1, h2, _⟩ := id hv
  rw [List.length_map] at h1 ⊢
  unfold maxLen at h2
  generalize l.length = n at *
  have hmk := run_make_zeros w 26 5 Try.underlying26 i0 hi0 hz0 hz1 hz2 8 (by omega)
  rw [show ((8 : Nat) : Int) = 8 from rfl] at hmk
  have HMA : Hid (Blk (w.alloc (.cells ((zB 8).map bval).toArray 5)) w.heap.size ((fill 8 (bytesN 8 n) 0).map bval) 5) := Lib.hid (by rw [fill_zero]; exact Blk.made w ((zB 8).map bval) 5)
  have HEM : Hid (Ext w (w.alloc (.cells ((zB 8).map bval).toArray 5))) := Lib.hid (Ext.alloc _ _)
  clear hi0 hz0 hz1 hz2 hv
  go_enter Try.func36, Try.ntmps36
  go_upto_region 2 with (fail)
  change Code.wp _ _ _ _ (w.alloc (.cells ((zB 8).map bval).toArray 5))
  clear hmk
  generalize w.alloc (.cells ((zB 8).map bval).toArray 5) = w1 at *
  obtain ⟨M, hM⟩ : ∃ M, M = w.heap.size := ⟨_, rfl⟩
  have HMW : Hid (w.heap.size = M) := Lib.hid hM.symm
  rw [← hM] at HMA ⊢
  clear hM
  go_wp2_with fail
  go_loopw [8] (fun iv wr => ∃ (j : Nat), j ≤ 8 ∧ iv = .int .i64 (j : Int) ∧ Blk wr M ((fill 8 (bytesN 8 n) j).map bval) 5 ∧ Ext w wr) (fun iv _ => 8 - (intOf iv).toNat)
  case atStart => exact ⟨0, by omega, rfl, HMA.out, HEM.out⟩
  case round =>
    clear HMA HEM
    obtain ⟨j, hj, rfl, hbm, hbel⟩ := hrel
    have j0 : (0 : Int) ≤ (j : Int) := Int.natCast_nonneg _
    have HMA := Lib.hid hbm
    have HX := Lib.hid hbel
    by_cases hlj : j < 8
    · have j1 : (j : Int) < 8 := by omega
      obtain ⟨e, he⟩ : ∃ e : Nat, e = 8 * j := ⟨_, rfl⟩
      have e1 : 8 * (j : Int) = (e : Int) := by omega
      have e64 : (e : Int) < 64 := by omega
      have e0 : (0 : Int) ≤ (e : Int) := by omega
      have ep : (2 : Int) ^ e = ((256 ^ j : Nat) : Int) := by rw [he, Int.pow_mul]; simp
      have hv1 : (n : Int) / 2 ^ e = ((n / 256 ^ j : Nat) : Int) := by rw [ep, ← Int.natCast_ediv]
      have hb1 : n / 256 ^ j ≤ n := Nat.div_le_self _ _
      have HBY : Hid ((((n / 256 ^ j : Nat) : Int)) % 256 = (((bytesN 8 n).getD j 0).toNat : Int)) := Lib.hid (by rw [bytesN_getD 8 n j hlj]; omega)
      generalize n / 256 ^ j = q at *
      have HS1 := Lib.hid (fill_set_val (n := 8) (bytesN_length 8 n) hlj HBY.out)
      obtain ⟨u6, c6⟩ : ∃ u, wr.cell? ⟨M, j, none⟩ = some u := ⟨_, by rw [hbm.cell, bval_get (by rw [fill_length (bytesN_length _ _) (by omega)]; exact hlj)]⟩
      have f6 := hbm.free j
      have HMX := HX.out.size
      clear hbm hbel he ep HBY
      go_wp2_with fail
      go_roundw
      case rel => exact ⟨j + 1, by omega, by go_num, by rw [← HS1.out]; exact HMA.out.set _ _, Below.setCell HX.out (by have := HMW.out; simp; omega) _⟩
      case measure => simp [intOf]; omega
    · have hj8 : j = 8 := by omega
      subst hj8
      rw [show ((8 : Nat) : Int) = 8 from rfl]
      rw [fill_full (bytesN_length _ _)] at HMA
      clear hbel hbm hj j0 hlj
      go_wp2_with fail
      go_ret
      exact ⟨_, rfl, own_blk HMA.out (by rw [HMW.out]; exact Nat.le_refl _) (by rw [List.length_map, bytesN_length]) (by unfold maxLen; omega), HX.out⟩

set_option maxRecDepth 100000 in
set_option maxHeartbeats 4000000 in
theorem aturned_any (kb nb p : List UInt8) (pv : Value) (w : World) (hk : kb.length = 32) (hn : nb.length = 12) (hp : Row1 w pv (p.map bval)) (hpl : p.length ≤ 1099511627776) :
    Calls Try.prog 17 #[.agg (kb.map bval).toArray, .agg (nb.map bval).toArray, pv] w fun e w' => ∃ x, e = .returned x ∧ w'.ownsRow w.heap.size 5 1 x p.length ((chaTurn kb 1 nb p).map bval) ∧ Below w.heap.size w w' := by
  have HP0 := Lib.hid hp
  have HPL := Lib.hid hpl
  have HB := Lib.hid (boxes2 w (kb.map bval) (nb.map bval) 23 25)
  have HIK : Hid ((Try.prog.info? 23).map (·.size) = some (kb.map bval).length) := Lib.hid (num_size hk)
  have HIN : Hid ((Try.prog.info? 25).map (·.size) = some (nb.map bval).length) := Lib.hid (nonce_size hn)
  have HKL := Lib.hid hk
  have HNL := Lib.hid hn
  clear hp hk hn hpl
  go_enter Try.func17, Try.ntmps17
  go_upto_region 1 with (fail)
  obtain ⟨H1, H2, HE⟩ := HB.out
  change Code.wp _ _ _ _ ((w.alloc (.cells (kb.map bval).toArray 23)).alloc (.cells (nb.map bval).toArray 25))
  generalize (w.alloc (.cells (kb.map bval).toArray 23)).alloc (.cells (nb.map bval).toArray 25) = wa at *
  obtain ⟨A, hA⟩ : ∃ A, A = w.heap.size := ⟨_, rfl⟩
  rw [← hA] at H1 H2 ⊢
  have H1 := Lib.hid H1
  have H2 := Lib.hid H2
  have HE : Hid (Ext w wa) := Lib.hid HE
  have HA := Lib.hid hA
  clear hA HB
  go_wp2_with (first | (refine wpList_load_blk rfl _ _ rfl A rfl _ _ _ _ H1.out Try.underlying23 HIK.out ?_) | (refine wpList_load_blk rfl _ _ rfl (A + 1) rfl _ _ _ _ H2.out Try.underlying25 HIN.out ?_))
  refine (CTurn_num kb nb p _ 1 wa HKL.out HNL.out (HP0.out.below HE.out) HPL.out (by decide) (by decide)).mono ?_
  rintro e w1 ⟨x1, rfl, ho1, hb1⟩
  have HO1 := Lib.hid (own_mono ho1 HE.out.size)
  have HE := Lib.hid (HE.out.trans hb1)
  clear ho1 hb1
  go_wp2_with fail
  go_ret
  exact ⟨_, rfl, HO1.out, HE.out⟩

end Go.Proofs.Ytflefkmpllbeeaa

/- Ints held against each other, a rest, rows of five strings: operations that may come up in any order. Each theorem names its own conditions. -/
namespace Go.Proofs.Ytflefkmpllbeeaa
open Go.RowKit
set_option linter.unusedVariables false
set_option linter.unusedSimpArgs false

section
variable {P : Program} {ops : Array Oper} {S : World → Prop}
theorem yi_nei {o : Oper} {a : Act} (k : IntKind) (ty rt : TypeId) (x y : Operand) (b c : Int) (r : Bool) (hr : decide (b = c) = !r) (hw : Region.wanted o (yielded ops a.tmps) = true) (ho : o.op = .binOp .neq ty x y rt) (hx : a.eval x = .int k b) (hy : a.eval y = .int k c) : YieldsIf P ops S o (.bool r) a :=
  yi_val _ hw (fun w _ => by
    have hr2 : r = !decide (b = c) := by rw [hr, Bool.not_not]
    subst hr2
    unfold execOp
    simp only [ho, hx, hy]
    simp [eqGuard, binOp, Op.intCmp, Result.andThen]
    try rw [Bool.eq_iff_iff]; simp)
theorem yi_rem {o : Oper} {a : Act} (k : IntKind) (ty rt : TypeId) (x y : Operand) (m n r : Int) (hn : n ≠ 0) (hr : Int.tmod m n = r) (hw : Region.wanted o (yielded ops a.tmps) = true) (ho : o.op = .binOp .rem ty x y rt) (hx : a.eval x = .int k m) (hy : a.eval y = .int k n) : YieldsIf P ops S o (.int k r) a :=
  yi_val _ hw (fun w _ => by unfold execOp; simp [ho, hx, hy, eqGuard, binOp, Op.intDiv, hr, hn, Result.andThen])
end
theorem rowB5 {w : World} {v x y z u t : Value} {l m n o p : List UInt8} (h : Row1 w v [x, y, z, u, t]) (hx : Row1 w x (l.map bval)) (hy : Row1 w y (m.map bval)) (hz : Row1 w z (n.map bval)) (hu : Row1 w u (o.map bval)) (ht : Row1 w t (p.map bval)) : RowB w v [l, m, n, o, p] :=
  ⟨_, h, rfl, fun i c k hc hk => by
    match i with
    | 0 => simp at hc hk; subst hc; subst hk; exact hx
    | 1 => simp at hc hk; subst hc; subst hk; exact hy
    | 2 => simp at hc hk; subst hc; subst hk; exact hz
    | 3 => simp at hc hk; subst hc; subst hk; exact hu
    | 4 => simp at hc hk; subst hc; subst hk; exact ht
    | i + 5 => simp at hc⟩
theorem rowB6 {w : World} {v x y z u t s : Value} {l m n o p q : List UInt8} (h : Row1 w v [x, y, z, u, t, s]) (hx : Row1 w x (l.map bval)) (hy : Row1 w y (m.map bval)) (hz : Row1 w z (n.map bval)) (hu : Row1 w u (o.map bval)) (ht : Row1 w t (p.map bval)) (hs : Row1 w s (q.map bval)) : RowB w v [l, m, n, o, p, q] :=
  ⟨_, h, rfl, fun i c k hc hk => by
    match i with
    | 0 => simp at hc hk; subst hc; subst hk; exact hx
    | 1 => simp at hc hk; subst hc; subst hk; exact hy
    | 2 => simp at hc hk; subst hc; subst hk; exact hz
    | 3 => simp at hc hk; subst hc; subst hk; exact hu
    | 4 => simp at hc hk; subst hc; subst hk; exact ht
    | 5 => simp at hc hk; subst hc; subst hk; exact hs
    | i + 6 => simp at hc⟩

end Go.Proofs.Ytflefkmpllbeeaa

/- The walks of the library's slices.Grow (of no slice) and slices.Concat, for bytes. Each theorem names its own conditions. -/
namespace Go.Proofs.Ytflefkmpllbeeaa
open Go.RowKit
set_option linter.unusedVariables false
set_option linter.unusedSimpArgs false

/-- The first n of no bytes' row that was just grown. -/
theorem grown_own (w : World) (base n cap : Nat) (e : TypeId) (cur : Array Value) (hb : base ≤ w.heap.size) (hc : cap ≤ maxLen) (hs : cur.size = cap) : (w.alloc (.cells cur e)).ownsRow base e 1 (.slice (some ⟨w.heap.size, 0, none⟩) 0 cap) 0 [] :=
  ⟨rfl, Or.inr ⟨w.heap.size, cap, cur, rfl, hb, heap_alloc_new w _, Nat.zero_le _, hc, by omega, rfl⟩⟩

set_option maxRecDepth 100000 in
set_option maxHeartbeats 4000000 in
theorem stdGrow_nil (n : Nat) (w : World) (hn : n ≤ 1099511627776) :
    Calls Try.prog 37 #[.slice none 0 0, .int .i64 (n : Int)] w fun e w' => ∃ x, e = .returned x ∧ w'.ownsRow w.heap.size 5 1 x 0 [] ∧ Below w.heap.size w w' := by
  obtain ⟨i0, hi, hz0, hz1, hz2⟩ := info_parts Try.info5
  have h0 : (0 : Int) ≤ (n : Int) := Int.natCast_nonneg _
  have HNB := Lib.hid hn
  go_enter Try.func37, Try.ntmps37
  rcases Nat.eq_zero_or_pos n with rfl | hp
  · clear hi hz0 hz1 hz2
    go_wp2_with fail
    go_ret
    exact ⟨_, rfl, World.ownsRow_nil _ _ _ _, Below.refl _ _⟩
  · have hp' : (0 : Int) < (n : Int) := by omega
    have HR := Lib.hid (Lib.run_append_nil_zeros (P := Try.prog) w 26 3 0 5 i0 (.int .u8 0) .i64 .i64 Try.underlying26 rfl hi hz0 n hp (by rw [hz1]; decide) (by omega) (by rw [hz2]; omega))
    have HG : Hid (grownCap w n 0 5 ≤ maxLen) := Lib.hid (grownCap_le_maxLen w n 0 _ (by unfold maxLen; omega))
    have HG2 : Hid (n ≤ grownCap w n 0 5) := Lib.hid (grownCap_ge w n 0 _)
    have HSZ : Hid ((Builtin.zeroCells (Value.cells (.int .u8 0)) n ++ Builtin.zeroCells (Value.cells (.int .u8 0)) (grownCap w n 0 5 - n)).size = grownCap w n 0 5) := Lib.hid (by
      rw [Array.size_append, size_zeroCells, size_zeroCells]
      have := HG2.out
      simp [Value.cells]
      omega)
    clear hi hz0 hz1 hz2
    generalize Builtin.zeroCells (Value.cells (.int .u8 0)) n ++ Builtin.zeroCells (Value.cells (.int .u8 0)) (grownCap w n 0 5 - n) = cur at *
    generalize grownCap w n 0 5 = cap at *
    have hc0 : (0 : Int) ≤ (cap : Int) := Int.natCast_nonneg _
    go_wp2_with (at_builtin; refine Lib.wpList_append_run _ rfl _ _ _ _ rfl _ _ rfl rfl _ _ HR.out ?_)
    go_ret
    exact ⟨_, rfl, grown_own w.drew _ n cap _ cur (Nat.le_refl _) HG.out HSZ.out, below_drewN (Ext.alloc w _) 1⟩

theorem cat_succ (ls : List (List UInt8)) (k : Nat) (l : List UInt8) (h : ls[k]? = some l) : (ls.take (k + 1)).flatten = (ls.take k).flatten ++ l := by
  have hk : k < ls.length := by
    rcases Nat.lt_or_ge k ls.length with h' | h'
    · exact h'
    · rw [List.getElem?_eq_none h'] at h; cases h
  rw [List.take_succ_eq_append_getElem hk, List.flatten_append]
  rw [List.getElem?_eq_getElem hk] at h
  cases h
  simp
theorem cat_part (ls : List (List UInt8)) (k : Nat) : (ls.take k).flatten.length ≤ ls.flatten.length := by
  have h : ls.flatten = (ls.take k).flatten ++ (ls.drop k).flatten := by rw [← List.flatten_append, List.take_append_drop]
  rw [h, List.length_append]
  omega
theorem cat_all (ls : List (List UInt8)) : (ls.take ls.length).flatten = ls.flatten := by rw [List.take_length]

set_option maxRecDepth 100000 in
set_option maxHeartbeats 4000000 in
theorem stdConcat_any (v : Value) (ls : List (List UInt8)) (w : World) (hv : RowB w v ls) (hb : ls.flatten.length ≤ 1099511627776) :
    Calls Try.prog 19 #[v] w fun e w' => ∃ x, e = .returned x ∧ w'.ownsRow w.heap.size 5 1 x ls.flatten.length (ls.flatten.map bval) ∧ Below w.heap.size w w' := by
  obtain ⟨i0, hi, hz0, hz1, hz2⟩ := info_parts Try.info5
  obtain ⟨vals, hr, hlen, hx⟩ := hv
  obtain ⟨a, cap, rfl, r1, r2, r3, r4⟩ := id hr
  unfold maxLen at r2
  rw [hlen] at r1 ⊢
  have HI0 := Lib.hid hi
  have HZ0 := Lib.hid hz0
  have HZ1 := Lib.hid hz1
  have HZ2 := Lib.hid hz2
  have HX := Lib.hid hx
  have HC := Lib.hid r4
  have HLN := Lib.hid hlen
  have HB := Lib.hid hb
  clear hr hx r3 r4 hb hlen hi hz0 hz1 hz2
  go_enter Try.func19, Try.ntmps19
  go_wp2_with fail
  go_loop [3, 11] (fun sv iv => ∃ (k : Nat), k ≤ ls.length ∧ iv = .int .i64 (k : Int) ∧ sv = .int .i64 ((ls.take k).flatten.length : Int)) (fun _ iv => ls.length - (intOf iv).toNat)
  case atStart => exact ⟨0, by omega, rfl, rfl⟩
  case round =>
    obtain ⟨k, hk, rfl, rfl⟩ := hrel
    have k0 : (0 : Int) ≤ (k : Int) := Int.natCast_nonneg _
    by_cases hlk : k < ls.length
    · have k1 : (k : Int) < (ls.length : Int) := by omega
      obtain ⟨b', off, rfl, hbs, hcell⟩ := HC.out (by intro e; have h := congrArg List.length e; rw [HLN.out] at h; simp only [List.length_nil] at h; omega)
      obtain ⟨xv, hxv⟩ : ∃ x, vals[k]? = some x := ⟨_, List.getElem?_eq_getElem (by rw [HLN.out]; exact hlk)⟩
      obtain ⟨lk, hlk2⟩ : ∃ x, ls[k]? = some x := ⟨_, List.getElem?_eq_getElem hlk⟩
      obtain ⟨ax, cx, hxx, _⟩ := HX.out k xv lk hxv hlk2
      rw [List.length_map] at hxx
      have hft := cat_succ ls k lk hlk2
      have hfl := cat_part ls (k + 1)
      rw [hft, List.length_append] at hfl
      have HFT : Hid ((ls.take (k + 1)).flatten.length = (ls.take k).flatten.length + lk.length) := Lib.hid (by rw [hft, List.length_append])
      have c0 : w.cell? ⟨b', off + k, none⟩ = some xv := by
        have h := hcell k (by rw [HLN.out]; exact hlk)
        rw [hxv] at h
        exact h
      subst hxx
      have hB := HB.out
      generalize (ls.take k).flatten.length = p at *
      have hpl : (p : Int) + (lk.length : Int) ≤ 1099511627776 := by omega
      have hp0 : (0 : Int) ≤ (p : Int) := Int.natCast_nonneg _
      have hl0 : (0 : Int) ≤ (lk.length : Int) := Int.natCast_nonneg _
      have hlk0 : (0 : Int) ≤ (p : Int) + (lk.length : Int) := by omega
      clear hcell hxv hlk2 hft hfl
      go_wp2_with fail
      go_round
      case rel =>
        refine ⟨k + 1, by omega, by go_num, ?_⟩
        rw [HFT.out]
        rfl
      case measure => simp [intOf]; omega
    · have hk2 : (ls.length : Int) ≤ (k : Int) := by omega
      obtain rfl : k = ls.length := by omega
      rw [cat_all]
      obtain ⟨N, hN⟩ : ∃ N, N = ls.flatten.length := ⟨_, rfl⟩
      have HNB : Hid (N ≤ 1099511627776) := Lib.hid (by rw [hN]; exact HB.out)
      rw [← hN]
      have n0 : (0 : Int) ≤ (N : Int) := Int.natCast_nonneg _
      clear hN
      go_wp2_with fail
      refine (stdGrow_nil N w HNB.out).mono ?_
      rintro e w1 ⟨x1, rfl, ho1, hb1⟩
      have HNIL := Lib.hid ho1
      have HE1 : Hid (Ext w w1) := Lib.hid hb1
      clear ho1 hb1
      go_wp2_with fail
      go_loopw [6, 27] (fun x iv wr => ∃ (k : Nat), k ≤ ls.length ∧ iv = .int .i64 (k : Int) ∧ wr.ownsRow w.heap.size 5 1 x (ls.take k).flatten.length ((ls.take k).flatten.map bval) ∧ Ext w wr) (fun _ iv _ => ls.length - (intOf iv).toNat)
      case atStart => exact ⟨0, by omega, rfl, HNIL.out, HE1.out⟩
      case round =>
        clear HNIL HE1
        obtain ⟨k, hk, rfl, ho, hE⟩ := hrel
        have k0 : (0 : Int) ≤ (k : Int) := Int.natCast_nonneg _
        have HO := Lib.hid ho
        have HE := Lib.hid hE
        have HS := Lib.hid hE.size
        clear ho hE
        by_cases hlk : k < ls.length
        · have k1 : (k : Int) < (ls.length : Int) := by omega
          obtain ⟨b', off, rfl, hbs, hcell⟩ := HC.out (by intro e; have h := congrArg List.length e; rw [HLN.out] at h; simp only [List.length_nil] at h; omega)
          obtain ⟨xv, hxv⟩ : ∃ x, vals[k]? = some x := ⟨_, List.getElem?_eq_getElem (by rw [HLN.out]; exact hlk)⟩
          obtain ⟨lk, hlk2⟩ : ∃ x, ls[k]? = some x := ⟨_, List.getElem?_eq_getElem hlk⟩
          have HXR := Lib.hid ((HX.out k xv lk hxv hlk2).below HE.out)
          have hft := cat_succ ls k lk hlk2
          have hfl := cat_part ls (k + 1)
          rw [hft, List.length_append] at hfl
          have HFT := Lib.hid hft
          have c0 : wr.cell? ⟨b', off + k, none⟩ = some xv := by
            have h := hcell k (by rw [HLN.out]; exact hlk)
            rw [hxv] at h
            rw [← h]
            exact HE.out.cell (p := ⟨b', off + k, none⟩) hbs
          have HFL : Hid ((ls.take k).flatten.length + (lk.map bval).length ≤ 1099511627776) := Lib.hid (by rw [List.length_map]; have := HB.out; omega)
          clear hcell hxv hlk2 hft hfl
          go_wp2_with (at_builtin; refine wpList_append_row rfl _ _ 26 rfl w.heap.size 5 i0 (.int .u8 0) 1 Try.underlying26 HI0.out HZ0.out HZ1.out HZ2.out rfl _ _ _ rfl HO.out rfl HXR.out (bval_one _) (by have := HFL.out; unfold maxLen; omega) (by have := HFL.out; omega) HS.out ?_; intro v3 w3 hown3 hgrow3)
          go_roundw
          case rel =>
            refine ⟨k + 1, by omega, by go_num, ?_, ext_own HE.out HO.out (Nat.le_refl _) hgrow3⟩
            rw [HFT.out, List.map_append, List.length_append]
            rw [List.length_map] at hown3
            exact hown3
          case measure => simp [intOf]; omega
        · have hk2 : (ls.length : Int) ≤ (k : Int) := by omega
          obtain rfl : k = ls.length := by omega
          rw [cat_all] at HO
          go_wp2_with fail
          go_ret
          exact ⟨_, rfl, HO.out, HE.out⟩

end Go.Proofs.Ytflefkmpllbeeaa

/- A product modulo 2^130 - 5 of two numbers of seventeen digits to the base 256. No program. Each theorem names its own conditions. -/
namespace Go.Proofs.Ytflefkmpllbeeaa
open Go.RowKit
set_option linter.unusedVariables false
set_option linter.unusedSimpArgs false

def sumI (f : Nat → Int) : Nat → Int
  | 0 => 0
  | n + 1 => sumI f n + f n
theorem sumI_congr {f g : Nat → Int} : ∀ n, (∀ i, i < n → f i = g i) → sumI f n = sumI g n
  | 0, _ => rfl
  | n + 1, h => by simp only [sumI, sumI_congr n (fun i hi => h i (by omega)), h n (by omega)]
theorem sumI_add (f g : Nat → Int) : ∀ n, sumI (fun i => f i + g i) n = sumI f n + sumI g n
  | 0 => rfl
  | n + 1 => by simp only [sumI, sumI_add f g n]; omega
theorem sumI_mul (c : Int) (f : Nat → Int) : ∀ n, sumI (fun i => c * f i) n = c * sumI f n
  | 0 => by simp [sumI]
  | n + 1 => by simp only [sumI, sumI_mul c f n, Int.mul_add]
theorem sumI_swap (f : Nat → Nat → Int) (m : Nat) : ∀ n, sumI (fun i => sumI (fun j => f i j) m) n = sumI (fun j => sumI (fun i => f i j) n) m
  | 0 => by
    have : ∀ m, sumI (fun _ => (0 : Int)) m = 0 := fun m => by induction m with
      | zero => rfl
      | succ m ih => simp only [sumI, ih]; rfl
    simp only [sumI]
    exact (this m).symm
  | n + 1 => by
    simp only [sumI]
    rw [sumI_swap f m n, ← sumI_add]
theorem gV_take_sum (B : Int) (zs : List Int) : ∀ n, n ≤ zs.length → gV B (zs.take n) = sumI (fun i => zs.getD i 0 * B ^ i) n
  | 0, _ => by simp [sumI, gV]
  | n + 1, h => by rw [gV_take_succ B zs n (by omega), gV_take_sum B zs n (by omega)]; rfl
theorem gV_sum (B : Int) (zs : List Int) : gV B zs = sumI (fun i => zs.getD i 0 * B ^ i) zs.length := by
  have := gV_take_sum B zs zs.length (Nat.le_refl _)
  rwa [List.take_length] at this

/-- What the digit j of the one is taken with, for the digit i of the product. -/
def tCo (r : List Int) (i j : Nat) : Int := if j ≤ i then r.getD (i - j) 0 else 320 * r.getD (i + 17 - j) 0
/-- The sum for the digit i, as far as j. -/
def tRun (h r : List Int) (i : Nat) : Nat → Int
  | 0 => 0
  | j + 1 => tRun h r i j + h.getD j 0 * tCo r i j
theorem tRun_sum (h r : List Int) (i : Nat) : ∀ n, tRun h r i n = sumI (fun j => h.getD j 0 * tCo r i j) n
  | 0 => rfl
  | n + 1 => by simp only [tRun, sumI, tRun_sum h r i n]
/-- The first k digits of the product. -/
def tList (h r : List Int) : Nat → List Int
  | 0 => List.replicate 17 0
  | k + 1 => (tList h r k).set k (tRun h r k 17)
theorem tList_length (h r : List Int) : ∀ k, (tList h r k).length = 17
  | 0 => by simp [tList]
  | k + 1 => by simp [tList, tList_length h r k]
theorem tList_getD (h r : List Int) : ∀ k, k ≤ 17 → ∀ i, (tList h r k).getD i 0 = if i < k then tRun h r i 17 else 0
  | 0, _, i => by
    rw [if_neg (by omega)]
    simp only [tList]
    rcases Nat.lt_or_ge i 17 with hi | hi
    · rw [getD_eq (by simp; exact hi), List.getElem_replicate]
    · exact getD_out (by simp; exact hi)
  | k + 1, hk, i => by
    rw [tList]
    by_cases e : i = k
    · subst e
      rw [getD_set_same (by rw [tList_length]; omega), if_pos (by omega)]
    · rw [getD_set_far (by omega), tList_getD h r k (by omega) i]
      by_cases h1 : i < k
      · rw [if_pos h1, if_pos (by omega)]
      · rw [if_neg h1, if_neg (by omega)]

/-- The digits that one digit of h is taken with are r, moved up by so many: 2^136 is 320. -/
theorem tCo_val (r : List Int) (j : Nat) (hj : j < 17) : ∃ q, sumI (fun i => tCo r i j * 256 ^ i) 17 = 256 ^ j * sumI (fun k => r.getD k 0 * 256 ^ k) 17 + (pQ : Int) * q := by
  unfold pQ
  rcases (by omega : j = 0 ∨ j = 1 ∨ j = 2 ∨ j = 3 ∨ j = 4 ∨ j = 5 ∨ j = 6 ∨ j = 7 ∨ j = 8 ∨ j = 9 ∨ j = 10 ∨ j = 11 ∨ j = 12 ∨ j = 13 ∨ j = 14 ∨ j = 15 ∨ j = 16) with rfl | rfl | rfl | rfl | rfl | rfl | rfl | rfl | rfl | rfl | rfl | rfl | rfl | rfl | rfl | rfl | rfl
  · exact ⟨0, by simp only [sumI, tCo, Nat.reduceLeDiff, Nat.reduceSub, Nat.reduceAdd, if_true, if_false, reduceIte, Nat.reducePow, Int.reducePow]; omega⟩
  · exact ⟨-(64 * (r.getD 16 0 * 1)), by simp only [sumI, tCo, Nat.reduceLeDiff, Nat.reduceSub, Nat.reduceAdd, if_true, if_false, reduceIte, Nat.reducePow, Int.reducePow]; omega⟩
  · exact ⟨-(64 * (r.getD 15 0 * 1 + r.getD 16 0 * 256)), by simp only [sumI, tCo, Nat.reduceLeDiff, Nat.reduceSub, Nat.reduceAdd, if_true, if_false, reduceIte, Nat.reducePow, Int.reducePow]; omega⟩
  · exact ⟨-(64 * (r.getD 14 0 * 1 + r.getD 15 0 * 256 + r.getD 16 0 * 65536)), by simp only [sumI, tCo, Nat.reduceLeDiff, Nat.reduceSub, Nat.reduceAdd, if_true, if_false, reduceIte, Nat.reducePow, Int.reducePow]; omega⟩
  · exact ⟨-(64 * (r.getD 13 0 * 1 + r.getD 14 0 * 256 + r.getD 15 0 * 65536 + r.getD 16 0 * 16777216)), by simp only [sumI, tCo, Nat.reduceLeDiff, Nat.reduceSub, Nat.reduceAdd, if_true, if_false, reduceIte, Nat.reducePow, Int.reducePow]; omega⟩
  · exact ⟨-(64 * (r.getD 12 0 * 1 + r.getD 13 0 * 256 + r.getD 14 0 * 65536 + r.getD 15 0 * 16777216 + r.getD 16 0 * 4294967296)), by simp only [sumI, tCo, Nat.reduceLeDiff, Nat.reduceSub, Nat.reduceAdd, if_true, if_false, reduceIte, Nat.reducePow, Int.reducePow]; omega⟩
  · exact ⟨-(64 * (r.getD 11 0 * 1 + r.getD 12 0 * 256 + r.getD 13 0 * 65536 + r.getD 14 0 * 16777216 + r.getD 15 0 * 4294967296 + r.getD 16 0 * 1099511627776)), by simp only [sumI, tCo, Nat.reduceLeDiff, Nat.reduceSub, Nat.reduceAdd, if_true, if_false, reduceIte, Nat.reducePow, Int.reducePow]; omega⟩
  · exact ⟨-(64 * (r.getD 10 0 * 1 + r.getD 11 0 * 256 + r.getD 12 0 * 65536 + r.getD 13 0 * 16777216 + r.getD 14 0 * 4294967296 + r.getD 15 0 * 1099511627776 + r.getD 16 0 * 281474976710656)), by simp only [sumI, tCo, Nat.reduceLeDiff, Nat.reduceSub, Nat.reduceAdd, if_true, if_false, reduceIte, Nat.reducePow, Int.reducePow]; omega⟩
  · exact ⟨-(64 * (r.getD 9 0 * 1 + r.getD 10 0 * 256 + r.getD 11 0 * 65536 + r.getD 12 0 * 16777216 + r.getD 13 0 * 4294967296 + r.getD 14 0 * 1099511627776 + r.getD 15 0 * 281474976710656 + r.getD 16 0 * 72057594037927936)), by simp only [sumI, tCo, Nat.reduceLeDiff, Nat.reduceSub, Nat.reduceAdd, if_true, if_false, reduceIte, Nat.reducePow, Int.reducePow]; omega⟩
  · exact ⟨-(64 * (r.getD 8 0 * 1 + r.getD 9 0 * 256 + r.getD 10 0 * 65536 + r.getD 11 0 * 16777216 + r.getD 12 0 * 4294967296 + r.getD 13 0 * 1099511627776 + r.getD 14 0 * 281474976710656 + r.getD 15 0 * 72057594037927936 + r.getD 16 0 * 18446744073709551616)), by simp only [sumI, tCo, Nat.reduceLeDiff, Nat.reduceSub, Nat.reduceAdd, if_true, if_false, reduceIte, Nat.reducePow, Int.reducePow]; omega⟩
  · exact ⟨-(64 * (r.getD 7 0 * 1 + r.getD 8 0 * 256 + r.getD 9 0 * 65536 + r.getD 10 0 * 16777216 + r.getD 11 0 * 4294967296 + r.getD 12 0 * 1099511627776 + r.getD 13 0 * 281474976710656 + r.getD 14 0 * 72057594037927936 + r.getD 15 0 * 18446744073709551616 + r.getD 16 0 * 4722366482869645213696)), by simp only [sumI, tCo, Nat.reduceLeDiff, Nat.reduceSub, Nat.reduceAdd, if_true, if_false, reduceIte, Nat.reducePow, Int.reducePow]; omega⟩
  · exact ⟨-(64 * (r.getD 6 0 * 1 + r.getD 7 0 * 256 + r.getD 8 0 * 65536 + r.getD 9 0 * 16777216 + r.getD 10 0 * 4294967296 + r.getD 11 0 * 1099511627776 + r.getD 12 0 * 281474976710656 + r.getD 13 0 * 72057594037927936 + r.getD 14 0 * 18446744073709551616 + r.getD 15 0 * 4722366482869645213696 + r.getD 16 0 * 1208925819614629174706176)), by simp only [sumI, tCo, Nat.reduceLeDiff, Nat.reduceSub, Nat.reduceAdd, if_true, if_false, reduceIte, Nat.reducePow, Int.reducePow]; omega⟩
  · exact ⟨-(64 * (r.getD 5 0 * 1 + r.getD 6 0 * 256 + r.getD 7 0 * 65536 + r.getD 8 0 * 16777216 + r.getD 9 0 * 4294967296 + r.getD 10 0 * 1099511627776 + r.getD 11 0 * 281474976710656 + r.getD 12 0 * 72057594037927936 + r.getD 13 0 * 18446744073709551616 + r.getD 14 0 * 4722366482869645213696 + r.getD 15 0 * 1208925819614629174706176 + r.getD 16 0 * 309485009821345068724781056)), by simp only [sumI, tCo, Nat.reduceLeDiff, Nat.reduceSub, Nat.reduceAdd, if_true, if_false, reduceIte, Nat.reducePow, Int.reducePow]; omega⟩
  · exact ⟨-(64 * (r.getD 4 0 * 1 + r.getD 5 0 * 256 + r.getD 6 0 * 65536 + r.getD 7 0 * 16777216 + r.getD 8 0 * 4294967296 + r.getD 9 0 * 1099511627776 + r.getD 10 0 * 281474976710656 + r.getD 11 0 * 72057594037927936 + r.getD 12 0 * 18446744073709551616 + r.getD 13 0 * 4722366482869645213696 + r.getD 14 0 * 1208925819614629174706176 + r.getD 15 0 * 309485009821345068724781056 + r.getD 16 0 * 79228162514264337593543950336)), by simp only [sumI, tCo, Nat.reduceLeDiff, Nat.reduceSub, Nat.reduceAdd, if_true, if_false, reduceIte, Nat.reducePow, Int.reducePow]; omega⟩
  · exact ⟨-(64 * (r.getD 3 0 * 1 + r.getD 4 0 * 256 + r.getD 5 0 * 65536 + r.getD 6 0 * 16777216 + r.getD 7 0 * 4294967296 + r.getD 8 0 * 1099511627776 + r.getD 9 0 * 281474976710656 + r.getD 10 0 * 72057594037927936 + r.getD 11 0 * 18446744073709551616 + r.getD 12 0 * 4722366482869645213696 + r.getD 13 0 * 1208925819614629174706176 + r.getD 14 0 * 309485009821345068724781056 + r.getD 15 0 * 79228162514264337593543950336 + r.getD 16 0 * 20282409603651670423947251286016)), by simp only [sumI, tCo, Nat.reduceLeDiff, Nat.reduceSub, Nat.reduceAdd, if_true, if_false, reduceIte, Nat.reducePow, Int.reducePow]; omega⟩
  · exact ⟨-(64 * (r.getD 2 0 * 1 + r.getD 3 0 * 256 + r.getD 4 0 * 65536 + r.getD 5 0 * 16777216 + r.getD 6 0 * 4294967296 + r.getD 7 0 * 1099511627776 + r.getD 8 0 * 281474976710656 + r.getD 9 0 * 72057594037927936 + r.getD 10 0 * 18446744073709551616 + r.getD 11 0 * 4722366482869645213696 + r.getD 12 0 * 1208925819614629174706176 + r.getD 13 0 * 309485009821345068724781056 + r.getD 14 0 * 79228162514264337593543950336 + r.getD 15 0 * 20282409603651670423947251286016 + r.getD 16 0 * 5192296858534827628530496329220096)), by simp only [sumI, tCo, Nat.reduceLeDiff, Nat.reduceSub, Nat.reduceAdd, if_true, if_false, reduceIte, Nat.reducePow, Int.reducePow]; omega⟩
  · exact ⟨-(64 * (r.getD 1 0 * 1 + r.getD 2 0 * 256 + r.getD 3 0 * 65536 + r.getD 4 0 * 16777216 + r.getD 5 0 * 4294967296 + r.getD 6 0 * 1099511627776 + r.getD 7 0 * 281474976710656 + r.getD 8 0 * 72057594037927936 + r.getD 9 0 * 18446744073709551616 + r.getD 10 0 * 4722366482869645213696 + r.getD 11 0 * 1208925819614629174706176 + r.getD 12 0 * 309485009821345068724781056 + r.getD 13 0 * 79228162514264337593543950336 + r.getD 14 0 * 20282409603651670423947251286016 + r.getD 15 0 * 5192296858534827628530496329220096 + r.getD 16 0 * 1329227995784915872903807060280344576)), by simp only [sumI, tCo, Nat.reduceLeDiff, Nat.reduceSub, Nat.reduceAdd, if_true, if_false, reduceIte, Nat.reducePow, Int.reducePow]; omega⟩
theorem sumI_part (r h : List Int) : ∀ n, n ≤ 17 → ∃ q, sumI (fun j => h.getD j 0 * sumI (fun i => tCo r i j * 256 ^ i) 17) n = sumI (fun j => h.getD j 0 * 256 ^ j) n * sumI (fun k => r.getD k 0 * 256 ^ k) 17 + (pQ : Int) * q
  | 0, _ => ⟨0, by simp [sumI]⟩
  | n + 1, hn => by
    obtain ⟨q, hq⟩ := sumI_part r h n (by omega)
    obtain ⟨q2, hq2⟩ := tCo_val r n (by omega)
    refine ⟨q + h.getD n 0 * q2, ?_⟩
    simp only [sumI] at hq hq2 ⊢
    rw [hq, hq2]
    grind
/-- The product of both numbers, modulo 2^130 - 5. -/
theorem tList_val {h r : List Int} (hh : h.length = 17) (hr : r.length = 17) : gV 256 (tList h r 17) % (pQ : Int) = gV 256 h * gV 256 r % (pQ : Int) := by
  have e1 : gV 256 (tList h r 17) = sumI (fun i => sumI (fun j => h.getD j 0 * (tCo r i j * 256 ^ i)) 17) 17 := by
    rw [gV_sum, tList_length]
    refine sumI_congr 17 (fun i hi => ?_)
    rw [tList_getD h r 17 (Nat.le_refl _) i, if_pos hi, tRun_sum, Int.mul_comm, ← sumI_mul]
    refine sumI_congr 17 (fun j hj => ?_)
    rw [Int.mul_comm, Int.mul_assoc]
  rw [sumI_swap] at e1
  have e2 : gV 256 (tList h r 17) = sumI (fun j => h.getD j 0 * sumI (fun i => tCo r i j * 256 ^ i) 17) 17 := by
    rw [e1]
    refine sumI_congr 17 (fun j hj => ?_)
    rw [sumI_mul]
  obtain ⟨q, hq⟩ := sumI_part r h 17 (Nat.le_refl _)
  have g1 := gV_sum 256 h
  have g2 := gV_sum 256 r
  rw [hh] at g1
  rw [hr] at g2
  rw [e2, hq, ← g1, ← g2, Int.add_mul_emod_self_left]

/-- Bounds of the sums. -/
theorem tRun_bound {h r : List Int} (hh : ∀ i, 0 ≤ h.getD i 0 ∧ h.getD i 0 ≤ 1024) (hr : ∀ i, 0 ≤ r.getD i 0 ∧ r.getD i 0 ≤ 255) (i : Nat) : ∀ j, 0 ≤ tRun h r i j ∧ tRun h r i j ≤ 83558400 * j
  | 0 => by simp [tRun]
  | j + 1 => by
    obtain ⟨b1, b2⟩ := tRun_bound hh hr i j
    have h1 := hh j
    have h2 : 0 ≤ tCo r i j ∧ tCo r i j ≤ 81600 := by
      unfold tCo
      split
      · have := hr (i - j)
        omega
      · have := hr (i + 17 - j)
        omega
    have h3 : 0 ≤ h.getD j 0 * tCo r i j := Int.mul_nonneg h1.1 h2.1
    have h4 : h.getD j 0 * tCo r i j ≤ 1024 * 81600 := Int.mul_le_mul h1.2 h2.2 h2.1 (by omega)
    rw [tRun]
    constructor <;> omega

/-- A number from 0 to 2^130 - 6, of one below 2^130. -/
def wRun (h : List Int) : Nat → List Int × Int
  | 0 => (h, 5)
  | i + 1 => ((wRun h i).1.set i (((wRun h i).2 + (wRun h i).1.getD i 0) % 256), ((wRun h i).2 + (wRun h i).1.getD i 0) / 256)
theorem wRun_length (h : List Int) : ∀ i, (wRun h i).1.length = h.length
  | 0 => rfl
  | i + 1 => by simp [wRun, wRun_length h i]
theorem wRun_far (h : List Int) : ∀ i j, i ≤ j → (wRun h i).1.getD j 0 = h.getD j 0
  | 0, _, _ => rfl
  | i + 1, j, hj => by
    rw [wRun, getD_set_far (by omega), wRun_far h i j (by omega)]
theorem wRun_small (h : List Int) (hl : h.length = 17) : ∀ i, i ≤ 17 → ∀ j, j < i → 0 ≤ (wRun h i).1.getD j 0 ∧ (wRun h i).1.getD j 0 < 256
  | 0, _, j, hj => by omega
  | i + 1, hi, j, hj => by
    rw [wRun]
    by_cases e : j = i
    · subst e
      rw [getD_set_same (by rw [wRun_length]; omega)]
      omega
    · rw [getD_set_far (by omega)]
      exact wRun_small h hl i (by omega) j (by omega)
theorem wRun_val (h : List Int) (hl : h.length = 17) : ∀ i, i ≤ 17 → gV 256 (wRun h i).1 + (wRun h i).2 * 256 ^ i = gV 256 h + 5
  | 0, _ => by simp [wRun]
  | i + 1, hi => by
    have ih := wRun_val h hl i (by omega)
    rw [wRun, gV_set _ _ _ _ (by rw [wRun_length]; omega), ← ih, Int.pow_succ]
    generalize (wRun h i).2 = u
    generalize (wRun h i).1.getD i 0 = z
    generalize gV 256 (wRun h i).1 = V
    generalize hB : (256 : Int) ^ i = B
    have e : (u + z) = 256 * ((u + z) / 256) + (u + z) % 256 := (Int.mul_ediv_add_emod _ _).symm
    generalize (u + z) / 256 = q at *
    generalize (u + z) % 256 = r at *
    have : u = 256 * q + r - z := by omega
    subst this
    grind
theorem wRun_u (h : List Int) (hc : ∀ i, 0 ≤ h.getD i 0 ∧ h.getD i 0 < 256) : ∀ i, 0 ≤ (wRun h i).2 ∧ (wRun h i).2 ≤ 5
  | 0 => by simp [wRun]
  | i + 1 => by
    have ih := wRun_u h hc i
    have := hc i
    rw [wRun, wRun_far h i i (Nat.le_refl _)]
    show 0 ≤ ((wRun h i).2 + h.getD i 0) / 256 ∧ ((wRun h i).2 + h.getD i 0) / 256 ≤ 5
    omega
theorem Can17.digit {h : List Int} (hc : Can17 h) (i : Nat) : 0 ≤ h.getD i 0 ∧ h.getD i 0 < 256 := by
  obtain ⟨hl, h1, h2⟩ := hc
  rcases Nat.lt_or_ge i 16 with hi | hi
  · exact h1 i hi
  · rcases Nat.lt_or_ge i 17 with hi2 | hi2
    · have : i = 16 := by omega
      subst this
      omega
    · rw [getD_out (by omega)]
      omega
theorem Can17.range {h : List Int} (hc : Can17 h) : 0 ≤ gV 256 h ∧ gV 256 h < two130 := by
  have hd := digits16 hc.1 hc.2.1
  have h17 := gV_17 hc.1
  have := hc.2.2
  unfold two130
  omega
/-- What is taken for the whole number. -/
def wOut (h : List Int) : List Int := if 4 ≤ (wRun h 17).1.getD 16 0 then (wRun h 17).1.set 16 ((wRun h 17).1.getD 16 0 - 4) else h
theorem wOut_val {h : List Int} (hc : Can17 h) : (wOut h).length = 17 ∧ (∀ i, i < 17 → 0 ≤ (wOut h).getD i 0 ∧ (wOut h).getD i 0 < 256) ∧ gV 256 (wOut h) = gV 256 h % (pQ : Int) := by
  have hl := hc.1
  have hr := hc.range
  have hlen : (wRun h 17).1.length = 17 := by rw [wRun_length, hl]
  have hs := wRun_small h hl 17 (Nat.le_refl _)
  have hv := wRun_val h hl 17 (Nat.le_refl _)
  have hu := wRun_u h hc.digit 17
  have hg := gV_range (B := 256) (by omega) (zs := (wRun h 17).1) (fun i hi => hs i (by omega))
  have hd := digits16 hlen (fun j hj => hs j (by omega))
  have h17 := gV_17 hlen
  have p17 : (256 : Int) ^ 17 = 87112285931760246646623899502532662132736 := by decide +kernel
  rw [p17] at hv
  have hs16 := hs 16 (by omega)
  unfold two130 at hr
  unfold wOut pQ
  by_cases h4 : 4 ≤ (wRun h 17).1.getD 16 0
  · rw [if_pos h4]
    refine ⟨by simp [hlen], fun i hi => ?_, ?_⟩
    · by_cases e : i = 16
      · subst e
        rw [getD_set_same (by omega)]
        omega
      · rw [getD_set_far (by omega)]
        exact hs i hi
    · rw [gV_set _ _ _ _ (by omega), pow_16]
      generalize gV 256 (wRun h 17).1 = W at *
      generalize gV 256 h = V at *
      generalize (wRun h 17).2 = u at *
      generalize (wRun h 17).1.getD 16 0 = z at *
      generalize gV 256 ((wRun h 17).1.take 16) = D at *
      clear hs hg p17 hlen
      have u0 : u = 0 := by omega
      subst u0
      have z4 : z = 4 := by omega
      subst z4
      have ev : V % 1361129467683753853853498429727072845819 = V - 1361129467683753853853498429727072845819 := by
        rw [← Int.sub_emod_right, Int.emod_eq_of_lt (by omega) (by omega)]
      show W + (4 - 4 - 4) * 340282366920938463463374607431768211456 = V % 1361129467683753853853498429727072845819
      rw [ev]
      omega
  · rw [if_neg h4]
    refine ⟨hl, fun i hi => hc.digit i, ?_⟩
    generalize gV 256 (wRun h 17).1 = W at *
    generalize gV 256 h = V at *
    generalize (wRun h 17).2 = u at *
    generalize (wRun h 17).1.getD 16 0 = z at *
    generalize gV 256 ((wRun h 17).1.take 16) = D at *
    clear hs hg p17 hlen
    omega

end Go.Proofs.Ytflefkmpllbeeaa

/- What the document's own Poly makes of its digits: the key's, a block's, their sum, the tag's bytes. No program. Each theorem names its own conditions. -/
namespace Go.Proofs.Ytflefkmpllbeeaa
open Go.RowKit
set_option linter.unusedVariables false
set_option linter.unusedSimpArgs false

theorem gV_le {M : Int} (hM : 0 ≤ M) : ∀ {zs : List Int}, (∀ i, 0 ≤ zs.getD i 0 ∧ zs.getD i 0 ≤ M) → 255 * gV 256 zs + M ≤ M * 256 ^ zs.length
  | [], _ => by simp [gV]
  | z :: r, h => by
    have h0 := h 0
    simp only [List.getD_cons_zero] at h0
    have ih := gV_le hM (zs := r) (fun i => by have := h (i + 1); simpa using this)
    simp only [gV, List.length_cons, Int.pow_succ]
    generalize gV 256 r = V at *
    generalize hB : (256 : Int) ^ r.length = B at *
    have e : M * (B * 256) = 256 * (M * B) := by rw [← Int.mul_assoc, Int.mul_comm]
    rw [e]
    generalize M * B = X at *
    omega
theorem gV_nonneg : ∀ {zs : List Int}, (∀ i, 0 ≤ zs.getD i 0) → 0 ≤ gV 256 zs
  | [], _ => Int.le_refl _
  | z :: r, h => by
    have h0 := h 0
    simp only [List.getD_cons_zero] at h0
    have ih := gV_nonneg (zs := r) (fun i => by have := h (i + 1); simpa using this)
    simp only [gV]
    omega
/-- A product, carried. -/
theorem mul17 {h r : List Int} (hl : h.length = 17) (rl : r.length = 17) (hh : ∀ i, 0 ≤ h.getD i 0 ∧ h.getD i 0 ≤ 1024) (hr : ∀ i, 0 ≤ r.getD i 0 ∧ r.getD i 0 ≤ 255) :
    Can17 (qThree (tList h r 17)) ∧ gV 256 (qThree (tList h r 17)) % (pQ : Int) = gV 256 h * gV 256 r % (pQ : Int) := by
  have hle : ∀ i, 0 ≤ (tList h r 17).getD i 0 ∧ (tList h r 17).getD i 0 ≤ 1420492800 := fun i => by
    rw [tList_getD h r 17 (Nat.le_refl _)]
    split
    · have := tRun_bound hh hr i 17
      omega
    · omega
  have hlen := tList_length h r 17
  have hb := gV_le (by omega) hle
  rw [hlen, show (256 : Int) ^ 17 = 87112285931760246646623899502532662132736 from by decide +kernel] at hb
  have hq := qThree_val (tList h r 17) hlen (fun i => (hle i).1) (by omega)
  exact ⟨hq.1, hq.2.trans (tList_val hl rl)⟩

/-- The key's digits, as they are laid. -/
def rA (key : List UInt8) : Nat → List Int
  | 0 => List.replicate 17 0
  | k + 1 => (rA key k).set k ((key.getD k 0).toNat : Int)
def rB (key : List UInt8) : Nat → List Int
  | 0 => rA key 16
  | k + 1 => (rB key k).set (3 + 4 * k) ((rB key k).getD (3 + 4 * k) 0 % 16)
def rC (key : List UInt8) : Nat → List Int
  | 0 => rB key 4
  | k + 1 => (rC key k).set (4 + 4 * k) ((rC key k).getD (4 + 4 * k) 0 / 4 * 4)
theorem rA_length (key : List UInt8) : ∀ k, (rA key k).length = 17
  | 0 => by simp [rA]
  | k + 1 => by rw [rA, List.length_set, rA_length key k]
theorem rB_length (key : List UInt8) : ∀ k, (rB key k).length = 17
  | 0 => rA_length key 16
  | k + 1 => by rw [rB, List.length_set, rB_length key k]
theorem rC_length (key : List UInt8) : ∀ k, (rC key k).length = 17
  | 0 => rB_length key 4
  | k + 1 => by rw [rC, List.length_set, rC_length key k]
theorem rA_digit (key : List UInt8) : ∀ k i, 0 ≤ (rA key k).getD i 0 ∧ (rA key k).getD i 0 ≤ 255
  | 0, i => by
    rcases Nat.lt_or_ge i 17 with hi | hi
    · rw [rA, getD_eq (by simp; exact hi), List.getElem_replicate]
      omega
    · rw [getD_out (by simp [rA]; exact hi)]
      omega
  | k + 1, i => by
    rw [rA]
    by_cases e : i = k
    · subst e
      rcases Nat.lt_or_ge i 17 with hi | hi
      · rw [getD_set_same (by rw [rA_length]; exact hi)]
        have := (key.getD i 0).toNat_lt
        omega
      · rw [getD_out (by rw [List.length_set, rA_length]; exact hi)]
        omega
    · rw [getD_set_far (by omega)]
      exact rA_digit key k i
theorem rB_digit (key : List UInt8) : ∀ k i, k ≤ 4 → 0 ≤ (rB key k).getD i 0 ∧ (rB key k).getD i 0 ≤ 255
  | 0, i, _ => rA_digit key 16 i
  | k + 1, i, hk => by
    rw [rB]
    have ih := rB_digit key k
    by_cases e : i = 3 + 4 * k
    · subst e
      rw [getD_set_same (by rw [rB_length]; omega)]
      have := ih (3 + 4 * k) (by omega)
      omega
    · rw [getD_set_far (by omega)]
      exact ih i (by omega)
theorem rC_digit (key : List UInt8) : ∀ k i, k ≤ 3 → 0 ≤ (rC key k).getD i 0 ∧ (rC key k).getD i 0 ≤ 255
  | 0, i, _ => rB_digit key 4 i (by omega)
  | k + 1, i, hk => by
    rw [rC]
    have ih := rC_digit key k
    by_cases e : i = 4 + 4 * k
    · subst e
      rw [getD_set_same (by rw [rC_length]; omega)]
      have := ih (4 + 4 * k) (by omega)
      omega
    · rw [getD_set_far (by omega)]
      exact ih i (by omega)
theorem rA_getD (key : List UInt8) : ∀ k, k ≤ 17 → ∀ i, (rA key k).getD i 0 = if i < k then ((key.getD i 0).toNat : Int) else 0
  | 0, _, i => by
    rw [if_neg (by omega)]
    rcases Nat.lt_or_ge i 17 with hi | hi
    · rw [rA, getD_eq (by simp; exact hi), List.getElem_replicate]
    · rw [getD_out (by simp [rA]; exact hi)]
  | k + 1, hk, i => by
    rw [rA]
    by_cases e : i = k
    · subst e
      rw [getD_set_same (by rw [rA_length]; omega), if_pos (by omega)]
    · rw [getD_set_far (by omega), rA_getD key k (by omega) i]
      by_cases h : i < k
      · rw [if_pos h, if_pos (by omega)]
      · rw [if_neg h, if_neg (by omega)]
theorem rB_getD (key : List UInt8) : ∀ k, k ≤ 4 → ∀ i, (rB key k).getD i 0 = if i % 4 = 3 ∧ i < 3 + 4 * k then (rA key 16).getD i 0 % 16 else (rA key 16).getD i 0
  | 0, _, i => by rw [if_neg (by omega)]; rfl
  | k + 1, hk, i => by
    rw [rB]
    by_cases e : i = 3 + 4 * k
    · subst e
      rw [getD_set_same (by rw [rB_length]; omega), rB_getD key k (by omega), if_neg (by omega), if_pos (by omega)]
    · rw [getD_set_far (by omega), rB_getD key k (by omega) i]
      by_cases h : i % 4 = 3 ∧ i < 3 + 4 * k
      · rw [if_pos h, if_pos (by omega)]
      · rw [if_neg h, if_neg (by omega)]
theorem rC_getD (key : List UInt8) : ∀ k, k ≤ 3 → ∀ i, (rC key k).getD i 0 = if i % 4 = 0 ∧ 4 ≤ i ∧ i < 4 + 4 * k then (rB key 4).getD i 0 / 4 * 4 else (rB key 4).getD i 0
  | 0, _, i => by rw [if_neg (by omega)]; rfl
  | k + 1, hk, i => by
    rw [rC]
    by_cases e : i = 4 + 4 * k
    · subst e
      rw [getD_set_same (by rw [rC_length]; omega), rC_getD key k (by omega), if_neg (by omega), if_pos (by omega)]
    · rw [getD_set_far (by omega), rC_getD key k (by omega) i]
      by_cases h : i % 4 = 0 ∧ 4 ≤ i ∧ i < 4 + 4 * k
      · rw [if_pos h, if_pos (by omega)]
      · rw [if_neg h, if_neg (by omega)]
theorem pDigits_length (key : List UInt8) : (pDigits key).length = 16 := by simp [pDigits]
theorem pDigits_getD (key : List UInt8) {i : Nat} (h : i < 16) : (pDigits key).getD i 0 = (pDigit key i : Int) := by
  simp [pDigits, List.getD, h]
theorem rC_full (key : List UInt8) : rC key 3 = pDigits key ++ [0] := by
  apply ext_getD (by rw [rC_length, List.length_append, pDigits_length]; rfl)
  intro i hi
  rw [rC_length] at hi
  rw [rC_getD key 3 (by omega), rB_getD key 4 (by omega), rA_getD key 16 (by omega)]
  rcases Nat.lt_or_ge i 16 with h | h
  · have e : (pDigits key ++ [0]).getD i 0 = (pDigit key i : Int) := by
      rw [← pDigits_getD key h]
      simp [List.getD, List.getElem?_append_left (show i < (pDigits key).length by rw [pDigits_length]; exact h)]
    rw [e, if_pos h]
    unfold pDigit
    generalize (key.getD i 0).toNat = x
    by_cases h3 : i % 4 = 3
    · rw [if_neg (by omega), if_pos (by omega), if_pos (by omega)]
      omega
    · by_cases h0 : i % 4 = 0 ∧ 4 ≤ i
      · rw [if_pos (by omega), if_neg (by omega), if_neg (by omega), if_pos (by omega)]
        omega
      · rw [if_neg (by omega), if_neg (by omega), if_neg (by omega), if_neg (by omega)]
  · have h16 : i = 16 := by omega
    subst h16
    rw [if_neg (by omega), if_neg (by omega), if_neg (by omega)]
    simp [List.getD, pDigits_length]
theorem rC_val (key : List UInt8) : gV 256 (rC key 3) = pR key := by
  rw [rC_full, gV_append]
  simp [gV, pR]

/-- A block's digits: the bytes as far as i; then a 1 behind. -/
def cA (b : List UInt8) (n : Nat) : Nat → List Int
  | 0 => List.replicate 17 0
  | i + 1 => (cA b n i).set i ((b.getD (16 * n + i) 0).toNat : Int)
theorem cA_length (b : List UInt8) (n : Nat) : ∀ k, (cA b n k).length = 17
  | 0 => by simp [cA]
  | k + 1 => by rw [cA, List.length_set, cA_length b n k]
theorem cA_getD (b : List UInt8) (n : Nat) : ∀ k, k ≤ 17 → ∀ i, (cA b n k).getD i 0 = if i < k then ((b.getD (16 * n + i) 0).toNat : Int) else 0
  | 0, _, i => by
    rw [if_neg (by omega)]
    rcases Nat.lt_or_ge i 17 with hi | hi
    · rw [cA, getD_eq (by simp; exact hi), List.getElem_replicate]
    · rw [getD_out (by simp [cA]; exact hi)]
  | k + 1, hk, i => by
    rw [cA]
    by_cases e : i = k
    · subst e
      rw [getD_set_same (by rw [cA_length]; omega), if_pos (by omega)]
    · rw [getD_set_far (by omega), cA_getD b n k (by omega) i]
      by_cases h : i < k
      · rw [if_pos h, if_pos (by omega)]
      · rw [if_neg h, if_neg (by omega)]
theorem gV_cA (b : List UInt8) (n : Nat) : ∀ k, k ≤ 16 → 16 * n + k ≤ b.length → gV 256 (cA b n k) = ((leN ((b.drop (16 * n)).take k) : Nat) : Int)
  | 0, _, _ => by
    rw [cA, gV_zeros]
    simp [leN]
  | k + 1, hk, hb => by
    rw [cA, gV_set _ _ _ _ (by rw [cA_length]; omega), gV_cA b n k (by omega) (by omega), cA_getD b n k (by omega) k, if_neg (by omega)]
    have e : (b.drop (16 * n)).take (k + 1) = (b.drop (16 * n)).take k ++ [b.getD (16 * n + k) 0] := by
      rw [List.take_succ_eq_append_getElem (by rw [List.length_drop]; omega)]
      congr 2
      rw [List.getElem_drop]
      simp [List.getD, show 16 * n + k < b.length by omega]
    rw [e, ← gV_bytes, ← gV_bytes, List.map_append, gV_append]
    have e2 : (((b.drop (16 * n)).take k).map fun b => (b.toNat : Int)).length = k := by
      rw [List.length_map, List.length_take, List.length_drop]
      omega
    rw [e2]
    simp only [List.map_cons, List.map_nil, gV]
    generalize (256 : Int) ^ k = B
    generalize ((b.getD (16 * n + k) 0).toNat : Int) = z
    rw [Int.sub_zero, Int.mul_zero, Int.add_zero, Int.mul_comm]
/-- With the 1 behind, it is the block's number. -/
theorem gV_blk (b : List UInt8) (n : Nat) (hb : 16 * n < b.length) : gV 256 ((cA b n (min 16 (b.length - 16 * n))).set (min 16 (b.length - 16 * n)) 1) = pBlk b n := by
  have h16 : min 16 (b.length - 16 * n) ≤ 16 := by omega
  rw [gV_set _ _ _ _ (by rw [cA_length]; omega), gV_cA b n _ h16 (by omega), cA_getD b n _ (by omega) _, if_neg (by omega)]
  unfold pBlk
  have e : (b.drop (16 * n)).take (min 16 (b.length - 16 * n)) = (b.drop (16 * n)).take 16 := by
    rcases Nat.lt_or_ge (b.length - 16 * n) 16 with h | h
    · rw [Nat.min_eq_right (by omega), List.take_of_length_le (by rw [List.length_drop]; omega), List.take_of_length_le (by rw [List.length_drop]; omega)]
    · rw [Nat.min_eq_left h]
  rw [e]
  generalize (256 : Int) ^ (min 16 (b.length - 16 * n)) = B
  omega
theorem blk_digit (b : List UInt8) (n m : Nat) (hm : m ≤ 16) (i : Nat) : 0 ≤ ((cA b n m).set m 1).getD i 0 ∧ ((cA b n m).set m 1).getD i 0 ≤ 255 := by
  by_cases e : i = m
  · subst e
    rw [getD_set_same (by rw [cA_length]; omega)]
    omega
  · rw [getD_set_far (by omega), cA_getD b n m (by omega)]
    split
    · have := (b.getD (16 * n + i) 0).toNat_lt
      omega
    · omega

/-- A sum, digit by digit. -/
def sA (h c : List Int) : Nat → List Int
  | 0 => h
  | i + 1 => (sA h c i).set i ((sA h c i).getD i 0 + c.getD i 0)
theorem sA_length (h c : List Int) : ∀ k, (sA h c k).length = h.length
  | 0 => rfl
  | k + 1 => by rw [sA, List.length_set, sA_length h c k]
theorem sA_far (h c : List Int) : ∀ k j, k ≤ j → (sA h c k).getD j 0 = h.getD j 0
  | 0, _, _ => rfl
  | k + 1, j, hj => by rw [sA, getD_set_far (by omega), sA_far h c k j (by omega)]
theorem sA_val (h c : List Int) (hl : h.length = c.length) : ∀ k, k ≤ c.length → gV 256 (sA h c k) = gV 256 h + gV 256 (c.take k)
  | 0, _ => by simp [sA, gV]
  | k + 1, hk => by
    rw [sA, gV_set _ _ _ _ (by rw [sA_length]; omega), sA_val h c hl k (by omega), gV_take_succ 256 c k (by omega)]
    have : (sA h c k).getD k 0 + c.getD k 0 - (sA h c k).getD k 0 = c.getD k 0 := by omega
    rw [this]
    omega
theorem sA_full (h c : List Int) (hl : h.length = 17) (cl : c.length = 17) : gV 256 (sA h c 17) = gV 256 h + gV 256 c := by
  rw [sA_val h c (by omega) 17 (by omega), List.take_of_length_le (by omega)]
theorem sA_digit (h c : List Int) (hl : h.length = 17) (hh : ∀ i, 0 ≤ h.getD i 0 ∧ h.getD i 0 ≤ 255) (hc : ∀ i, 0 ≤ c.getD i 0 ∧ c.getD i 0 ≤ 255) : ∀ k i, 0 ≤ (sA h c k).getD i 0 ∧ (sA h c k).getD i 0 ≤ 1024
  | 0, i => by
    have := hh i
    exact ⟨this.1, Int.le_trans this.2 (by decide)⟩
  | k + 1, i => by
    rw [sA]
    by_cases e : i = k
    · subst e
      rcases Nat.lt_or_ge i 17 with hi | hi
      · rw [getD_set_same (by rw [sA_length]; omega), sA_far h c i i (Nat.le_refl _)]
        have := hh i
        have := hc i
        omega
      · rw [getD_out (by rw [List.length_set, sA_length]; omega)]
        omega
    · rw [getD_set_far (by omega)]
      exact sA_digit h c hl hh hc k i

end Go.Proofs.Ytflefkmpllbeeaa

/- The tag's bytes, one behind the other, as the document's own Poly lays them. No program. Each theorem names its own conditions. -/
namespace Go.Proofs.Ytflefkmpllbeeaa
open Go.RowKit
set_option linter.unusedVariables false
set_option linter.unusedSimpArgs false

def uT (h : List Int) (s : List UInt8) : Nat → Int
  | 0 => 0
  | i + 1 => (uT h s i + h.getD i 0 + ((s.getD i 0).toNat : Int)) / 256
def tD (h : List Int) (s : List UInt8) (i : Nat) : Int := (uT h s i + h.getD i 0 + ((s.getD i 0).toNat : Int)) % 256
theorem uT_range {h : List Int} (hh : ∀ i, 0 ≤ h.getD i 0 ∧ h.getD i 0 ≤ 255) (s : List UInt8) : ∀ i, 0 ≤ uT h s i ∧ uT h s i ≤ 2
  | 0 => by simp [uT]
  | i + 1 => by
    have ih := uT_range hh s i
    have h1 := hh i
    have h2 := (s.getD i 0).toNat_lt
    simp only [uT]
    omega
def tL (h : List Int) (s : List UInt8) (n : Nat) : List Int := (List.range n).map (tD h s)
theorem tL_length (h : List Int) (s : List UInt8) (n : Nat) : (tL h s n).length = n := by simp [tL]
theorem tL_succ (h : List Int) (s : List UInt8) (n : Nat) : tL h s (n + 1) = tL h s n ++ [tD h s n] := by
  simp [tL, List.range_succ]
theorem uT_val (h : List Int) (s : List UInt8) (hl : h.length = 17) (sl : s.length = 16) : ∀ i, i ≤ 16 → gV 256 (tL h s i) + uT h s i * 256 ^ i = gV 256 (h.take i) + ((leN (s.take i) : Nat) : Int)
  | 0, _ => by simp [tL, uT, gV, leN]
  | i + 1, hi => by
    have ih := uT_val h s hl sl i (by omega)
    have e : s.take (i + 1) = s.take i ++ [s.getD i 0] := by
      rw [List.take_succ_eq_append_getElem (by omega)]
      simp [List.getD, show i < s.length by omega]
    rw [tL_succ, gV_append, tL_length, gV_take_succ 256 h i (by omega), e, ← gV_bytes, List.map_append, gV_append]
    have e2 : ((s.take i).map fun b => (b.toNat : Int)).length = i := by rw [List.length_map, List.length_take]; omega
    rw [e2, gV_bytes, Int.pow_succ]
    simp only [List.map_cons, List.map_nil, gV, uT]
    unfold tD
    generalize gV 256 (tL h s i) = T at *
    generalize gV 256 (h.take i) = V at *
    generalize ((leN (s.take i) : Nat) : Int) = L at *
    generalize (256 : Int) ^ i = B at *
    generalize uT h s i = u at *
    generalize h.getD i 0 = z at *
    generalize ((s.getD i 0).toNat : Int) = y at *
    have e3 : (u + z + y) = 256 * ((u + z + y) / 256) + (u + z + y) % 256 := (Int.mul_ediv_add_emod _ _).symm
    generalize (u + z + y) / 256 = q at *
    generalize (u + z + y) % 256 = r at *
    have : u = 256 * q + r - z - y := by omega
    subst this
    clear e3 e e2
    grind
theorem tag_digits {h : List Int} {key b : List UInt8} (hk : key.length = 32) (hl : h.length = 17) (hd : ∀ i, i < 17 → 0 ≤ h.getD i 0 ∧ h.getD i 0 < 256) (hv : gV 256 h = pNum key b) :
    tL h ((key.drop 16).take 16) 16 = (polyTag key b).map fun b => (b.toNat : Int) := by
  have sl : ((key.drop 16).take 16).length = 16 := by rw [List.length_take, List.length_drop]; omega
  have h1 := uT_val h _ hl sl 16 (Nat.le_refl _)
  have h17 := gV_17 hl
  have hS : (((leN (((key.drop 16).take 16).take 16) : Nat) : Int)) = (pS key : Int) := by
    rw [List.take_of_length_le (l := (key.drop 16).take 16) (by omega)]
    rfl
  rw [hS] at h1
  clear hS
  generalize (key.drop 16).take 16 = s at *
  have hp := (pAcc_range (pR key) b ((b.length + 15) / 16)).1
  have hnum : 0 ≤ pNum key b := hp
  have td : ∀ i, i < 16 → 0 ≤ (tL h s 16).getD i 0 ∧ (tL h s 16).getD i 0 < 256 := fun i hi => by
    have e : (tL h s 16).getD i 0 = tD h s i := by
      simp only [tL, List.getD_eq_getElem?_getD, List.getElem?_map, List.getElem?_range hi]
      rfl
    rw [e]
    unfold tD
    omega
  have hr := gV_range (B := 256) (by omega) (zs := tL h s 16) (fun i hi => td i (by rw [tL_length] at hi; exact hi))
  rw [tL_length, pow_16] at hr
  rw [pow_16] at h1
  have hX : gV 256 (tL h s 16) = (((pNum key b + pS key).toNat % 256 ^ 16 : Nat) : Int) := by
    rw [Int.natCast_emod, Int.toNat_of_nonneg (by omega), show ((256 ^ 16 : Nat) : Int) = 340282366920938463463374607431768211456 from by decide +kernel, ← hv, h17]
    generalize gV 256 (tL h s 16) = T at *
    generalize gV 256 (h.take 16) = V at *
    generalize h.getD 16 0 = z at *
    generalize uT h s 16 = u at *
    omega
  have g := gV_dig 16 (pNum key b + pS key).toNat
  show _ = dig 16 (pNum key b + pS key).toNat
  refine gV_inj (B := 256) (by omega) (by rw [tL_length, dig_length]) (fun i hi => td i (by rw [tL_length] at hi; exact hi)) (fun i hi => dig_digits 16 _ i (by rw [dig_length] at hi; exact hi)) ?_
  rw [hX, g]

end Go.Proofs.Ytflefkmpllbeeaa

/- The code's limbs of 26 bits: sums, carries, what is settled and reduced, products. No program. Each theorem names its own conditions. -/
namespace Go.Proofs.Ytflefkmpllbeeaa
open Go.RowKit
set_option linter.unusedVariables false
set_option linter.unusedSimpArgs false

/-- Five limbs of at most so much. -/
def Lim (M : Int) (l : List Int) : Prop := ∃ a b c d e, l = [a, b, c, d, e] ∧ (0 ≤ a ∧ a ≤ M) ∧ (0 ≤ b ∧ b ≤ M) ∧ (0 ≤ c ∧ c ≤ M) ∧ (0 ≤ d ∧ d ≤ M) ∧ (0 ≤ e ∧ e ≤ M)
theorem Lim.len {M : Int} {l : List Int} (h : Lim M l) : l.length = 5 := by
  obtain ⟨a, b, c, d, e, rfl, _⟩ := h
  rfl
theorem Lim.getD {M : Int} (hM : 0 ≤ M) {l : List Int} (h : Lim M l) : ∀ i, 0 ≤ l.getD i 0 ∧ l.getD i 0 ≤ M := by
  obtain ⟨a, b, c, d, e, rfl, h1, h2, h3, h4, h5⟩ := h
  intro i
  match i with
  | 0 => exact h1
  | 1 => exact h2
  | 2 => exact h3
  | 3 => exact h4
  | 4 => exact h5
  | n + 5 => simp; omega
theorem Lim.of {M : Int} {l : List Int} (hl : l.length = 5) (h : ∀ i, i < 5 → 0 ≤ l.getD i 0 ∧ l.getD i 0 ≤ M) : Lim M l := by
  match l, hl with
  | [a, b, c, d, e], _ => exact ⟨a, b, c, d, e, rfl, h 0 (by omega), h 1 (by omega), h 2 (by omega), h 3 (by omega), h 4 (by omega)⟩
theorem Lim.up {M N : Int} {l : List Int} (h : Lim M l) (hMN : M ≤ N) : Lim N l := by
  obtain ⟨a, b, c, d, e, rfl, h1, h2, h3, h4, h5⟩ := h
  exact ⟨a, b, c, d, e, rfl, by omega, by omega, by omega, by omega, by omega⟩
theorem gV5 (a b c d e : Int) : gV 67108864 [a, b, c, d, e] = a + 67108864 * b + 4503599627370496 * c + 302231454903657293676544 * d + 20282409603651670423947251286016 * e := by
  simp only [gV]
  omega

/-- A sum, limb by limb. -/
theorem sA_getD (h c : List Int) : ∀ k, k ≤ h.length → ∀ i, (sA h c k).getD i 0 = if i < k then h.getD i 0 + c.getD i 0 else h.getD i 0
  | 0, _, i => by rw [if_neg (by omega)]; rfl
  | k + 1, hk, i => by
    rw [sA]
    by_cases e : i = k
    · subst e
      rw [getD_set_same (by rw [sA_length]; omega), if_pos (by omega), sA_getD h c i (by omega) i, if_neg (by omega)]
    · rw [getD_set_far (by omega), sA_getD h c k (by omega) i]
      by_cases h1 : i < k
      · rw [if_pos h1, if_pos (by omega)]
      · rw [if_neg h1, if_neg (by omega)]
def addL (x y : List Int) : List Int := sA x y 5
theorem addL_five (a b c d e f g h i j : Int) : addL [a, b, c, d, e] [f, g, h, i, j] = [a + f, b + g, c + h, d + i, e + j] := by simp [addL, sA]
theorem addL_val {M N : Int} {x y : List Int} (hx : Lim M x) (hy : Lim N y) : Lim (M + N) (addL x y) ∧ gV 67108864 (addL x y) = gV 67108864 x + gV 67108864 y := by
  obtain ⟨a, b, c, d, e, rfl, h1, h2, h3, h4, h5⟩ := hx
  obtain ⟨f, g, h, i, j, rfl, k1, k2, k3, k4, k5⟩ := hy
  rw [addL_five]
  refine ⟨⟨_, _, _, _, _, rfl, by omega, by omega, by omega, by omega, by omega⟩, ?_⟩
  rw [gV5, gV5, gV5]
  omega

/-- Settling, limb by limb: what is carried goes on. -/
def zRun (h : List Int) : Nat → List Int × Int
  | 0 => (h, 0)
  | i + 1 => ((zRun h i).1.set i (((zRun h i).2 + (zRun h i).1.getD i 0) % 67108864), ((zRun h i).2 + (zRun h i).1.getD i 0) / 67108864)
theorem zRun_length (h : List Int) : ∀ i, (zRun h i).1.length = h.length
  | 0 => rfl
  | i + 1 => by simp [zRun, zRun_length h i]
theorem zRun_far (h : List Int) : ∀ i j, i ≤ j → (zRun h i).1.getD j 0 = h.getD j 0
  | 0, _, _ => rfl
  | i + 1, j, hj => by rw [zRun, getD_set_far (by omega), zRun_far h i j (by omega)]
theorem zRun_small (h : List Int) (hl : h.length = 5) : ∀ i, i ≤ 5 → ∀ j, j < i → 0 ≤ (zRun h i).1.getD j 0 ∧ (zRun h i).1.getD j 0 < 67108864
  | 0, _, j, hj => by omega
  | i + 1, hi, j, hj => by
    rw [zRun]
    by_cases e : j = i
    · subst e
      rw [getD_set_same (by rw [zRun_length]; omega)]
      omega
    · rw [getD_set_far (by omega)]
      exact zRun_small h hl i (by omega) j (by omega)
theorem zRun_val (h : List Int) (hl : h.length = 5) : ∀ i, i ≤ 5 → gV 67108864 (zRun h i).1 + (zRun h i).2 * 67108864 ^ i = gV 67108864 h
  | 0, _ => by simp [zRun]
  | i + 1, hi => by
    have ih := zRun_val h hl i (by omega)
    rw [zRun, gV_set _ _ _ _ (by rw [zRun_length]; omega), ← ih, Int.pow_succ]
    generalize (zRun h i).2 = u
    generalize (zRun h i).1.getD i 0 = z
    generalize gV 67108864 (zRun h i).1 = V
    generalize hB : (67108864 : Int) ^ i = B
    have e : (u + z) = 67108864 * ((u + z) / 67108864) + (u + z) % 67108864 := (Int.mul_ediv_add_emod _ _).symm
    generalize (u + z) / 67108864 = q at *
    generalize (u + z) % 67108864 = r at *
    have : u = 67108864 * q + r - z := by omega
    subst this
    clear e ih hB hi hl
    grind
theorem zRun_carry {M : Int} (hM : 0 ≤ M) (h : List Int) (hn : ∀ i, 0 ≤ h.getD i 0 ∧ h.getD i 0 ≤ M) : ∀ i, 0 ≤ (zRun h i).2 ∧ (zRun h i).2 ≤ M
  | 0 => by simp only [zRun]; omega
  | i + 1 => by
    have ih := zRun_carry hM h hn i
    have := hn i
    rw [zRun, zRun_far h i i (Nat.le_refl _)]
    show 0 ≤ ((zRun h i).2 + h.getD i 0) / 67108864 ∧ ((zRun h i).2 + h.getD i 0) / 67108864 ≤ M
    omega
def setL (h : List Int) : List Int := (zRun h 5).1
theorem pow26 : (67108864 : Int) ^ 5 = two130 := by decide +kernel
theorem lim_range {l : List Int} (h : Lim 67108863 l) : 0 ≤ gV 67108864 l ∧ gV 67108864 l < two130 := by
  have := gV_range (B := 67108864) (by omega) (zs := l) (fun i hi => by have := h.getD (by omega) i; omega)
  rw [h.len, pow26] at this
  exact this
theorem setL_val {h : List Int} (hl : h.length = 5) : Lim 67108863 (setL h) ∧ gV 67108864 (setL h) = gV 67108864 h % two130 := by
  have hL : Lim 67108863 (setL h) := Lim.of (by unfold setL; rw [zRun_length, hl]) (fun i hi => by
    have := zRun_small h hl 5 (Nat.le_refl _) i hi
    unfold setL
    omega)
  refine ⟨hL, ?_⟩
  have h1 := zRun_val h hl 5 (Nat.le_refl _)
  have h2 := lim_range hL
  rw [pow26] at h1
  show gV 67108864 (setL h) = _
  have h3 : gV 67108864 (setL h) + (zRun h 5).2 * two130 = gV 67108864 h := h1
  rw [← h3]
  generalize gV 67108864 (setL h) = V at *
  generalize (zRun h 5).2 = c at *
  unfold two130 at *
  omega

/-- Whether a number and 5 reach 2^130. -/
def rRun (h : List Int) : Nat → Int
  | 0 => 5
  | i + 1 => (rRun h i + h.getD i 0) / 67108864
theorem rRun_val {h : List Int} (hl : h.length = 5) (hn : ∀ i, 0 ≤ h.getD i 0) : ∀ i, i ≤ 5 → rRun h i = (gV 67108864 (h.take i) + 5) / 67108864 ^ i
  | 0, _ => by simp [rRun, gV]
  | i + 1, hi => by
    rw [rRun, rRun_val hl hn i (by omega), gV_take_succ _ _ _ (by omega), Int.pow_succ]
    have hB : (0 : Int) < 67108864 ^ i := Int.pow_pos (by omega)
    generalize (67108864 : Int) ^ i = B at *
    rw [show (gV 67108864 (h.take i) + h.getD i 0 * B + 5) / (B * 67108864) = (gV 67108864 (h.take i) + h.getD i 0 * B + 5) / B / 67108864 from by rw [Int.ediv_ediv, if_neg (fun h => absurd h.1 (by omega)), Int.sub_zero], show gV 67108864 (h.take i) + h.getD i 0 * B + 5 = (gV 67108864 (h.take i) + 5) + h.getD i 0 * B by omega, Int.add_mul_ediv_right _ _ (by omega)]
theorem rRun_range {M : Int} {h : List Int} (hM : 5 ≤ M) (hn : ∀ i, 0 ≤ h.getD i 0 ∧ h.getD i 0 ≤ M) : ∀ i, 0 ≤ rRun h i ∧ rRun h i ≤ M
  | 0 => by simp only [rRun]; omega
  | i + 1 => by
    have ih := rRun_range hM hn i
    have := hn i
    simp only [rRun]
    omega
def redL (h : List Int) : List Int := setL (h.set 0 (h.getD 0 0 + 5 * rRun h 5))
theorem redL_val {h : List Int} (hl : h.length = 5) (hn : ∀ i, 0 ≤ h.getD i 0) (hv : gV 67108864 h < 2 * (pQ : Int)) : Lim 67108863 (redL h) ∧ gV 67108864 (redL h) = gV 67108864 h % (pQ : Int) := by
  have h1 := setL_val (h := h.set 0 (h.getD 0 0 + 5 * rRun h 5)) (by simp [hl])
  refine ⟨h1.1, h1.2.trans ?_⟩
  rw [gV_set _ _ _ _ (by omega), rRun_val hl hn 5 (Nat.le_refl _), List.take_of_length_le (by omega), pow26]
  have h0 : 0 ≤ gV 67108864 h := by
    have : ∀ (zs : List Int), (∀ i, 0 ≤ zs.getD i 0) → 0 ≤ gV 67108864 zs := by
      intro zs
      induction zs with
      | nil => intro _; exact Int.le_refl _
      | cons z r ih =>
        intro h
        have h0 : 0 ≤ z := h 0
        have h1 := ih (fun i => by have := h (i + 1); simpa using this)
        simp only [gV]
        omega
    exact this h hn
  generalize gV 67108864 h = V at *
  generalize h.getD 0 0 = z
  rw [Int.pow_zero, Int.mul_one]
  clear h1 hn
  unfold pQ at *
  unfold two130
  rcases Int.lt_or_le V 1361129467683753853853498429727072845819 with h | h
  · have q : (V + 5) / 1361129467683753853853498429727072845824 = 0 := by omega
    rw [q]
    omega
  · have q : (V + 5) / 1361129467683753853853498429727072845824 = 1 := by omega
    rw [q]
    omega

/-- Carried: from each limb to the next, from the highest to the lowest, and once more from there. -/
def carL : List Int → List Int
  | [a, b, c, d, e] =>
    let b1 := b + a / 67108864
    let c1 := c + b1 / 67108864
    let d1 := d + c1 / 67108864
    let e1 := e + d1 / 67108864
    let l := a % 67108864 + 5 * (e1 / 67108864)
    [l % 67108864, b1 % 67108864 + l / 67108864, c1 % 67108864, d1 % 67108864, e1 % 67108864]
  | _ => []
/-- What is nearly settled: the second limb may have 2^7 more. -/
def Near (l : List Int) : Prop := ∃ a b c d e, l = [a, b, c, d, e] ∧ (0 ≤ a ∧ a ≤ 67108863) ∧ (0 ≤ b ∧ b ≤ 67108991) ∧ (0 ≤ c ∧ c ≤ 67108863) ∧ (0 ≤ d ∧ d ≤ 67108863) ∧ (0 ≤ e ∧ e ≤ 67108863)
theorem Near.lim {l : List Int} (h : Near l) : Lim 67108991 l := by
  obtain ⟨a, b, c, d, e, rfl, h1, h2, h3, h4, h5⟩ := h
  exact ⟨a, b, c, d, e, rfl, by omega, by omega, by omega, by omega, by omega⟩
theorem Near.zero : Near (List.replicate 5 0) := ⟨0, 0, 0, 0, 0, rfl, by omega, by omega, by omega, by omega, by omega⟩
theorem Near.below {l : List Int} (h : Near l) : gV 67108864 l < 2 * (pQ : Int) := by
  obtain ⟨a, b, c, d, e, rfl, h1, h2, h3, h4, h5⟩ := h
  rw [gV5]
  unfold pQ
  omega
theorem carL_val {a b c d e : Int} (ha : 0 ≤ a ∧ a ≤ 378302368699121664) (hb : 0 ≤ b ∧ b ≤ 378302368699121664) (hc : 0 ≤ c ∧ c ≤ 378302368699121664) (hd : 0 ≤ d ∧ d ≤ 378302368699121664) (he : 0 ≤ e ∧ e ≤ 90071992547409920) :
    Near (carL [a, b, c, d, e]) ∧ gV 67108864 (carL [a, b, c, d, e]) % (pQ : Int) = gV 67108864 [a, b, c, d, e] % (pQ : Int) := by
  unfold carL
  simp only
  obtain ⟨b1, hb1⟩ : ∃ x, x = b + a / 67108864 := ⟨_, rfl⟩
  obtain ⟨c1, hc1⟩ : ∃ x, x = c + b1 / 67108864 := ⟨_, rfl⟩
  obtain ⟨d1, hd1⟩ : ∃ x, x = d + c1 / 67108864 := ⟨_, rfl⟩
  obtain ⟨e1, he1⟩ : ∃ x, x = e + d1 / 67108864 := ⟨_, rfl⟩
  obtain ⟨l, hl⟩ : ∃ x, x = a % 67108864 + 5 * (e1 / 67108864) := ⟨_, rfl⟩
  rw [← hb1, ← hc1, ← hd1, ← he1, ← hl]
  have b2 : 0 ≤ b1 ∧ b1 ≤ 378302374400000000 := by omega
  have c2 : 0 ≤ c1 ∧ c1 ≤ 378302374400000000 := by omega
  have d2 : 0 ≤ d1 ∧ d1 ≤ 378302374400000000 := by omega
  have e2 : 0 ≤ e1 ∧ e1 ≤ 90071998300000000 := by omega
  have l2 : 0 ≤ l ∧ l ≤ 6777996000 := by omega
  refine ⟨⟨_, _, _, _, _, rfl, by omega, by omega, by omega, by omega, by omega⟩, ?_⟩
  rw [gV5, gV5]
  have key : a + 67108864 * b + 4503599627370496 * c + 302231454903657293676544 * d + 20282409603651670423947251286016 * e =
      l % 67108864 + 67108864 * (b1 % 67108864 + l / 67108864) + 4503599627370496 * (c1 % 67108864) + 302231454903657293676544 * (d1 % 67108864) + 20282409603651670423947251286016 * (e1 % 67108864) + (pQ : Int) * (e1 / 67108864) := by
    unfold pQ
    omega
  rw [key, Int.add_mul_emod_self_left]

/-- A product, limb by limb. -/
def timS (x y : List Int) : List Int :=
  match x, y with
  | [a, b, c, d, e], [f, g, h, i, j] => [a * f + b * (5 * j) + c * (5 * i) + d * (5 * h) + e * (5 * g), a * g + b * f + c * (5 * j) + d * (5 * i) + e * (5 * h), a * h + b * g + c * f + d * (5 * j) + e * (5 * i), a * i + b * h + c * g + d * f + e * (5 * j), a * j + b * i + c * h + d * g + e * f]
  | _, _ => []
def timL (x y : List Int) : List Int := carL (timS x y)
theorem mulB {x y X Y : Int} (hx : 0 ≤ x ∧ x ≤ X) (hy : 0 ≤ y ∧ y ≤ Y) : 0 ≤ x * y ∧ x * y ≤ X * Y := ⟨Int.mul_nonneg hx.1 hy.1, Int.mul_le_mul hx.2 hy.2 hy.1 (by omega)⟩
theorem tim_id (a b c d e f g h i j : Int) : gV 67108864 [a, b, c, d, e] * gV 67108864 [f, g, h, i, j] = gV 67108864 (timS [a, b, c, d, e] [f, g, h, i, j]) + (pQ : Int) * ((b * j + c * i + d * h + e * g) + 67108864 * (c * j + d * i + e * h) + 4503599627370496 * (d * j + e * i) + 302231454903657293676544 * (e * j)) := by
  unfold timS
  simp only [gV5]
  unfold pQ
  grind
theorem timL_val {x y : List Int} (hx : Lim 268435455 x) (hy : Lim 67108863 y) : Near (timL x y) ∧ gV 67108864 (timL x y) % (pQ : Int) = gV 67108864 x * gV 67108864 y % (pQ : Int) := by
  obtain ⟨a, b, c, d, e, rfl, h1, h2, h3, h4, h5⟩ := hx
  obtain ⟨f, g, h, i, j, rfl, k1, k2, k3, k4, k5⟩ := hy
  have ef : ∀ {x y : Int}, 0 ≤ x ∧ x ≤ 268435455 → 0 ≤ y ∧ y ≤ 67108863 → 0 ≤ x * y ∧ x * y ≤ 18014398509481984 ∧ x * (5 * y) = 5 * (x * y) := fun {x y} hx hy => by
    have := mulB hx hy
    refine ⟨this.1, by omega, ?_⟩
    rw [← Int.mul_assoc, Int.mul_comm x 5, Int.mul_assoc]
  have key := carL_val (a := a * f + b * (5 * j) + c * (5 * i) + d * (5 * h) + e * (5 * g)) (b := a * g + b * f + c * (5 * j) + d * (5 * i) + e * (5 * h)) (c := a * h + b * g + c * f + d * (5 * j) + e * (5 * i)) (d := a * i + b * h + c * g + d * f + e * (5 * j)) (e := a * j + b * i + c * h + d * g + e * f)
    (by have := ef h1 k1; have := ef h2 k5; have := ef h3 k4; have := ef h4 k3; have := ef h5 k2; omega)
    (by have := ef h1 k2; have := ef h2 k1; have := ef h3 k5; have := ef h4 k4; have := ef h5 k3; omega)
    (by have := ef h1 k3; have := ef h2 k2; have := ef h3 k1; have := ef h4 k5; have := ef h5 k4; omega)
    (by have := ef h1 k4; have := ef h2 k3; have := ef h3 k2; have := ef h4 k1; have := ef h5 k5; omega)
    (by have := ef h1 k5; have := ef h2 k4; have := ef h3 k3; have := ef h4 k2; have := ef h5 k1; omega)
  refine ⟨key.1, key.2.trans ?_⟩
  rw [tim_id, Int.add_mul_emod_self_left]
  rfl

end Go.Proofs.Ytflefkmpllbeeaa

/- Bytes as limbs of 26 bits, and limbs as bytes. No program. Each theorem names its own conditions. -/
namespace Go.Proofs.Ytflefkmpllbeeaa
open Go.RowKit
set_option linter.unusedVariables false
set_option linter.unusedSimpArgs false

/-- Seventeen bytes. -/
def D17 (zs : List Int) : Prop := zs.length = 17 ∧ ∀ i, 0 ≤ zs.getD i 0 ∧ zs.getD i 0 ≤ 255
def w4 (zs : List Int) (o : Nat) : Int := zs.getD o 0 + 256 * zs.getD (o + 1) 0 + 65536 * zs.getD (o + 2) 0 + 16777216 * zs.getD (o + 3) 0
theorem w4_val {zs : List Int} (h : D17 zs) (o : Nat) (ho : o + 4 ≤ 17) : w4 zs o = gV 256 zs / 256 ^ o % 4294967296 := by
  obtain ⟨hl, hd⟩ := h
  rw [gV_div (by omega) (by omega) (fun i hi => by have := hd i; omega)]
  have g : ∀ k, (zs.drop o).getD k 0 = zs.getD (o + k) 0 := fun k => getD_drop
  have hl2 : (zs.drop o).length = 17 - o := by rw [List.length_drop, hl]
  have h0 := hd o
  have h1 := hd (o + 1)
  have h2 := hd (o + 2)
  have h3 := hd (o + 3)
  unfold w4
  have g0 := g 0
  have g1 := g 1
  have g2 := g 2
  have g3 := g 3
  generalize zs.drop o = ys at *
  match ys, hl2 with
  | y0 :: y1 :: y2 :: y3 :: r, _ =>
    simp only [List.getD_cons_zero, List.getD_cons_succ, Nat.add_zero] at g0 g1 g2 g3
    simp only [gV]
    generalize gV 256 r = R
    omega
  | [], h => simp at h; omega
  | [_], h => simp at h; omega
  | [_, _], h => simp at h; omega
  | [_, _, _], h => simp at h; omega
/-- The limbs that bytes stand for, as they are laid. -/
def lO (zs : List Int) : Nat → List Int
  | 0 => List.replicate 5 0
  | k + 1 => (lO zs k).set k (w4 zs (26 * k / 8) / 2 ^ (26 * k % 8) % 67108864)
theorem lO_length (zs : List Int) : ∀ k, (lO zs k).length = 5
  | 0 => by simp [lO]
  | k + 1 => by rw [lO, List.length_set, lO_length zs k]
theorem lO_five (zs : List Int) : lO zs 5 = [w4 zs 0 / 1 % 67108864, w4 zs 3 / 4 % 67108864, w4 zs 6 / 16 % 67108864, w4 zs 9 / 64 % 67108864, w4 zs 13 / 1 % 67108864] := by
  simp only [lO, List.replicate, List.set]
  rfl
def limL (zs : List Int) : List Int := lO zs 5
theorem limL_val {zs : List Int} (h : D17 zs) : Lim 67108863 (limL zs) ∧ gV 67108864 (limL zs) = gV 256 zs % two130 := by
  have e0 := w4_val h 0 (by omega)
  have e1 := w4_val h 3 (by omega)
  have e2 := w4_val h 6 (by omega)
  have e3 := w4_val h 9 (by omega)
  have e4 := w4_val h 13 (by omega)
  have hN : 0 ≤ gV 256 zs := gV_nonneg (fun i => (h.2 i).1)
  unfold limL
  rw [lO_five, e0, e1, e2, e3, e4]
  rw [show (256 : Int) ^ 0 = 1 from rfl, show (256 : Int) ^ 3 = 16777216 from rfl, show (256 : Int) ^ 6 = 281474976710656 from by decide +kernel, show (256 : Int) ^ 9 = 4722366482869645213696 from by decide +kernel, show (256 : Int) ^ 13 = 20282409603651670423947251286016 from by decide +kernel]
  generalize gV 256 zs = N at *
  clear e0 e1 e2 e3 e4 h
  have f0 : N / 1 % 4294967296 / 1 % 67108864 = N % 67108864 := by omega
  have f1 : N / 16777216 % 4294967296 / 4 % 67108864 = N / 67108864 % 67108864 := by omega
  have f2 : N / 281474976710656 % 4294967296 / 16 % 67108864 = N / 4503599627370496 % 67108864 := by omega
  have f3 : N / 4722366482869645213696 % 4294967296 / 64 % 67108864 = N / 302231454903657293676544 % 67108864 := by omega
  have f4 : N / 20282409603651670423947251286016 % 4294967296 / 1 % 67108864 = N / 20282409603651670423947251286016 % 67108864 := by omega
  rw [f0, f1, f2, f3, f4]
  refine ⟨⟨_, _, _, _, _, rfl, by omega, by omega, by omega, by omega, by omega⟩, ?_⟩
  rw [gV5]
  unfold two130
  clear f0 f1 f2 f3 f4
  omega

theorem or_fin2 : ∀ (x : Fin 4) (y : Fin 64), bits .or .u8 (x.val : Int) ((y.val : Int) * 4) = (x.val : Int) + (y.val : Int) * 4 := by decide +kernel
theorem or_fin4 : ∀ (x : Fin 16) (y : Fin 16), bits .or .u8 (x.val : Int) ((y.val : Int) * 16) = (x.val : Int) + (y.val : Int) * 16 := by decide +kernel
theorem or_fin6 : ∀ (x : Fin 64) (y : Fin 4), bits .or .u8 (x.val : Int) ((y.val : Int) * 64) = (x.val : Int) + (y.val : Int) * 64 := by decide +kernel
theorem or_fin8 : ∀ (y : Fin 256), bits .or .u8 0 (y.val : Int) = (y.val : Int) := by decide +kernel
theorem or_0 {y : Int} (h : 0 ≤ y ∧ y < 256) : bits .or .u8 0 y = y := by
  obtain ⟨n, rfl⟩ : ∃ n : Nat, y = (n : Int) := ⟨y.toNat, by omega⟩
  exact or_fin8 ⟨n, by omega⟩
theorem or_2 {x y : Int} (hx : 0 ≤ x ∧ x < 4) (hy : 0 ≤ y ∧ y < 64) : bits .or .u8 x (y * 4) = x + y * 4 := by
  obtain ⟨m, rfl⟩ : ∃ n : Nat, x = (n : Int) := ⟨x.toNat, by omega⟩
  obtain ⟨n, rfl⟩ : ∃ n : Nat, y = (n : Int) := ⟨y.toNat, by omega⟩
  exact or_fin2 ⟨m, by omega⟩ ⟨n, by omega⟩
theorem or_4 {x y : Int} (hx : 0 ≤ x ∧ x < 16) (hy : 0 ≤ y ∧ y < 16) : bits .or .u8 x (y * 16) = x + y * 16 := by
  obtain ⟨m, rfl⟩ : ∃ n : Nat, x = (n : Int) := ⟨x.toNat, by omega⟩
  obtain ⟨n, rfl⟩ : ∃ n : Nat, y = (n : Int) := ⟨y.toNat, by omega⟩
  exact or_fin4 ⟨m, by omega⟩ ⟨n, by omega⟩
theorem or_6 {x y : Int} (hx : 0 ≤ x ∧ x < 64) (hy : 0 ≤ y ∧ y < 4) : bits .or .u8 x (y * 64) = x + y * 64 := by
  obtain ⟨m, rfl⟩ : ∃ n : Nat, x = (n : Int) := ⟨x.toNat, by omega⟩
  obtain ⟨n, rfl⟩ : ∃ n : Nat, y = (n : Int) := ⟨y.toNat, by omega⟩
  exact or_fin6 ⟨m, by omega⟩ ⟨n, by omega⟩
/-- A limb's four bytes, from the byte q on, so many bits up; n of them. -/
def oN (c : List Int) (z : Int) (q s : Nat) : Nat → List Int
  | 0 => c
  | n + 1 => (oN c z q s n).set (q + n) (bits .or .u8 ((oN c z q s n).getD (q + n) 0) (z * 2 ^ s / 2 ^ (8 * n) % 256))
theorem oN_length (c : List Int) (z : Int) (q s : Nat) : ∀ n, (oN c z q s n).length = c.length
  | 0 => rfl
  | n + 1 => by rw [oN, List.length_set, oN_length c z q s n]
/-- The bytes of limbs, i of these laid. -/
def oI (x : List Int) : Nat → List Int
  | 0 => List.replicate 17 0
  | i + 1 => oN (oI x i) (x.getD i 0) (26 * i / 8) (26 * i % 8) 4
theorem oI_length (x : List Int) : ∀ i, (oI x i).length = 17
  | 0 => by simp [oI]
  | i + 1 => by rw [oI, oN_length, oI_length x i]
theorem oN4 (c : List Int) (z : Int) (q s : Nat) : oN c z q s 4 = (((c.set q (bits .or .u8 (c.getD q 0) (z * 2 ^ s % 256))).set (q + 1) (bits .or .u8 (c.getD (q + 1) 0) (z * 2 ^ s / 256 % 256))).set (q + 2) (bits .or .u8 (c.getD (q + 2) 0) (z * 2 ^ s / 65536 % 256))).set (q + 3) (bits .or .u8 (c.getD (q + 3) 0) (z * 2 ^ s / 16777216 % 256)) := by
  simp only [oN]
  rw [getD_set_far (by omega), getD_set_far (by omega), getD_set_far (by omega), getD_set_far (by omega), getD_set_far (by omega), getD_set_far (by omega)]
  rw [show (2 : Int) ^ (8 * 0) = 1 from rfl, show (2 : Int) ^ (8 * 1) = 256 from rfl, show (2 : Int) ^ (8 * 2) = 65536 from rfl, show (2 : Int) ^ (8 * 3) = 16777216 from rfl, Int.ediv_one, Nat.add_zero]
def ou (x y : Int) : Int := bits .or .u8 x y
theorem oN_0 (c0 c1 c2 c3 c4 c5 c6 c7 c8 c9 c10 c11 c12 c13 c14 c15 c16 z : Int) : oN [c0, c1, c2, c3, c4, c5, c6, c7, c8, c9, c10, c11, c12, c13, c14, c15, c16] z 0 0 4 = [(ou c0 (z * 2 ^ 0 % 256)), (ou c1 (z * 2 ^ 0 / 256 % 256)), (ou c2 (z * 2 ^ 0 / 65536 % 256)), (ou c3 (z * 2 ^ 0 / 16777216 % 256)), c4, c5, c6, c7, c8, c9, c10, c11, c12, c13, c14, c15, c16] := by
  rw [oN4]
  rfl
theorem oN_3 (c0 c1 c2 c3 c4 c5 c6 c7 c8 c9 c10 c11 c12 c13 c14 c15 c16 z : Int) : oN [c0, c1, c2, c3, c4, c5, c6, c7, c8, c9, c10, c11, c12, c13, c14, c15, c16] z 3 2 4 = [c0, c1, c2, (ou c3 (z * 2 ^ 2 % 256)), (ou c4 (z * 2 ^ 2 / 256 % 256)), (ou c5 (z * 2 ^ 2 / 65536 % 256)), (ou c6 (z * 2 ^ 2 / 16777216 % 256)), c7, c8, c9, c10, c11, c12, c13, c14, c15, c16] := by
  rw [oN4]
  rfl
theorem oN_6 (c0 c1 c2 c3 c4 c5 c6 c7 c8 c9 c10 c11 c12 c13 c14 c15 c16 z : Int) : oN [c0, c1, c2, c3, c4, c5, c6, c7, c8, c9, c10, c11, c12, c13, c14, c15, c16] z 6 4 4 = [c0, c1, c2, c3, c4, c5, (ou c6 (z * 2 ^ 4 % 256)), (ou c7 (z * 2 ^ 4 / 256 % 256)), (ou c8 (z * 2 ^ 4 / 65536 % 256)), (ou c9 (z * 2 ^ 4 / 16777216 % 256)), c10, c11, c12, c13, c14, c15, c16] := by
  rw [oN4]
  rfl
theorem oN_9 (c0 c1 c2 c3 c4 c5 c6 c7 c8 c9 c10 c11 c12 c13 c14 c15 c16 z : Int) : oN [c0, c1, c2, c3, c4, c5, c6, c7, c8, c9, c10, c11, c12, c13, c14, c15, c16] z 9 6 4 = [c0, c1, c2, c3, c4, c5, c6, c7, c8, (ou c9 (z * 2 ^ 6 % 256)), (ou c10 (z * 2 ^ 6 / 256 % 256)), (ou c11 (z * 2 ^ 6 / 65536 % 256)), (ou c12 (z * 2 ^ 6 / 16777216 % 256)), c13, c14, c15, c16] := by
  rw [oN4]
  rfl
theorem oN_13 (c0 c1 c2 c3 c4 c5 c6 c7 c8 c9 c10 c11 c12 c13 c14 c15 c16 z : Int) : oN [c0, c1, c2, c3, c4, c5, c6, c7, c8, c9, c10, c11, c12, c13, c14, c15, c16] z 13 0 4 = [c0, c1, c2, c3, c4, c5, c6, c7, c8, c9, c10, c11, c12, (ou c13 (z * 2 ^ 0 % 256)), (ou c14 (z * 2 ^ 0 / 256 % 256)), (ou c15 (z * 2 ^ 0 / 65536 % 256)), (ou c16 (z * 2 ^ 0 / 16777216 % 256))] := by
  rw [oN4]
  rfl
theorem oI_five (a b c d e : Int) : oI [a, b, c, d, e] 5 = [ou 0 (a * 2 ^ 0 % 256), ou 0 (a * 2 ^ 0 / 256 % 256), ou 0 (a * 2 ^ 0 / 65536 % 256), ou (ou 0 (a * 2 ^ 0 / 16777216 % 256)) (b * 2 ^ 2 % 256), ou 0 (b * 2 ^ 2 / 256 % 256), ou 0 (b * 2 ^ 2 / 65536 % 256),
    ou (ou 0 (b * 2 ^ 2 / 16777216 % 256)) (c * 2 ^ 4 % 256), ou 0 (c * 2 ^ 4 / 256 % 256), ou 0 (c * 2 ^ 4 / 65536 % 256), ou (ou 0 (c * 2 ^ 4 / 16777216 % 256)) (d * 2 ^ 6 % 256), ou 0 (d * 2 ^ 6 / 256 % 256), ou 0 (d * 2 ^ 6 / 65536 % 256), ou 0 (d * 2 ^ 6 / 16777216 % 256),
    ou 0 (e * 2 ^ 0 % 256), ou 0 (e * 2 ^ 0 / 256 % 256), ou 0 (e * 2 ^ 0 / 65536 % 256), ou 0 (e * 2 ^ 0 / 16777216 % 256)] := by
  show oN (oN (oN (oN (oN [0, 0, 0, 0, 0, 0, 0, 0, 0, 0, 0, 0, 0, 0, 0, 0, 0] a 0 0 4) b 3 2 4) c 6 4 4) d 9 6 4) e 13 0 4 = _
  rw [oN_0, oN_3, oN_6, oN_9, oN_13]
def blkL (x : List Int) : List Int := oI x 5
theorem blkL_val {x : List Int} (hx : Lim 67108863 x) : D17 (blkL x) ∧ gV 256 (blkL x) = gV 67108864 x := by
  obtain ⟨a, b, c, d, e, rfl, h1, h2, h3, h4, h5⟩ := hx
  have e0 : (2 : Int) ^ 0 = 1 := rfl
  have e2 : (2 : Int) ^ 2 = 4 := rfl
  have e4 : (2 : Int) ^ 4 = 16 := rfl
  have e6 : (2 : Int) ^ 6 = 64 := rfl
  have hb : b * 4 % 256 = b % 64 * 4 := by omega
  have hc : c * 16 % 256 = c % 16 * 16 := by omega
  have hd : d * 64 % 256 = d % 4 * 64 := by omega
  have key : blkL [a, b, c, d, e] = [a % 256, a / 256 % 256, a / 65536 % 256, a / 16777216 % 256 + b % 64 * 4, b * 4 / 256 % 256, b * 4 / 65536 % 256, b * 4 / 16777216 % 256 + c % 16 * 16, c * 16 / 256 % 256, c * 16 / 65536 % 256, c * 16 / 16777216 % 256 + d % 4 * 64, d * 64 / 256 % 256, d * 64 / 65536 % 256, d * 64 / 16777216 % 256,
      e % 256, e / 256 % 256, e / 65536 % 256, e / 16777216 % 256] := by
    unfold blkL
    rw [oI_five, e0, e2, e4, e6]
    unfold ou
    simp only [Int.mul_one]
    rw [hb, hc, hd]
    have o : ∀ y : Int, bits .or .u8 0 (y % 256) = y % 256 := fun y => or_0 (by omega)
    simp only [o]
    rw [or_2 (by omega) (by omega), or_4 (by omega) (by omega), or_6 (by omega) (by omega)]
  rw [key]
  clear key hb hc hd e0 e2 e4 e6
  refine ⟨⟨rfl, fun i => ?_⟩, ?_⟩
  · match i with
    | 0 => simp only [List.getD_cons_zero]; omega
    | 1 => simp only [List.getD_cons_zero, List.getD_cons_succ]; omega
    | 2 => simp only [List.getD_cons_zero, List.getD_cons_succ]; omega
    | 3 => simp only [List.getD_cons_zero, List.getD_cons_succ]; omega
    | 4 => simp only [List.getD_cons_zero, List.getD_cons_succ]; omega
    | 5 => simp only [List.getD_cons_zero, List.getD_cons_succ]; omega
    | 6 => simp only [List.getD_cons_zero, List.getD_cons_succ]; omega
    | 7 => simp only [List.getD_cons_zero, List.getD_cons_succ]; omega
    | 8 => simp only [List.getD_cons_zero, List.getD_cons_succ]; omega
    | 9 => simp only [List.getD_cons_zero, List.getD_cons_succ]; omega
    | 10 => simp only [List.getD_cons_zero, List.getD_cons_succ]; omega
    | 11 => simp only [List.getD_cons_zero, List.getD_cons_succ]; omega
    | 12 => simp only [List.getD_cons_zero, List.getD_cons_succ]; omega
    | 13 => simp only [List.getD_cons_zero, List.getD_cons_succ]; omega
    | 14 => simp only [List.getD_cons_zero, List.getD_cons_succ]; omega
    | 15 => simp only [List.getD_cons_zero, List.getD_cons_succ]; omega
    | 16 => simp only [List.getD_cons_zero, List.getD_cons_succ]; omega
    | n + 17 => simp
  · rw [gV5]
    have ha : a = a % 256 + 256 * (a / 256 % 256) + 65536 * (a / 65536 % 256) + 16777216 * (a / 16777216 % 256) := by omega
    have hb : b = b % 64 + 64 * (b * 4 / 256 % 256) + 16384 * (b * 4 / 65536 % 256) + 4194304 * (b * 4 / 16777216 % 256) := by omega
    have hc : c = c % 16 + 16 * (c * 16 / 256 % 256) + 4096 * (c * 16 / 65536 % 256) + 1048576 * (c * 16 / 16777216 % 256) := by omega
    have hd : d = d % 4 + 4 * (d * 64 / 256 % 256) + 1024 * (d * 64 / 65536 % 256) + 262144 * (d * 64 / 16777216 % 256) := by omega
    have he : e = e % 256 + 256 * (e / 256 % 256) + 65536 * (e / 65536 % 256) + 16777216 * (e / 16777216 % 256) := by omega
    simp only [gV]
    generalize a % 256 = a0 at *
    generalize a / 256 % 256 = a1 at *
    generalize a / 65536 % 256 = a2 at *
    generalize a / 16777216 % 256 = a3 at *
    generalize b % 64 = b0 at *
    generalize b * 4 / 256 % 256 = b1 at *
    generalize b * 4 / 65536 % 256 = b2 at *
    generalize b * 4 / 16777216 % 256 = b3 at *
    generalize c % 16 = c0 at *
    generalize c * 16 / 256 % 256 = c1 at *
    generalize c * 16 / 65536 % 256 = c2 at *
    generalize c * 16 / 16777216 % 256 = c3 at *
    generalize d % 4 = d0 at *
    generalize d * 64 / 256 % 256 = d1 at *
    generalize d * 64 / 65536 % 256 = d2 at *
    generalize d * 64 / 16777216 % 256 = d3 at *
    generalize e % 256 = f0 at *
    generalize e / 256 % 256 = f1 at *
    generalize e / 65536 % 256 = f2 at *
    generalize e / 16777216 % 256 = f3 at *
    clear h1 h2 h3 h4 h5
    omega

end Go.Proofs.Ytflefkmpllbeeaa

/- What package poly folds of a message, and its tag. No program. Each theorem names its own conditions. -/
namespace Go.Proofs.Ytflefkmpllbeeaa
open Go.RowKit
set_option linter.unusedVariables false
set_option linter.unusedSimpArgs false

def iB (l : List UInt8) : List Int := l.map fun b => (b.toNat : Int)
theorem iB_length (l : List UInt8) : (iB l).length = l.length := by simp [iB]
theorem iB_getD (l : List UInt8) (i : Nat) : (iB l).getD i 0 = ((l.getD i 0).toNat : Int) := by
  simp only [iB, List.getD_eq_getElem?_getD, List.getElem?_map]
  rcases h : l[i]? with _ | b <;> rfl
theorem bval_ints (l : List UInt8) : l.map bval = ints .u8 (iB l) := by
  unfold ints iB
  rw [List.map_map]
  rfl
theorem D17_iB {l : List UInt8} (h : l.length = 17) : D17 (iB l) := ⟨by rw [iB_length, h], fun i => by
  rw [iB_getD]
  have := (l.getD i 0).toNat_lt
  omega⟩
/-- A piece of a message, the 1 behind it, and noughts. -/
def onB (c : List UInt8) : List UInt8 := c ++ (1 :: List.replicate (16 - c.length) 0)
theorem onB_length {c : List UInt8} (h : c.length ≤ 16) : (onB c).length = 17 := by
  unfold onB
  simp
  omega
theorem onB_val (c : List UInt8) : gV 256 (iB (onB c)) = ((leN c : Nat) : Int) + 256 ^ c.length := by
  unfold iB onB
  rw [List.map_append, gV_append, gV_bytes, List.length_map]
  have e : (List.map (fun b : UInt8 => (b.toNat : Int)) (1 :: List.replicate (16 - c.length) 0)) = 1 :: List.replicate (16 - c.length) 0 := by simp
  rw [e, gV, gV_zeros, Int.mul_zero, Int.add_zero, Int.mul_one]
theorem piece_len (m : List UInt8) (n : Nat) : ((m.drop (16 * n)).take 16).length = min 16 (m.length - 16 * n) := by rw [List.length_take, List.length_drop]
theorem onB_blk (m : List UInt8) (n : Nat) : gV 256 (iB (onB ((m.drop (16 * n)).take 16))) = pBlk m n := by
  rw [onB_val, piece_len]
  rfl
theorem pBlk_range (m : List UInt8) (n : Nat) : 0 ≤ pBlk m n ∧ pBlk m n < two130 := by
  have h1 := leN_lt ((m.drop (16 * n)).take 16)
  have hl := piece_len m n
  have h2 : 256 ^ ((m.drop (16 * n)).take 16).length ≤ 256 ^ 16 := Nat.pow_le_pow_right (by omega) (by omega)
  have h3 : pBlk m n = (((leN ((m.drop (16 * n)).take 16)) + 256 ^ ((m.drop (16 * n)).take 16).length : Nat) : Int) := by
    unfold pBlk
    rw [hl]
    simp
  rw [h3]
  generalize leN ((m.drop (16 * n)).take 16) = a at *
  generalize 256 ^ ((m.drop (16 * n)).take 16).length = b at *
  have h4 : (256 ^ 16 : Nat) = 340282366920938463463374607431768211456 := by decide +kernel
  rw [h4] at h2
  unfold two130
  omega
theorem pDigit_le (key : List UInt8) (i : Nat) : pDigit key i ≤ 255 := by
  unfold pDigit
  have := (key.getD i 0).toNat_lt
  split
  · omega
  · split <;> omega
theorem pR_range (key : List UInt8) : 0 ≤ pR key ∧ pR key < 340282366920938463463374607431768211456 := by
  have h := gV_range (B := 256) (by omega) (zs := pDigits key) (fun i hi => by
    rw [pDigits_length] at hi
    rw [pDigits_getD key hi]
    have := pDigit_le key i
    omega)
  rw [pDigits_length, pow_16] at h
  exact h
theorem D17_rC (key : List UInt8) : D17 (rC key 3) := ⟨rC_length key 3, fun i => rC_digit key 3 i (by omega)⟩
def rL (key : List UInt8) : List Int := limL (rC key 3)
theorem rL_val (key : List UInt8) : Lim 67108863 (rL key) ∧ gV 67108864 (rL key) = pR key := by
  obtain ⟨h1, h2⟩ := limL_val (D17_rC key)
  refine ⟨h1, h2.trans ?_⟩
  rw [rC_val]
  have := pR_range key
  unfold two130
  exact Int.emod_eq_of_lt this.1 (by omega)
/-- The message as limbs, n blocks of it. -/
def fL (R : List Int) (m : List UInt8) : Nat → List Int
  | 0 => List.replicate 5 0
  | n + 1 => timL (addL (fL R m n) (limL (iB (onB ((m.drop (16 * n)).take 16))))) R
theorem blk_lim (m : List UInt8) (n : Nat) : Lim 67108863 (limL (iB (onB ((m.drop (16 * n)).take 16)))) ∧ gV 67108864 (limL (iB (onB ((m.drop (16 * n)).take 16)))) = pBlk m n := by
  obtain ⟨h1, h2⟩ := limL_val (D17_iB (onB_length (c := (m.drop (16 * n)).take 16) (by rw [piece_len]; omega)))
  refine ⟨h1, h2.trans ?_⟩
  rw [onB_blk]
  have := pBlk_range m n
  exact Int.emod_eq_of_lt this.1 this.2
theorem fL_val (key m : List UInt8) : ∀ n, Near (fL (rL key) m n) ∧ gV 67108864 (fL (rL key) m n) % (pQ : Int) = pAcc (pR key) m n
  | 0 => ⟨Near.zero, by rw [fL, gV_zeros]; rfl⟩
  | n + 1 => by
    obtain ⟨h1, h2⟩ := fL_val key m n
    obtain ⟨b1, b2⟩ := blk_lim m n
    obtain ⟨r1, r2⟩ := rL_val key
    obtain ⟨a1, a2⟩ := addL_val h1.lim b1
    obtain ⟨t1, t2⟩ := timL_val (a1.up (by omega)) r1
    rw [fL]
    refine ⟨t1, t2.trans ?_⟩
    rw [a2, b2, r2, pAcc, ← h2]
    generalize gV 67108864 (fL (rL key) m n) = V
    have e : (V % (pQ : Int) + pBlk m n) % (pQ : Int) = (V + pBlk m n) % (pQ : Int) := by rw [Int.add_emod, Int.emod_emod, ← Int.add_emod]
    rw [Int.mul_emod, ← e, ← Int.mul_emod]
/-- The tag's bytes. -/
def sL (key : List UInt8) : List Int := limL (iB ((key.drop 16).take 16 ++ [0]))
def outL (key m : List UInt8) : List Int := setL (addL (redL (fL (rL key) m ((m.length + 15) / 16))) (sL key))
theorem iB_snoc (l : List UInt8) : gV 256 (iB (l ++ [0])) = ((leN l : Nat) : Int) := by
  unfold iB
  rw [List.map_append, gV_append, gV_bytes]
  simp [gV]
theorem sL_val {key : List UInt8} (hk : key.length = 32) : Lim 67108863 (sL key) ∧ gV 67108864 (sL key) = (pS key : Int) := by
  have hl : ((key.drop 16).take 16).length = 16 := by rw [List.length_take, List.length_drop]; omega
  obtain ⟨h1, h2⟩ := limL_val (D17_iB (l := (key.drop 16).take 16 ++ [0]) (by rw [List.length_append, hl]; rfl))
  refine ⟨h1, h2.trans ?_⟩
  rw [iB_snoc]
  have h3 := leN_lt ((key.drop 16).take 16)
  rw [hl, show (256 ^ 16 : Nat) = 340282366920938463463374607431768211456 from by decide +kernel] at h3
  unfold two130 pS
  exact Int.emod_eq_of_lt (by omega) (by omega)
theorem outL_val {key m : List UInt8} (hk : key.length = 32) : Lim 67108863 (outL key m) ∧ gV 67108864 (outL key m) = (pNum key m + pS key) % two130 := by
  obtain ⟨f1, f2⟩ := fL_val key m ((m.length + 15) / 16)
  obtain ⟨s1, s2⟩ := sL_val hk
  obtain ⟨r1, r2⟩ := redL_val f1.lim.len (fun i => (f1.lim.getD (by omega) i).1) f1.below
  obtain ⟨a1, a2⟩ := addL_val r1 s1
  obtain ⟨o1, o2⟩ := setL_val a1.len
  refine ⟨o1, o2.trans ?_⟩
  rw [a2, r2, f2, s2]
  rfl
theorem take16 (X : Nat) : (bytesN 17 X).take 16 = bytesN 16 X := by
  have e : bytesN 17 X = bytesN 16 X ++ bytesN 1 (X / 256 ^ 16) := bytesN_append 16 1 X
  rw [e, List.take_append_of_le_length (by rw [bytesN_length]; omega), List.take_of_length_le (by rw [bytesN_length]; omega)]
theorem mod16 (N K : Nat) (hK : K = 4 * 256 ^ 16) : bytesN 16 (N % K) = bytesN 16 N := by
  rw [← bytesN_mod 16 (N % K), ← bytesN_mod 16 N, hK]
  congr 1
  generalize (256 : Nat) ^ 16 = B
  exact Nat.mod_mul_left_mod _ _ _
/-- The code's tag is the document's. -/
theorem tag_bytes {key m : List UInt8} (hk : key.length = 32) : ∃ l : List UInt8, l.length = 17 ∧ blkL (outL key m) = iB l ∧ l.take 16 = polyTag key m := by
  obtain ⟨o1, o2⟩ := outL_val (m := m) hk
  obtain ⟨b1, b2⟩ := blkL_val o1
  have hp := (pAcc_range (pR key) m ((m.length + 15) / 16)).1
  have hnum : 0 ≤ pNum key m := hp
  obtain ⟨N, hN⟩ : ∃ N : Nat, (pNum key m + pS key) = (N : Int) := ⟨(pNum key m + pS key).toNat, by omega⟩
  rw [hN] at o2
  have e0 : ((1361129467683753853853498429727072845824 : Nat) : Int) = two130 := by decide +kernel
  have e : blkL (outL key m) = dig 17 (N % 1361129467683753853853498429727072845824) := dig_of b1.1 (fun i hi => by have := b1.2 i; omega) (by
    rw [b2, o2, Int.natCast_emod, e0])
  refine ⟨bytesN 17 (N % 1361129467683753853853498429727072845824), bytesN_length _ _, e, ?_⟩
  unfold polyTag
  rw [hN, Int.toNat_natCast, take16]
  exact mod16 N _ (by decide +kernel)

end Go.Proofs.Ytflefkmpllbeeaa

/- The walks of package poly's limbs: carried. Each theorem names its own conditions. -/
namespace Go.Proofs.Ytflefkmpllbeeaa
open Go.RowKit
set_option linter.unusedVariables false
set_option linter.unusedSimpArgs false

theorem Try.arr61 : (Try.prog.info? 61).map (·.size) = some 5 := by kernel_rfl
theorem lim_size {l : List Int} (h : l.length = 5) : (Try.prog.info? 61).map (·.size) = some (ints .u64 l).length := by rw [ints_length, h]; exact Try.arr61
theorem digit_q {w : World} {S i : Nat} {l : List Int} {t : TypeId} (h : Blk w S (ints .u64 l) t) (hi : i < l.length) : w.cell? ⟨S, i, none⟩ = some (.int .u64 (l.getD i 0)) := by
  rw [h.cell, ints_get hi]
theorem digit_b {w : World} {S i : Nat} {l : List Int} {t : TypeId} (h : Blk w S (ints .u8 l) t) (hi : i < l.length) : w.cell? ⟨S, i, none⟩ = some (.int .u8 (l.getD i 0)) := by
  rw [h.cell, ints_get hi]
theorem mask26 (a : Int) (h0 : 0 ≤ a) (h1 : a ≤ 18446744073709551615) : bits .and .u64 a 67108863 = a % 67108864 := by
  obtain ⟨n, rfl⟩ : ∃ n : Nat, a = (n : Int) := ⟨a.toNat, by omega⟩
  have h := bits_and_u64_nat n 67108863 (by omega) (by omega)
  have e : n &&& 67108863 = n % 67108864 := Nat.and_two_pow_sub_one_eq_mod n 26
  rw [e] at h
  exact h

set_option maxRecDepth 100000 in
set_option maxHeartbeats 4000000 in
theorem pcarried_any (a b c d e : Int) (ha : 0 ≤ a ∧ a ≤ 378302368699121664) (hb : 0 ≤ b ∧ b ≤ 378302368699121664) (hc : 0 ≤ c ∧ c ≤ 378302368699121664) (hd : 0 ≤ d ∧ d ≤ 378302368699121664) (he : 0 ≤ e ∧ e ≤ 90071992547409920) (w : World) :
    Calls Try.prog 54 #[.agg (ints .u64 [a, b, c, d, e]).toArray] w fun x w' => x = .returned (.agg (ints .u64 (carL [a, b, c, d, e])).toArray) ∧ Below w.heap.size w w' := by
  obtain ⟨b1, hb1⟩ : ∃ x, x = b + a / 67108864 := ⟨_, rfl⟩
  obtain ⟨c1, hc1⟩ : ∃ x, x = c + b1 / 67108864 := ⟨_, rfl⟩
  obtain ⟨d1, hd1⟩ : ∃ x, x = d + c1 / 67108864 := ⟨_, rfl⟩
  obtain ⟨e1, he1⟩ : ∃ x, x = e + d1 / 67108864 := ⟨_, rfl⟩
  obtain ⟨l, hl⟩ : ∃ x, x = a % 67108864 + 5 * (e1 / 67108864) := ⟨_, rfl⟩
  have HO : Hid (carL [a, b, c, d, e] = [l % 67108864, b1 % 67108864 + l / 67108864, c1 % 67108864, d1 % 67108864, e1 % 67108864]) := Lib.hid (by subst hl he1 hd1 hc1 hb1; rfl)
  have b2 : 0 ≤ b1 ∧ b1 ≤ 378302374400000000 := by omega
  have c2 : 0 ≤ c1 ∧ c1 ≤ 378302374400000000 := by omega
  have d2 : 0 ≤ d1 ∧ d1 ≤ 378302374400000000 := by omega
  have e2 : 0 ≤ e1 ∧ e1 ≤ 90071998300000000 := by omega
  have l2 : 0 ≤ l ∧ l ≤ 6777996000 := by omega
  rw [HO.out]
  have W1 : Hid (b + a / 67108864 = b1) := Lib.hid hb1.symm
  have W2 : Hid (c + b1 / 67108864 = c1) := Lib.hid hc1.symm
  have W3 : Hid (d + c1 / 67108864 = d1) := Lib.hid hd1.symm
  have W4 : Hid (e + d1 / 67108864 = e1) := Lib.hid he1.symm
  have W5 : Hid (a % 67108864 + 5 * (e1 / 67108864) = l) := Lib.hid hl.symm
  have HB := Lib.hid (boxes2 w (ints .u64 [a, b, c, d, e]) (ints .u64 [0, 0, 0, 0, 0]) 61 61)
  clear hb1 hc1 hd1 he1 hl HO
  go_enter Try.func54, Try.ntmps54
  go_upto_region 1 with (fail)
  obtain ⟨H1, H2, HE⟩ := HB.out
  change Code.wp _ _ _ _ ((w.alloc (.cells (ints .u64 [a, b, c, d, e]).toArray 61)).alloc (.cells (ints .u64 [0, 0, 0, 0, 0]).toArray 61))
  generalize (w.alloc (.cells (ints .u64 [a, b, c, d, e]).toArray 61)).alloc (.cells (ints .u64 [0, 0, 0, 0, 0]).toArray 61) = wa at *
  obtain ⟨A, hA⟩ : ∃ A, A = w.heap.size := ⟨_, rfl⟩
  have HAW : Hid (w.heap.size ≤ A) := Lib.hid (by omega)
  rw [← hA] at H1 H2 ⊢
  have H1 := Lib.hid H1
  have H2 := Lib.hid H2
  have HE : Hid (Ext w wa) := Lib.hid HE
  clear hA HB
  have q0 := H1.out.cell 0
  have q1 := H1.out.cell 1
  have f1 := H1.out.free 1
  simp only [ints, List.map_cons, List.map_nil, List.getElem?_cons_zero, List.getElem?_cons_succ] at q0 q1
  go_upto_region 2 with (fail)
  rw [W1.out]
  have H1 : Hid (Blk (wa.setCell ⟨A, 1, none⟩ (.int .u64 b1)) A (ints .u64 [a, b1, c, d, e]) 61) := Lib.hid (H1.out.seti 1 _)
  have H2 := Lib.hid (H2.out.far (a := ⟨A, 1, none⟩) (by simp) (.int .u64 b1))
  have HE : Hid (Ext w (wa.setCell ⟨A, 1, none⟩ (.int .u64 b1))) := Lib.hid (Below.setCell HE.out (by have := HAW.out; simp; omega) _)
  generalize wa.setCell ⟨A, 1, none⟩ (.int .u64 b1) = wa1 at *
  clear q0 q1 f1
  have q0 := H1.out.cell 1
  have q1 := H1.out.cell 2
  have f1 := H1.out.free 2
  simp only [ints, List.map_cons, List.map_nil, List.getElem?_cons_zero, List.getElem?_cons_succ] at q0 q1
  go_upto_region 3 with (fail)
  rw [W2.out]
  have H1 : Hid (Blk (wa1.setCell ⟨A, 2, none⟩ (.int .u64 c1)) A (ints .u64 [a, b1, c1, d, e]) 61) := Lib.hid (H1.out.seti 2 _)
  have H2 := Lib.hid (H2.out.far (a := ⟨A, 2, none⟩) (by simp) (.int .u64 c1))
  have HE : Hid (Ext w (wa1.setCell ⟨A, 2, none⟩ (.int .u64 c1))) := Lib.hid (Below.setCell HE.out (by have := HAW.out; simp; omega) _)
  generalize wa1.setCell ⟨A, 2, none⟩ (.int .u64 c1) = wa2 at *
  clear q0 q1 f1
  have q0 := H1.out.cell 2
  have q1 := H1.out.cell 3
  have f1 := H1.out.free 3
  simp only [ints, List.map_cons, List.map_nil, List.getElem?_cons_zero, List.getElem?_cons_succ] at q0 q1
  go_upto_region 4 with (fail)
  rw [W3.out]
  have H1 : Hid (Blk (wa2.setCell ⟨A, 3, none⟩ (.int .u64 d1)) A (ints .u64 [a, b1, c1, d1, e]) 61) := Lib.hid (H1.out.seti 3 _)
  have H2 := Lib.hid (H2.out.far (a := ⟨A, 3, none⟩) (by simp) (.int .u64 d1))
  have HE : Hid (Ext w (wa2.setCell ⟨A, 3, none⟩ (.int .u64 d1))) := Lib.hid (Below.setCell HE.out (by have := HAW.out; simp; omega) _)
  generalize wa2.setCell ⟨A, 3, none⟩ (.int .u64 d1) = wa3 at *
  clear q0 q1 f1
  have q0 := H1.out.cell 3
  have q1 := H1.out.cell 4
  have f1 := H1.out.free 4
  simp only [ints, List.map_cons, List.map_nil, List.getElem?_cons_zero, List.getElem?_cons_succ] at q0 q1
  go_upto_region 5 with (fail)
  rw [W4.out]
  have H1 : Hid (Blk (wa3.setCell ⟨A, 4, none⟩ (.int .u64 e1)) A (ints .u64 [a, b1, c1, d1, e1]) 61) := Lib.hid (H1.out.seti 4 _)
  have H2 := Lib.hid (H2.out.far (a := ⟨A, 4, none⟩) (by simp) (.int .u64 e1))
  have HE : Hid (Ext w (wa3.setCell ⟨A, 4, none⟩ (.int .u64 e1))) := Lib.hid (Below.setCell HE.out (by have := HAW.out; simp; omega) _)
  generalize wa3.setCell ⟨A, 4, none⟩ (.int .u64 e1) = wa4 at *
  clear q0 q1 f1
  have q0 := H1.out.cell 0
  have q1 := H1.out.cell 1
  have q2 := H1.out.cell 2
  have q3 := H1.out.cell 3
  have q4 := H1.out.cell 4
  have m0 := mask26 a (by omega) (by omega)
  have m1 := mask26 b1 (by omega) (by omega)
  have m2 := mask26 c1 (by omega) (by omega)
  have m3 := mask26 d1 (by omega) (by omega)
  have m4 := mask26 e1 (by omega) (by omega)
  have m5 := mask26 l (by omega) (by omega)
  simp only [ints, List.map_cons, List.map_nil, List.getElem?_cons_zero, List.getElem?_cons_succ] at q0 q1 q2 q3 q4
  go_upto_region 6 with (fail)
  rw [W5.out]
  go_wp2_with (refine wpList_store_blk rfl _ _ _ rfl (A + 1) (ints .u64 [l % 67108864, b1 % 67108864 + l / 67108864, c1 % 67108864, d1 % 67108864, e1 % 67108864]) rfl rfl _ _ H2.out rfl (lim_size rfl) (ints_one _ _) ?_; intro w5 hb5 hg5)
  refine bodyPost_ret (result_blk rfl _ (A + 1) _ _ _ _ rfl hb5 Try.underlying61 (lim_size rfl)) rfl ?_
  exact ⟨rfl, ext_grown HE.out hg5 (by have := HAW.out; omega)⟩


end Go.Proofs.Ytflefkmpllbeeaa

/- The walks of package poly's plus, settled, reduced. Each theorem names its own conditions. -/
namespace Go.Proofs.Ytflefkmpllbeeaa
open Go.RowKit
set_option linter.unusedVariables false
set_option linter.unusedSimpArgs false

theorem addL_len {x y : List Int} (hx : x.length = 5) : (addL x y).length = 5 := by unfold addL; rw [sA_length, hx]
theorem setL_len {x : List Int} (hx : x.length = 5) : (setL x).length = 5 := by unfold setL; rw [zRun_length, hx]

set_option maxRecDepth 100000 in
set_option maxHeartbeats 8000000 in
theorem pplus_any (x y : List Int) (w : World) (hx : Lim 1152921504606846976 x) (hy : Lim 1152921504606846976 y) :
    Calls Try.prog 33 #[.agg (ints .u64 x).toArray, .agg (ints .u64 y).toArray] w fun e w' => e = .returned (.agg (ints .u64 (addL x y)).toArray) ∧ Below w.heap.size w w' := by
  have HX := Lib.hid hx
  have HY := Lib.hid hy
  have HB := Lib.hid (boxes3 w (ints .u64 x) (ints .u64 y) (ints .u64 (List.replicate 5 0)) 61 61 61)
  clear hx hy
  go_enter Try.func33, Try.ntmps33
  go_upto_region 1 with (fail)
  obtain ⟨H1, H2, H3, HE⟩ := HB.out
  change Code.wp _ _ _ _ (((w.alloc (.cells (ints .u64 x).toArray 61)).alloc (.cells (ints .u64 y).toArray 61)).alloc (.cells (ints .u64 (List.replicate 5 0)).toArray 61))
  generalize ((w.alloc (.cells (ints .u64 x).toArray 61)).alloc (.cells (ints .u64 y).toArray 61)).alloc (.cells (ints .u64 (List.replicate 5 0)).toArray 61) = wa at *
  obtain ⟨A, hA⟩ : ∃ A, A = w.heap.size := ⟨_, rfl⟩
  have HAW : Hid (w.heap.size ≤ A) := Lib.hid (by omega)
  rw [← hA] at H1 H2 H3 ⊢
  have H1 : Hid (Blk wa A (ints .u64 (sA x y 0)) 61) := Lib.hid H1
  have H2 := Lib.hid H2
  have H3 := Lib.hid H3
  have HE : Hid (Ext w wa) := Lib.hid HE
  clear hA HB
  go_wp2_with fail
  go_loopw [6] (fun iv wr => ∃ (k : Nat), k ≤ 5 ∧ iv = .int .i64 (k : Int) ∧ Blk wr A (ints .u64 (sA x y k)) 61 ∧ Blk wr (A + 1) (ints .u64 y) 61 ∧ Blk wr (A + 1 + 1) (ints .u64 (List.replicate 5 0)) 61 ∧ Ext w wr) (fun iv _ => 5 - (intOf iv).toNat)
  case atStart => exact ⟨0, by omega, rfl, H1.out, H2.out, H3.out, HE.out⟩
  case round =>
    clear H1 H2 H3 HE
    obtain ⟨k, hk, rfl, hb1, hb2, hb3, hbel⟩ := hrel
    have k0 : (0 : Int) ≤ (k : Int) := Int.natCast_nonneg _
    have H1 := Lib.hid hb1
    have H2 := Lib.hid hb2
    have H3 := Lib.hid hb3
    have HE := Lib.hid hbel
    by_cases hlk : k < 5
    · have k1 : (k : Int) < 5 := by omega
      have q1 := digit_q hb1 (i := k) (by rw [sA_length, HX.out.len]; exact hlk)
      have q2 := digit_q hb2 (i := k) (by rw [HY.out.len]; exact hlk)
      have f1 := hb1.free k
      have hxa := HX.out.getD (by omega) k
      have hya := HY.out.getD (by omega) k
      rw [sA_getD x y k (by rw [HX.out.len]; exact hk) k, if_neg (Nat.lt_irrefl _)] at q1
      have HS : Hid (sA x y (k + 1) = (sA x y k).set k (x.getD k 0 + y.getD k 0)) := Lib.hid (by rw [sA, sA_getD x y k (by rw [HX.out.len]; exact hk) k, if_neg (Nat.lt_irrefl _)])
      clear hb1 hb2 hb3 hbel
      generalize x.getD k 0 = p at *
      generalize y.getD k 0 = q at *
      obtain ⟨p0, p1⟩ := hxa
      obtain ⟨r0, r1⟩ := hya
      go_wp2_with fail
      go_region
      go_wp2_with fail
      go_roundw
      case rel => exact ⟨k + 1, by omega, by go_num, by rw [HS.out]; exact (H1.out.seti k _).drewN 1, (H2.out.far (by simp) _).drewN 1, (H3.out.far (by simp; omega) _).drewN 1, Ext.trans (Below.setCell HE.out (by have := HAW.out; simp; omega) _) (Ext.drew _)⟩
      case measure => simp [intOf]; omega
    · have hk5 : k = 5 := by omega
      subst hk5
      clear hb1 hb2 hb3 hbel
      have HL : Hid ((sA x y 5).length = 5) := Lib.hid (by rw [sA_length, HX.out.len])
      have HR : Hid (addL x y = sA x y 5) := Lib.hid rfl
      generalize sA x y 5 = s at *
      have HI : Hid ((Try.prog.info? 61).map (·.size) = some (ints .u64 s).length) := Lib.hid (lim_size HL.out)
      have HLz : Hid ((ints .u64 s).length = (ints .u64 (List.replicate 5 0)).length) := Lib.hid (by rw [ints_length, HL.out]; rfl)
      go_wp2_with (first | (refine wpList_load_blk rfl _ _ rfl A rfl _ _ _ _ H1.out Try.underlying61 HI.out ?_) | (refine wpList_store_blk rfl _ _ _ rfl (A + 1 + 1) (ints .u64 s) rfl rfl _ _ H3.out HLz.out HI.out (ints_one _ _) ?_; intro w5 hb5 hg5))
      refine bodyPost_ret (result_blk rfl _ (A + 1 + 1) _ _ _ _ rfl hb5 Try.underlying61 HI.out) rfl ?_
      exact ⟨by rw [HR.out], ext_grown HE.out hg5 (by have := HAW.out; omega)⟩

set_option maxRecDepth 100000 in
set_option maxHeartbeats 8000000 in
theorem psettled_any (x : List Int) (w : World) (hx : Lim 1152921504606846976 x) :
    Calls Try.prog 32 #[.agg (ints .u64 x).toArray] w fun e w' => e = .returned (.agg (ints .u64 (setL x)).toArray) ∧ Below w.heap.size w w' := by
  have HX := Lib.hid hx
  have HB := Lib.hid (boxes2 w (ints .u64 x) (ints .u64 (List.replicate 5 0)) 61 61)
  clear hx
  go_enter Try.func32, Try.ntmps32
  go_upto_region 1 with (fail)
  obtain ⟨H1, H2, HE⟩ := HB.out
  change Code.wp _ _ _ _ ((w.alloc (.cells (ints .u64 x).toArray 61)).alloc (.cells (ints .u64 (List.replicate 5 0)).toArray 61))
  generalize (w.alloc (.cells (ints .u64 x).toArray 61)).alloc (.cells (ints .u64 (List.replicate 5 0)).toArray 61) = wa at *
  obtain ⟨A, hA⟩ : ∃ A, A = w.heap.size := ⟨_, rfl⟩
  have HAW : Hid (w.heap.size ≤ A) := Lib.hid (by omega)
  rw [← hA] at H1 H2 ⊢
  have H1 : Hid (Blk wa A (ints .u64 (zRun x 0).1) 61) := Lib.hid H1
  have H2 := Lib.hid H2
  have HE : Hid (Ext w wa) := Lib.hid HE
  clear hA HB
  go_wp2_with fail
  go_loopw [3, 5] (fun cv iv wr => ∃ (k : Nat), k ≤ 5 ∧ cv = .int .u64 (zRun x k).2 ∧ iv = .int .i64 (k : Int) ∧ Blk wr A (ints .u64 (zRun x k).1) 61 ∧ Blk wr (A + 1) (ints .u64 (List.replicate 5 0)) 61 ∧ Ext w wr) (fun _ iv _ => 5 - (intOf iv).toNat)
  case atStart => exact ⟨0, by omega, rfl, rfl, H1.out, H2.out, HE.out⟩
  case round =>
    clear H1 H2 HE
    obtain ⟨k, hk, rfl, rfl, hb1, hb2, hbel⟩ := hrel
    have k0 : (0 : Int) ≤ (k : Int) := Int.natCast_nonneg _
    have H1 := Lib.hid hb1
    have H2 := Lib.hid hb2
    have HE := Lib.hid hbel
    by_cases hlk : k < 5
    · have k1 : (k : Int) < 5 := by omega
      have q1 := digit_q hb1 (i := k) (by rw [zRun_length, HX.out.len]; exact hlk)
      have f1 := hb1.free k
      have hxa := HX.out.getD (by omega) k
      have hca := zRun_carry (M := 1152921504606846976) (by omega) x (HX.out.getD (by omega)) k
      rw [zRun_far x k k (Nat.le_refl _)] at q1
      have HS : Hid (zRun x (k + 1) = ((zRun x k).1.set k (((zRun x k).2 + x.getD k 0) % 67108864), ((zRun x k).2 + x.getD k 0) / 67108864)) := Lib.hid (by rw [zRun, zRun_far x k k (Nat.le_refl _)])
      clear hb1 hb2 hbel
      generalize x.getD k 0 = p at *
      generalize (zRun x k).2 = q at *
      obtain ⟨p0, p1⟩ := hxa
      obtain ⟨r0, r1⟩ := hca
      have m1 := mask26 (q + p) (by omega) (by omega)
      go_wp2_with fail
      go_roundw
      case rel => exact ⟨k + 1, by omega, by rw [HS.out], by go_num, by rw [HS.out]; exact H1.out.seti k _, H2.out.far (by simp) _, Below.setCell HE.out (by have := HAW.out; simp; omega) _⟩
      case measure => simp [intOf]; omega
    · have hk5 : k = 5 := by omega
      subst hk5
      clear hb1 hb2 hbel
      have HL : Hid ((zRun x 5).1.length = 5) := Lib.hid (by rw [zRun_length, HX.out.len])
      have HR : Hid (setL x = (zRun x 5).1) := Lib.hid rfl
      generalize (zRun x 5).1 = s at *
      have HI : Hid ((Try.prog.info? 61).map (·.size) = some (ints .u64 s).length) := Lib.hid (lim_size HL.out)
      have HLz : Hid ((ints .u64 s).length = (ints .u64 (List.replicate 5 0)).length) := Lib.hid (by rw [ints_length, HL.out]; rfl)
      go_wp2_with (first | (refine wpList_load_blk rfl _ _ rfl A rfl _ _ _ _ H1.out Try.underlying61 HI.out ?_) | (refine wpList_store_blk rfl _ _ _ rfl (A + 1) (ints .u64 s) rfl rfl _ _ H2.out HLz.out HI.out (ints_one _ _) ?_; intro w5 hb5 hg5))
      refine bodyPost_ret (result_blk rfl _ (A + 1) _ _ _ _ rfl hb5 Try.underlying61 HI.out) rfl ?_
      exact ⟨by rw [HR.out], ext_grown HE.out hg5 (by have := HAW.out; omega)⟩

end Go.Proofs.Ytflefkmpllbeeaa

/- An array of integers indexed by a variable, as a value; a slice of an array from a variable on. Nothing here speaks of a program. Each theorem names its own conditions. -/
namespace Go.Proofs.Ytflefkmpllbeeaa
open Go.RowKit
set_option linter.unusedVariables false
set_option linter.unusedSimpArgs false

theorem index_ints {P : Program} {T e : TypeId} {n : Nat} {kd : IntKind} (hT : P.underlying T = some (.array n e)) (hs : ∀ w, (sizeOf e).run P w = .ok 1 w) (ha : ∀ w, (isAgg e).run P w = .ok false w) (h : List Int) (hl : h.length = n) (k : Nat) (hk : k < n) (w : World) :
    (Instr.index T (.agg (ints kd h).toArray) (.int .i64 (k : Int))).run P w = .ok (.int kd (h.getD k 0)) w := by
  have hg : (ints kd h)[k]? = some (.int kd (h.getD k 0)) := ints_get (by rw [hl]; exact hk)
  have hi : 0 ≤ (k : Int) ∧ (k : Int) < (n : Int) := by omega
  unfold Instr.index
  simp only [asIntOf, Sem.run_bind, Sem.run_pure, Result.andThen_ok, run_underlying hT, hi, hs, part, ha]
  rw [if_pos ⟨trivial, trivial⟩]
  simp only [Sem.run_bind, hs, ha, Result.andThen_ok, Int.toNat_natCast, Nat.mul_one, List.getElem?_toArray, hg, Bool.false_eq_true, if_false, Sem.run_pure]
theorem cut_from {P : Program} {t e : TypeId} {n : Nat} (ht : P.underlying t = some (.array n e)) (h : ∀ w, (sizeOf e).run P w = .ok 1 w) (w : World) (A p : Nat) (hp : p < n) :
    (Instr.sliceAt t (.pointer (some ⟨A, 0, none⟩)) (some (.int .i64 (p : Int))) none none).run P w = .ok (.slice (some ⟨A, p, none⟩) (n - p) (n - p)) w := by
  have e1 : P.arrayLen t = n := by unfold Program.arrayLen; rw [ht]
  have e2 : P.elem t = e := by unfold Program.elem; rw [ht]
  rw [run_sliceAt_array_l w t ⟨A, 0, none⟩ (by rw [e1, e2]; exact ht) .i64 (p : Int) (by omega) (by rw [e1]; omega), e2, h, e1]
  simp [slicedAt, Addr.add, show ¬ n = p by omega]
  exact fun h => h.symm

end Go.Proofs.Ytflefkmpllbeeaa

/- The walks of package poly's word and limbsOf. Each theorem names its own conditions. -/
namespace Go.Proofs.Ytflefkmpllbeeaa
open Go.RowKit
set_option linter.unusedVariables false
set_option linter.unusedSimpArgs false

theorem Try.arr58 : (Try.prog.info? 58).map (·.size) = some 17 := by kernel_rfl
theorem blk_size17 {l : List Int} (h : l.length = 17) : (Try.prog.info? 58).map (·.size) = some (ints .u8 l).length := by rw [ints_length, h]; exact Try.arr58
theorem or4q {y0 y1 y2 y3 : Int} (h0 : 0 ≤ y0 ∧ y0 ≤ 255) (h1 : 0 ≤ y1 ∧ y1 ≤ 255) (h2 : 0 ≤ y2 ∧ y2 ≤ 255) (h3 : 0 ≤ y3 ∧ y3 ≤ 255) :
    bits .or .u64 (bits .or .u64 (bits .or .u64 y0 (y1 * 256)) (y2 * 65536)) (y3 * 16777216) = y0 + 256 * y1 + 65536 * y2 + 16777216 * y3 := by
  obtain ⟨x0, rfl⟩ : ∃ n : Nat, y0 = (n : Int) := ⟨y0.toNat, by omega⟩
  obtain ⟨x1, rfl⟩ : ∃ n : Nat, y1 = (n : Int) := ⟨y1.toNat, by omega⟩
  obtain ⟨x2, rfl⟩ : ∃ n : Nat, y2 = (n : Int) := ⟨y2.toNat, by omega⟩
  obtain ⟨x3, rfl⟩ : ∃ n : Nat, y3 = (n : Int) := ⟨y3.toNat, by omega⟩
  have a1 : (x1 : Int) * 256 = ((256 * x1 : Nat) : Int) := by omega
  have a2 : (x2 : Int) * 65536 = ((65536 * x2 : Nat) : Int) := by omega
  have a3 : (x3 : Int) * 16777216 = ((16777216 * x3 : Nat) : Int) := by omega
  have b1 : x0 ||| 256 * x1 = x0 + 256 * x1 := (Nat.or_comm _ _).trans ((or_sum 8 x0 x1 (by omega)).trans (Nat.add_comm _ _))
  have b2 : x0 + 256 * x1 ||| 65536 * x2 = x0 + 256 * x1 + 65536 * x2 := (Nat.or_comm _ _).trans ((or_sum 16 (x0 + 256 * x1) x2 (by omega)).trans (Nat.add_comm _ _))
  have b3 : x0 + 256 * x1 + 65536 * x2 ||| 16777216 * x3 = x0 + 256 * x1 + 65536 * x2 + 16777216 * x3 := (Nat.or_comm _ _).trans ((or_sum 24 (x0 + 256 * x1 + 65536 * x2) x3 (by omega)).trans (Nat.add_comm _ _))
  rw [a1, a2, a3, or64 _ _ (by omega) (by omega), b1, or64 _ _ (by omega) (by omega), b2, or64 _ _ (by omega) (by omega), b3]
  omega

set_option maxHeartbeats 2000000 in
/-- A word is read off four bytes of a block. -/
theorem pword_any (c off len cap : Nat) (zs : List Int) (t : TypeId) (w : World) (hb : Blk w c (ints .u8 zs) t) (hz : D17 zs) (hl : off + 4 ≤ 17) (h4 : 4 ≤ len) :
    Calls Try.prog 47 #[.slice (some ⟨c, off, none⟩) len cap] w fun e w' => e = .returned (.int .u64 (w4 zs off)) ∧ w' = w.drew := by
  have cc : ∀ j, j ≤ 3 → w.cell? ⟨c, off + j, none⟩ = some (.int .u8 (zs.getD (off + j) 0)) := fun j hj => digit_b hb (by have := hz.1; omega)
  have c0 := cc 0 (by omega)
  have c1 := cc 1 (by omega)
  have c2 := cc 2 (by omega)
  have c3 := cc 3 (by omega)
  simp only [Nat.add_zero] at c0
  have d0 := hz.2 off
  have d1 := hz.2 (off + 1)
  have d2 := hz.2 (off + 2)
  have d3 := hz.2 (off + 3)
  have HBE := Lib.hid (or4q d0 d1 d2 d3)
  have HW : Hid (w4 zs off = zs.getD off 0 + 256 * zs.getD (off + 1) 0 + 65536 * zs.getD (off + 2) 0 + 16777216 * zs.getD (off + 3) 0) := Lib.hid rfl
  generalize zs.getD off 0 = x0 at *
  generalize zs.getD (off + 1) 0 = x1 at *
  generalize zs.getD (off + 2) 0 = x2 at *
  generalize zs.getD (off + 3) 0 = x3 at *
  obtain ⟨d00, d01⟩ := d0
  obtain ⟨d10, d11⟩ := d1
  obtain ⟨d20, d21⟩ := d2
  obtain ⟨d30, d31⟩ := d3
  clear cc hb hl hz
  have i0 : (0 : Int) < (len : Int) ∧ (1 : Int) < (len : Int) ∧ (2 : Int) < (len : Int) ∧ (3 : Int) < (len : Int) := by omega
  obtain ⟨i0, i1, i2, i3⟩ := i0
  go_enter Try.func47, Try.ntmps47
  go_wp2_with fail
  go_region
  go_wp2_with fail
  go_ret
  exact ⟨by rw [HW.out, ← HBE.out]; rfl, rfl⟩

set_option maxRecDepth 100000 in
set_option maxHeartbeats 8000000 in
theorem plimbs_any (zs : List Int) (w : World) (hz : D17 zs) :
    Calls Try.prog 29 #[.agg (ints .u8 zs).toArray] w fun e w' => e = .returned (.agg (ints .u64 (limL zs)).toArray) ∧ Below w.heap.size w w' := by
  have HZ := Lib.hid hz
  have HB := Lib.hid (boxes3 w (ints .u8 zs) (ints .u64 (List.replicate 5 0)) (ints .u64 (List.replicate 5 0)) 58 61 61)
  clear hz
  go_enter Try.func29, Try.ntmps29
  go_upto_region 2 with (fail)
  obtain ⟨H1, H2, H3, HE⟩ := HB.out
  change Code.wp _ _ _ _ (((w.alloc (.cells (ints .u8 zs).toArray 58)).alloc (.cells (ints .u64 (List.replicate 5 0)).toArray 61)).alloc (.cells (ints .u64 (List.replicate 5 0)).toArray 61))
  generalize ((w.alloc (.cells (ints .u8 zs).toArray 58)).alloc (.cells (ints .u64 (List.replicate 5 0)).toArray 61)).alloc (.cells (ints .u64 (List.replicate 5 0)).toArray 61) = wa at *
  obtain ⟨A, hA⟩ : ∃ A, A = w.heap.size := ⟨_, rfl⟩
  have HAW : Hid (w.heap.size ≤ A) := Lib.hid (by omega)
  rw [← hA] at H1 H2 H3 ⊢
  have H1 := Lib.hid H1
  have H2 := Lib.hid H2
  have H3 : Hid (Blk wa (A + 1 + 1) (ints .u64 (lO zs 0)) 61) := Lib.hid H3
  have HE : Hid (Ext w wa) := Lib.hid HE
  clear hA HB
  go_wp2_with fail
  go_loopw [6] (fun iv wr => ∃ (k : Nat), k ≤ 5 ∧ iv = .int .i64 (k : Int) ∧ Blk wr A (ints .u8 zs) 58 ∧ Blk wr (A + 1) (ints .u64 (List.replicate 5 0)) 61 ∧ Blk wr (A + 1 + 1) (ints .u64 (lO zs k)) 61 ∧ Ext w wr) (fun iv _ => 5 - (intOf iv).toNat)
  case atStart => exact ⟨0, by omega, rfl, H1.out, H2.out, H3.out, HE.out⟩
  case round =>
    clear H1 H2 H3 HE
    obtain ⟨k, hk, rfl, hb1, hb2, hb3, hbel⟩ := hrel
    have k0 : (0 : Int) ≤ (k : Int) := Int.natCast_nonneg _
    have H1 := Lib.hid hb1
    have H2 := Lib.hid hb2
    have H3 := Lib.hid hb3
    have HE := Lib.hid hbel
    by_cases hlk : k < 5
    · have k1 : (k : Int) < 5 := by omega
      obtain ⟨d, hd⟩ : ∃ d, d = 26 * k / 8 := ⟨_, rfl⟩
      obtain ⟨s, hs⟩ : ∃ s, s = 26 * k % 8 := ⟨_, rfl⟩
      have d1 : 26 * (k : Int) / 8 = (d : Int) := by omega
      have d2 : Int.tdiv (26 * (k : Int)) 8 = (d : Int) := by rw [Int.tdiv_eq_ediv_of_nonneg (by omega)]; exact d1
      have s1 : 26 * (k : Int) % 8 = (s : Int) := by omega
      have s2 : Int.tmod (26 * (k : Int)) 8 = (s : Int) := by rw [Int.tmod_eq_emod_of_nonneg (by omega)]; exact s1
      have s3 : (s : Int) < 64 := by omega
      have s4 : (0 : Int) ≤ (s : Int) := by omega
      have hcut := cut_from Try.underlying58 Try.sizeOf5 wr A d (by omega)
      have HW := Lib.hid (pword_any A d (17 - d) (17 - d) zs 58 wr hb1 HZ.out (by omega) (by omega))
      have HS : Hid (lO zs (k + 1) = (lO zs k).set k (w4 zs d / 2 ^ s % 67108864)) := Lib.hid (by rw [lO, hd, hs])
      have hwr : 0 ≤ w4 zs d ∧ w4 zs d ≤ 4294967295 := by
        have h0 := HZ.out.2 d
        have h1 := HZ.out.2 (d + 1)
        have h2 := HZ.out.2 (d + 2)
        have h3 := HZ.out.2 (d + 3)
        unfold w4
        omega
      have hdv : 0 ≤ w4 zs d / 2 ^ s ∧ w4 zs d / 2 ^ s ≤ 4294967295 := by
        have hp : (0 : Int) < 2 ^ s := Int.pow_pos (by omega)
        exact ⟨Int.ediv_nonneg hwr.1 (by omega), Int.le_trans (Int.ediv_le_self _ hwr.1) hwr.2⟩
      have m1 := mask26 (w4 zs d / 2 ^ s) hdv.1 (by omega)
      have f1 := hb3.free k
      have q3 := digit_q hb3 (i := k) (by rw [lO_length]; exact hlk)
      generalize (lO zs k).getD k 0 = old at q3
      clear hb1 hb2 hb3 hbel hd hs
      generalize w4 zs d = p at *
      obtain ⟨p0, p1⟩ := hwr
      go_wp2_with fail
      refine HW.out.mono ?_
      rintro e w5 ⟨rfl, rfl⟩
      go_wp2_with fail
      go_roundw
      case rel => exact ⟨k + 1, by omega, by go_num, (H1.out.drewN 1).far (by simp; omega) _, (H2.out.drewN 1).far (by simp) _, by rw [HS.out]; exact (H3.out.drewN 1).seti k _, Below.setCell (HE.out.trans (Ext.drew _)) (by have := HAW.out; simp; omega) _⟩
      case measure => simp [intOf]; omega
    · have hk5 : k = 5 := by omega
      subst hk5
      clear hb1 hb2 hb3 hbel
      have HL : Hid ((lO zs 5).length = 5) := Lib.hid (lO_length zs 5)
      have HR : Hid (limL zs = lO zs 5) := Lib.hid rfl
      generalize lO zs 5 = s at *
      have HI : Hid ((Try.prog.info? 61).map (·.size) = some (ints .u64 s).length) := Lib.hid (lim_size HL.out)
      have HLz : Hid ((ints .u64 s).length = (ints .u64 (List.replicate 5 0)).length) := Lib.hid (by rw [ints_length, HL.out]; rfl)
      go_wp2_with (first | (refine wpList_load_blk rfl _ _ rfl (A + 1 + 1) rfl _ _ _ _ H3.out Try.underlying61 HI.out ?_) | (refine wpList_store_blk rfl _ _ _ rfl (A + 1) (ints .u64 s) rfl rfl _ _ H2.out HLz.out HI.out (ints_one _ _) ?_; intro w5 hb5 hg5))
      refine bodyPost_ret (result_blk rfl _ (A + 1) _ _ _ _ rfl hb5 Try.underlying61 HI.out) rfl ?_
      exact ⟨by rw [HR.out], ext_grown HE.out hg5 (by have := HAW.out; omega)⟩

end Go.Proofs.Ytflefkmpllbeeaa
