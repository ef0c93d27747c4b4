/- The walk of package chacha's Turn. Each theorem names its own conditions. -/
import Derived.Test.YtldpmphecgffcaaChaXor
import Derived.Test.YtldpmphecgffcaaHeldMore
import Derived.Test.YtldpmphecgffcaaMakeKit
namespace Go.Proofs.Ytldpmphecgffcaa
open Go.RowKit
set_option linter.unusedVariables false
set_option linter.unusedSimpArgs false

/-- The first d bytes turned, noughts behind them. -/
def chaZ (kb : List UInt8) (c : Int) (nb b : List UInt8) (d : Nat) : List UInt8 := (List.range b.length).map fun i => if i < d then b.getD i 0 ^^^ chaByte kb c nb i else 0
theorem chaZ_length (kb : List UInt8) (c : Int) (nb b : List UInt8) (d : Nat) : (chaZ kb c nb b d).length = b.length := by simp [chaZ]
theorem chaZ_getD (kb : List UInt8) (c : Int) (nb b : List UInt8) (d : Nat) {i : Nat} (h : i < b.length) : (chaZ kb c nb b d).getD i 0 = if i < d then b.getD i 0 ^^^ chaByte kb c nb i else 0 := by
  simp [chaZ, List.getD, h]
theorem zB_getD (n i : Nat) : (zB n).getD i 0 = 0 := by
  unfold zB
  rw [List.getD_eq_getElem?_getD, List.getElem?_replicate]
  by_cases h : i < n
  · rw [if_pos h]; rfl
  · rw [if_neg h]; rfl
theorem chaZ_zero (kb : List UInt8) (c : Int) (nb b : List UInt8) : chaZ kb c nb b 0 = zB b.length := by
  apply bytes_ext (by rw [chaZ_length, zB_length])
  intro i hi
  rw [chaZ_length] at hi
  rw [chaZ_getD _ _ _ _ _ hi, if_neg (by omega), zB_getD]
theorem chaZ_full (kb : List UInt8) (c : Int) (nb b : List UInt8) (d : Nat) (h : b.length ≤ d) : chaZ kb c nb b d = chaTurn kb c nb b := by
  apply bytes_ext (by rw [chaZ_length, chaTurn_length])
  intro i hi
  rw [chaZ_length] at hi
  rw [chaZ_getD _ _ _ _ _ hi, if_pos (by omega), chaTurn_getD _ _ _ _ hi]
theorem chaZ_step (kb : List UInt8) (c : Int) (nb b o : List UInt8) (j : Nat) (ho : o = chaBlock kb (BitVec.ofInt 32 (c + (j : Int))) nb) (h : 64 * j < b.length) :
    xorK (chaZ kb c nb b (64 * j)) (64 * j) (b.drop (64 * j)) o (min (b.drop (64 * j)).length 64) = chaZ kb c nb b (min (64 * (j + 1)) b.length) := by
  have hdl : (b.drop (64 * j)).length = b.length - 64 * j := List.length_drop
  apply bytes_ext (by rw [xorK_length, chaZ_length, chaZ_length])
  intro i hi
  rw [xorK_length, chaZ_length] at hi
  rw [xorK_getD _ _ _ _ _ (by rw [chaZ_length, hdl]; omega), chaZ_getD _ _ _ _ _ hi, chaZ_getD _ _ _ _ _ hi, hdl]
  by_cases h1 : i < 64 * j
  · rw [if_neg (by omega), if_pos h1, if_pos (by omega)]
  · by_cases h2 : i < 64 * (j + 1)
    · rw [if_pos (by omega), if_pos (by omega)]
      have e1 : (b.drop (64 * j)).getD (i - 64 * j) 0 = b.getD i 0 := by
        rw [List.getD_eq_getElem?_getD, List.getD_eq_getElem?_getD, List.getElem?_drop, show 64 * j + (i - 64 * j) = i from by omega]
      have e2 : o.getD (i - 64 * j) 0 = chaByte kb c nb i := by
        unfold chaByte
        rw [ho, show i / 64 = j from by omega, show i % 64 = i - 64 * j from by omega]
      rw [e1, e2]
    · rw [if_neg (by omega), if_neg h1, if_neg (by omega)]
theorem ctr_next (c : Int) (j : Nat) : BitVec.ofInt 32 (c + (j : Int)) + 1#32 = BitVec.ofInt 32 (c + ((j + 1 : Nat) : Int)) := by
  apply BitVec.eq_of_toInt_eq
  rw [BitVec.toInt_add, BitVec.toInt_ofInt, BitVec.toInt_ofInt]
  have e : (1#32).toInt = 1 := by decide
  rw [e, Int.bmod_add_bmod]
  congr 1
  omega
theorem cut_tailL {P : Program} {t e : TypeId} (ht : P.underlying t = some (.slice e)) (hs : ∀ w, (sizeOf e).run P w = .ok 1 w) (M n i : Nat) (h : i < n) (w : World) :
    (Instr.sliceAt t (.slice (some ⟨M, 0, none⟩) n n) (some (.int .i64 (i : Int))) none none).run P w = .ok (.slice (some ⟨M, i, none⟩) (n - i) (n - i)) w := by
  have e2 : P.elem t = e := by unfold Program.elem; rw [ht]
  have ht2 : P.underlying t = some (.slice (P.elem t)) := by rw [e2]; exact ht
  rw [run_sliceAt_slice w t _ _ _ _ ht2, run_slice_l (ht := ht2) (kl := .i64) (l := (i : Int)) (h0 := by omega) (h1 := by omega), e2, hs]
  simp [sliced, Addr.add, show ¬ n = i by omega]
  omega

set_option maxRecDepth 100000 in
set_option maxHeartbeats 8000000 in
theorem CTurn_num (kb nb b : List UInt8) (bv : Value) (c : Int) (w : World) (hk : kb.length = 32) (hn : nb.length = 12) (hb : Row1 w bv (b.map bval)) (hbl : b.length ≤ 1099511627776) (hc1 : -9223372036854775808 ≤ c) (hc2 : c ≤ 9223372036854775807) :
    Calls Try.prog 10 #[.agg (kb.map bval).toArray, .int .i64 c, .agg (nb.map bval).toArray, bv] w fun e w' => ∃ x, e = .returned x ∧ w'.ownsRow w.heap.size 5 1 x b.length ((chaTurn kb c nb b).map bval) ∧ Below w.heap.size w w' := by
  obtain ⟨i0, hi0, hz0, hz1, hz2⟩ := info_parts Try.info5
  obtain ⟨a, cap, hv, _⟩ := id hb
  rw [List.length_map] at hv
  subst hv
  have HI0 := Lib.hid hi0
  have HZ0 := Lib.hid hz0
  have HZ1 := Lib.hid hz1
  have HZ2 := Lib.hid hz2
  have HKL := Lib.hid hk
  have HNL := Lib.hid hn
  have HC1 := Lib.hid hc1
  have HC2 := Lib.hid hc2
  have HBL := Lib.hid hbl
  have HR := Lib.hid hb
  have HB := Lib.hid (boxes2 w (kb.map bval) (nb.map bval) 23 25)
  have HIK : Hid ((Try.prog.info? 23).map (·.size) = some (kb.map bval).length) := Lib.hid (num_size hk)
  have HIN : Hid ((Try.prog.info? 25).map (·.size) = some (nb.map bval).length) := Lib.hid (nonce_size hn)
  have HSZ : Hid (((w.alloc (.cells (kb.map bval).toArray 23)).alloc (.cells (nb.map bval).toArray 25)).heap.size = w.heap.size + 1 + 1) := Lib.hid (by simp)
  clear hk hn hc1 hc2 hbl hb hi0 hz0 hz1 hz2
  go_enter Try.func10, Try.ntmps10
  go_upto_region 1 with (fail)
  obtain ⟨H1, H2, HE⟩ := HB.out
  change Code.wp _ _ _ _ ((w.alloc (.cells (kb.map bval).toArray 23)).alloc (.cells (nb.map bval).toArray 25))
  generalize (w.alloc (.cells (kb.map bval).toArray 23)).alloc (.cells (nb.map bval).toArray 25) = wa at *
  have hmk := run_make_zeros wa 31 5 Try.underlying31 i0 HI0.out HZ0.out HZ1.out HZ2.out b.length (by have := HBL.out; omega)
  have HMA := Blk.made wa ((zB b.length).map bval) 5
  have HEM := Ext.alloc wa (.cells ((zB b.length).map bval).toArray 5)
  have H1 := Lib.hid (ext_blk H1 HEM)
  have H2 := Lib.hid (ext_blk H2 HEM)
  have HE : Hid (Ext w _) := Lib.hid (Ext.trans (b := wa) HE HEM)
  have HM := Lib.hid HMA
  clear HMA HEM HB
  go_upto_region 2 with (fail)
  change Code.wp _ _ _ _ (wa.alloc (.cells ((zB b.length).map bval).toArray 5))
  clear hmk
  generalize wa.alloc (.cells ((zB b.length).map bval).toArray 5) = w2 at *
  obtain ⟨M, hM⟩ : ∃ M, M = wa.heap.size := ⟨_, rfl⟩
  have HMW : Hid (w.heap.size ≤ M) := Lib.hid (by rw [hM, HSZ.out]; omega)
  rw [← hM] at HM ⊢
  obtain ⟨K, hK⟩ : ∃ K, K = w.heap.size := ⟨_, rfl⟩
  rw [← hK] at H1 H2 ⊢
  clear hM hK HSZ
  go_wp2_with (first | (refine wpList_load_blk rfl _ _ rfl K rfl _ _ _ _ H1.out Try.underlying23 HIK.out ?_) | (refine wpList_load_blk rfl _ _ rfl (K + 1) rfl _ _ _ _ H2.out Try.underlying25 HIN.out ?_))
  refine (cstart_any kb nb c w2 HKL.out HNL.out HC1.out HC2.out).mono ?_
  rintro e w5 ⟨rfl, hb⟩
  have HM := Lib.hid (ext_blk HM.out hb)
  have HE := Lib.hid (HE.out.trans hb)
  clear hb H1 H2
  obtain ⟨s, hs⟩ : ∃ s, s = chaInit kb (BitVec.ofInt 32 c) nb := ⟨_, rfl⟩
  rw [← hs]
  have HSS := Lib.hid hs
  have HSL : Hid (s.length = 16) := Lib.hid (by rw [hs]; exact chaInit_length _ _ _)
  clear hs
  have HXB := Lib.hid (Blk.made w5 (ints .u32 (List.replicate 16 0)) 39)
  have HXA := Lib.hid (Ext.alloc w5 (.cells (ints .u32 (List.replicate 16 0)).toArray 39))
  have HML := Lib.hid HM.out.lt
  have HIs := Lib.hid (words_size HSL.out)
  have HLs : Hid ((ints .u32 (ws s)).length = (ints .u32 (List.replicate 16 0)).length) := Lib.hid (by rw [ints_length, ws_length, HSL.out, ints_length, List.length_replicate])
  go_upto_region 3 with (refine wpList_store_blk rfl _ _ _ rfl w5.heap.size (ints .u32 (ws s)) rfl rfl _ _ HXB.out HLs.out HIs.out (ints_one _ _) ?_; intro w7 hb7 hg7)
  have HX := Lib.hid hb7
  have HM := Lib.hid ((HM.out.below HXA.out).grown hg7 (fun e => by have h := Option.some.inj e; have := HML.out; omega))
  have HE := Lib.hid (ext_grown (HE.out.trans HXA.out) hg7 HE.out.size)
  have HMX : Hid (M ≠ w5.heap.size) := Lib.hid (by have := HML.out; omega)
  have HXW : Hid (w.heap.size ≤ w5.heap.size) := Lib.hid (by have := HML.out; have := HMW.out; omega)
  obtain ⟨X, hX⟩ : ∃ X, X = w5.heap.size := ⟨_, rfl⟩
  rw [← hX] at HX HMX HXW ⊢
  clear hX hb7 hg7 HXB HXA HML HLs HIs
  rw [HSS.out] at HX
  clear HSL HSS
  go_wp2_with fail
  go_loopw [11] (fun dv wr => ∃ (j : Nat), dv = .int .i64 ((min (64 * j) b.length : Nat) : Int) ∧ Blk wr M ((chaZ kb c nb b (min (64 * j) b.length)).map bval) 5 ∧ Blk wr X (ints .u32 (ws (chaInit kb (BitVec.ofInt 32 (c + (j : Int))) nb))) 39 ∧ Ext w wr) (fun dv _ => b.length - (intOf dv).toNat)
  case atStart => exact ⟨0, by simp, by rw [show min (64 * 0) b.length = 0 from by omega, chaZ_zero]; exact HM.out, by rw [show c + ((0 : Nat) : Int) = c from by omega]; exact HX.out, HE.out⟩
  case round =>
    clear HM HX HE
    obtain ⟨j, rfl, hm, hx, hE⟩ := hrel
    by_cases hlt : 64 * j < b.length
    · have hmn : min (64 * j) b.length = 64 * j := by omega
      have hlt2 : ((64 * j : Nat) : Int) < (b.length : Int) := by omega
      rw [hmn] at hm ⊢
      obtain ⟨l, hl⟩ : ∃ l, l = b.drop (64 * j) := ⟨_, rfl⟩
      obtain ⟨s, hs⟩ : ∃ s, s = chaInit kb (BitVec.ofInt 32 (c + (j : Int))) nb := ⟨_, rfl⟩
      obtain ⟨o, ho⟩ : ∃ o, o = chaBlock kb (BitVec.ofInt 32 (c + (j : Int))) nb := ⟨_, rfl⟩
      have HOUT : Hid (leB (wordsOut s) 64 = o) := Lib.hid (by rw [hs, ho]; exact chaBlock_out _ _ _)
      have HOL : Hid (o.length = 64) := Lib.hid (by rw [ho]; exact chaBlock_length _ _ _)
      have HSL : Hid (s.length = 16) := Lib.hid (by rw [hs]; exact chaInit_length _ _ _)
      have hstep := chaZ_step kb c nb b o j ho hlt
      rw [← hl] at hstep
      have HSTEP := Lib.hid hstep
      have HNEXT : Hid (s.set 12 (BitVec.ofInt 32 (c + (j : Int)) + 1#32) = chaInit kb (BitVec.ofInt 32 (c + ((j + 1 : Nat) : Int))) nb) := Lib.hid (by rw [hs, ctr_next]; rfl)
      have HC12 : Hid (s.getD 12 0#32 = BitVec.ofInt 32 (c + (j : Int))) := Lib.hid (by rw [hs]; rfl)
      rw [← hs] at hx
      have HIX := Lib.hid (words_size HSL.out)
      have HDD : Hid (l.length = b.length - 64 * j) := Lib.hid (by rw [hl]; exact List.length_drop)
      have HDL : Hid (64 * j + l.length = (chaZ kb c nb b (64 * j)).length) := Lib.hid (by rw [chaZ_length, HDD.out]; omega)
      have HDP : Hid (0 < l.length) := Lib.hid (by rw [HDD.out]; omega)
      have HZL : Hid ((chaZ kb c nb b (64 * j)).length ≤ 1099511627776) := Lib.hid (by rw [chaZ_length]; exact HBL.out)
      have HADD : Hid (IntKind.i64.wrap (((64 * j : Nat) : Int) + ((min l.length 64 : Nat) : Int)) = ((min (64 * (j + 1)) b.length : Nat) : Int)) := Lib.hid (by have := HBL.out; rw [IntKind.wrap_i64, HDD.out]; omega)
      have HCUT : Hid (∀ wx, (Instr.sliceAt 31 (.slice (some ⟨M, 0, none⟩) b.length b.length) (some (.int .i64 ((64 * j : Nat) : Int))) none none).run Try.prog wx = .ok (.slice (some ⟨M, 64 * j, none⟩) l.length l.length) wx) := Lib.hid (fun wx => by rw [HDD.out]; exact cut_tailL Try.underlying31 Try.sizeOf5 M b.length (64 * j) hlt wx)
      obtain ⟨bv2, hr2, hc2⟩ := row_cut (P := Try.prog) Try.underlying31 Try.sizeOf5 HR.out (64 * j) (by rw [List.length_map]; omega)
      rw [← List.map_drop, ← hl] at hr2
      have HR2 := Lib.hid hr2
      have HCUT2 := Lib.hid hc2
      have HM := Lib.hid hm
      have HX := Lib.hid hx
      have HE := Lib.hid hE
      have HLT := Lib.hid hlt
      clear hm hx hE hmn hlt hs ho hr2 hc2 hl hstep
      go_upto_region 5 with (fail)
      have B0 : Ext w wr.drew ∧ Blk wr.drew X (ints .u32 (ws s)) 39 := ⟨HE.out.trans (Ext.drew _), HX.out.below (Ext.drew _)⟩
      refine wp_region_held_drew (S := fun w' => Ext w w' ∧ Blk w' X (ints .u32 (ws s)) 39) (by kernel_rfl) B0 (fun hHeld => ?_)
      refine wpAnyH_take (i := 0) (v := .int .i64 ((64 * j : Nat) : Int)) rfl (by kernel_rfl) (by kernel_rfl) (by kernel_rfl) (fun _ _ _ h => h) (yi_move _ (.int .i64 ((64 * j : Nat) : Int)) (by rfl) rfl rfl) hHeld ?_
      simp only [Act.put, List.getElem_toArray, List.getElem_cons_zero, List.getElem_cons_succ, List.setIfInBounds_toArray, List.set_cons_zero, List.set_cons_succ]
      refine wpAnyH_take (i := 1) (v := .slice (some ⟨M, 0, none⟩) b.length b.length) rfl (by kernel_rfl) (by kernel_rfl) (by kernel_rfl) (fun _ _ _ h => h) (yi_move _ (.slice (some ⟨M, 0, none⟩) b.length b.length) (by rfl) rfl rfl) hHeld ?_
      simp only [Act.put, List.getElem_toArray, List.getElem_cons_zero, List.getElem_cons_succ, List.setIfInBounds_toArray, List.set_cons_zero, List.set_cons_succ]
      refine wpAnyH_take (i := 2) (v := .int .i64 ((64 * j : Nat) : Int)) rfl (by kernel_rfl) (by kernel_rfl) (by kernel_rfl) (fun _ _ _ h => h) (yi_move _ (.int .i64 ((64 * j : Nat) : Int)) (by rfl) rfl rfl) hHeld ?_
      simp only [Act.put, List.getElem_toArray, List.getElem_cons_zero, List.getElem_cons_succ, List.setIfInBounds_toArray, List.set_cons_zero, List.set_cons_succ]
      refine wpAnyH_take (i := 3) (v := .slice (some ⟨M, 64 * j, none⟩) l.length l.length) rfl (by kernel_rfl) (by kernel_rfl) (by kernel_rfl) (fun _ _ _ h => h) (yi_slice _ _ _ _ (.slice (some ⟨M, 0, none⟩) b.length b.length) (.slice (some ⟨M, 64 * j, none⟩) l.length l.length) (some (.int .i64 ((64 * j : Nat) : Int))) none (by rfl) rfl rfl rfl rfl HCUT.out) hHeld ?_
      simp only [Act.put, List.getElem_toArray, List.getElem_cons_zero, List.getElem_cons_succ, List.setIfInBounds_toArray, List.set_cons_zero, List.set_cons_succ]
      refine wpAnyH_take (i := 4) (v := .slice a b.length cap) rfl (by kernel_rfl) (by kernel_rfl) (by kernel_rfl) (fun _ _ _ h => h) (yi_move _ (.slice a b.length cap) (by rfl) rfl rfl) hHeld ?_
      simp only [Act.put, List.getElem_toArray, List.getElem_cons_zero, List.getElem_cons_succ, List.setIfInBounds_toArray, List.set_cons_zero, List.set_cons_succ]
      refine wpAnyH_take (i := 5) (v := .int .i64 ((64 * j : Nat) : Int)) rfl (by kernel_rfl) (by kernel_rfl) (by kernel_rfl) (fun _ _ _ h => h) (yi_move _ (.int .i64 ((64 * j : Nat) : Int)) (by rfl) rfl rfl) hHeld ?_
      simp only [Act.put, List.getElem_toArray, List.getElem_cons_zero, List.getElem_cons_succ, List.setIfInBounds_toArray, List.set_cons_zero, List.set_cons_succ]
      refine wpAnyH_take (i := 6) (v := bv2) rfl (by kernel_rfl) (by kernel_rfl) (by kernel_rfl) (fun _ _ _ h => h) (yi_slice _ _ _ _ (.slice a b.length cap) bv2 (some (.int .i64 ((64 * j : Nat) : Int))) none (by rfl) rfl rfl rfl rfl HCUT2.out) hHeld ?_
      simp only [Act.put, List.getElem_toArray, List.getElem_cons_zero, List.getElem_cons_succ, List.setIfInBounds_toArray, List.set_cons_zero, List.set_cons_succ]
      refine wpAnyH_take (i := 7) (v := .agg (ints .u32 (ws s)).toArray) rfl (by kernel_rfl) (by kernel_rfl) (by kernel_rfl) (fun _ _ _ h => h) (yieldsIf_load_mid (by rfl) _ _ rfl X 0 rfl _ _ (fun w h => Blk.range h.2) Try.underlying39 rfl HIX.out) hHeld ?_
      simp only [Act.put, List.getElem_toArray, List.getElem_cons_zero, List.getElem_cons_succ, List.setIfInBounds_toArray, List.set_cons_zero, List.set_cons_succ]
      refine wpAnyH_ready (rs := [8]) (by kernel_rfl) (by simp) (AllReadyH.cons rfl (fun K hK => ?_) AllReadyH.nil)
      go_simp
      refine (cmixed_any s HSL.out _).mono ?_
      rintro e m1 ⟨rfl, b1⟩
      have N1 : Ext w m1 ∧ Blk m1 X (ints .u32 (ws s)) 39 := ⟨B0.1.trans b1, ext_blk B0.2 b1⟩
      refine hK.out _ _ N1 (fun hHeld => ?_)
      clear hK K
      try simp only [Act.put, List.getElem_toArray, List.getElem_cons_zero, List.getElem_cons_succ, List.setIfInBounds_toArray, List.set_cons_zero, List.set_cons_succ]
      refine wpAnyH_ready (rs := [9]) (by kernel_rfl) (by simp) (AllReadyH.cons rfl (fun K hK => ?_) AllReadyH.nil)
      go_simp
      refine (cbytes_any (wordsOut s) (wordsOut_length s) _).mono ?_
      rintro e m2 ⟨rfl, b2⟩
      rw [HOUT.out]
      have N2 : Ext w m2 ∧ Blk m2 X (ints .u32 (ws s)) 39 := ⟨N1.1.trans b2, ext_blk N1.2 b2⟩
      refine hK.out _ _ N2 (fun hHeld => ?_)
      clear hK K
      try simp only [Act.put, List.getElem_toArray, List.getElem_cons_zero, List.getElem_cons_succ, List.setIfInBounds_toArray, List.set_cons_zero, List.set_cons_succ]
      refine wpAnyH_ready (rs := [10]) (by kernel_rfl) (by simp) (AllReadyH.cons rfl (fun K hK => ?_) AllReadyH.nil)
      go_simp
      refine (cxor_any w m2 M (64 * j) (chaZ kb c nb b (64 * j)) l o bv2 N2.1 HMW.out HR2.out (ext_blk (ext_blk (HM.out.below (Ext.drew _)) b1) b2) HOL.out HDL.out HDP.out HZL.out).mono ?_
      rintro e m3 ⟨rfl, hb3, hg3⟩
      rw [HSTEP.out] at hb3
      have N3 : Ext w m3 ∧ Blk m3 X (ints .u32 (ws s)) 39 := ⟨ext_grown N2.1 hg3 HMW.out, N2.2.grown hg3 (fun e => HMX.out (Option.some.inj e))⟩
      refine hK.out _ _ N3 (fun hHeld => ?_)
      clear hK K
      try simp only [Act.put, List.getElem_toArray, List.getElem_cons_zero, List.getElem_cons_succ, List.setIfInBounds_toArray, List.set_cons_zero, List.set_cons_succ]
      refine wpAnyH_take (i := 11) (v := .int .i64 ((min (64 * (j + 1)) b.length : Nat) : Int)) rfl (by kernel_rfl) (by kernel_rfl) (by kernel_rfl) (fun _ _ _ h => h) (yi_add .i64 _ _ _ _ _ _ _ HADD.out (by rfl) rfl rfl rfl) hHeld ?_
      simp only [Act.put, List.getElem_toArray, List.getElem_cons_zero, List.getElem_cons_succ, List.setIfInBounds_toArray, List.set_cons_zero, List.set_cons_succ]
      refine wpAnyH_ready (rs := [12]) (by kernel_rfl) (by simp) (AllReadyH.cons rfl (fun K hK => ?_) AllReadyH.nil)
      go_simp
      refine hK.out _ _ N3 (fun hHeld => ?_)
      clear hK K
      try simp only [Act.put, List.getElem_toArray, List.getElem_cons_zero, List.getElem_cons_succ, List.setIfInBounds_toArray, List.set_cons_zero, List.set_cons_succ]
      refine wpAnyH_done (by kernel_rfl) ?_ _
      have HM1 := Lib.hid hb3
      have HX1 := Lib.hid N3.2
      have HE1 := Lib.hid N3.1
      clear hb3 hg3 N1 N2 N3 b1 b2 B0 HM HX HE HADD HCUT HCUT2 HR2 HSTEP HOUT HDL HDP HZL HIX HDD
      have c0 := word_cell HX1.out (i := 12) (by rw [HSL.out]; omega)
      rw [HC12.out] at c0
      have f0 := HX1.out.free 12
      obtain ⟨z, hz⟩ : ∃ z, z = BitVec.ofInt 32 (c + (j : Int)) := ⟨_, rfl⟩
      rw [← hz] at HNEXT c0
      have hw1 : IntKind.u32.wrap (wi z + 1) = wi (z + 1#32) := wi_add z 1#32
      have hw2 := hw1
      rw [IntKind.wrap_u32] at hw2
      have HXS := set_word HX1.out 12 (wi (z + 1#32)) (z + 1#32) rfl
      rw [HNEXT.out] at HXS
      have HXS := Lib.hid HXS
      have HMS := Lib.hid (HM1.out.far (a := ⟨X, 12, none⟩) (fun e => HMX.out e.symm) (.int .u32 (wi (z + 1#32))))
      have HES : Hid (Ext w (m3.setCell ⟨X, 12, none⟩ (.int .u32 (wi (z + 1#32))))) := Lib.hid (far_ext HE1.out HXW.out)
      clear HM1 HX1 HE1 HNEXT HC12 hz
      generalize z + 1#32 = z1 at *
      go_wp2_with fail
      go_roundw
      case rel =>
        exact ⟨j + 1, rfl, HMS.out, HXS.out, HES.out⟩
      case measure => have := HLT.out; simp [intOf]; omega
    · have hmn : min (64 * j) b.length = b.length := by omega
      have hlt2 : ¬ ((b.length : Int) < (b.length : Int)) := by omega
      rw [hmn] at hm ⊢
      rw [chaZ_full kb c nb b _ (Nat.le_refl _)] at hm
      have HMF := Lib.hid hm
      have HE := Lib.hid hE
      clear hm hE hx hmn hlt
      go_wp2_with fail
      go_ret
      exact ⟨_, rfl, own_blk HMF.out HMW.out (by rw [List.length_map, chaTurn_length]) (by have := HBL.out; unfold maxLen; omega), HE.out⟩

end Go.Proofs.Ytldpmphecgffcaa
