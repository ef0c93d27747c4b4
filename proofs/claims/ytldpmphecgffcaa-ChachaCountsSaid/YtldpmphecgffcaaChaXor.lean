/- The walks of package chacha's Block and xor. Each theorem names its own conditions. -/
import Derived.Test.YtldpmphecgffcaaChaMix
import Derived.Test.YtldpmphecgffcaaRowCut
import Derived.Test.YtldpmphecgffcaaFormKit
namespace Go.Proofs.Ytldpmphecgffcaa
open Go.RowKit
set_option linter.unusedVariables false
set_option linter.unusedSimpArgs false

theorem chaBlock_out (kb nb : List UInt8) (ctr : W32) : leB (wordsOut (chaInit kb ctr nb)) 64 = chaBlock kb ctr nb := rfl

set_option maxRecDepth 100000 in
set_option maxHeartbeats 4000000 in
theorem CBlock_num (kb nb : List UInt8) (c : Int) (w : World) (hk : kb.length = 32) (hn : nb.length = 12) (hc1 : -9223372036854775808 ≤ c) (hc2 : c ≤ 9223372036854775807) :
    Calls Try.prog 8 #[.agg (kb.map bval).toArray, .int .i64 c, .agg (nb.map bval).toArray] w fun e w' => e = .returned (.agg ((chaBlock kb (BitVec.ofInt 32 c) nb).map bval).toArray) ∧ Below w.heap.size w w' := by
  have HKL := Lib.hid hk
  have HNL := Lib.hid hn
  have HC1 := Lib.hid hc1
  have HC2 := Lib.hid hc2
  have HB := Lib.hid (boxes3 w (kb.map bval) (nb.map bval) (ints .u8 (List.replicate 64 0)) 23 25 28)
  have HIK : Hid ((Try.prog.info? 23).map (·.size) = some (kb.map bval).length) := Lib.hid (num_size hk)
  have HIN : Hid ((Try.prog.info? 25).map (·.size) = some (nb.map bval).length) := Lib.hid (nonce_size hn)
  clear hk hn hc1 hc2
  go_enter Try.func8, Try.ntmps8
  go_upto_region 1 with (fail)
  obtain ⟨H1, H2, H3, HE⟩ := HB.out
  change Code.wp _ _ _ _ (((w.alloc (.cells (kb.map bval).toArray 23)).alloc (.cells (nb.map bval).toArray 25)).alloc (.cells (ints .u8 (List.replicate 64 0)).toArray 28))
  generalize ((w.alloc (.cells (kb.map bval).toArray 23)).alloc (.cells (nb.map bval).toArray 25)).alloc (.cells (ints .u8 (List.replicate 64 0)).toArray 28) = wa at *
  obtain ⟨B, hB⟩ : ∃ B, B = w.heap.size := ⟨_, rfl⟩
  have HBW : Hid (w.heap.size ≤ B) := Lib.hid (by omega)
  rw [← hB] at H1 H2 H3 ⊢
  have H1 := Lib.hid H1
  have H2 := Lib.hid H2
  have H3 := Lib.hid H3
  have HE : Hid (Ext w wa) := Lib.hid HE
  clear hB HB
  go_wp2_with (first | (refine wpList_load_blk rfl _ _ rfl B rfl _ _ _ _ H1.out Try.underlying23 HIK.out ?_) | (refine wpList_load_blk rfl _ _ rfl (B + 1) rfl _ _ _ _ H2.out Try.underlying25 HIN.out ?_))
  refine (cstart_any kb nb c wa HKL.out HNL.out HC1.out HC2.out).mono ?_
  rintro e w5 ⟨rfl, hb⟩
  have H3 := Lib.hid (ext_blk H3.out hb)
  have HE := Lib.hid (HE.out.trans hb)
  clear hb
  have HO := Lib.hid (chaBlock_out kb nb (BitVec.ofInt 32 c))
  have HSL := Lib.hid (chaInit_length kb (BitVec.ofInt 32 c) nb)
  have HLO := Lib.hid (chaBlock_length kb (BitVec.ofInt 32 c) nb)
  generalize chaInit kb (BitVec.ofInt 32 c) nb = s at *
  go_wp2_with fail
  refine (cmixed_any s HSL.out w5).mono ?_
  rintro e w6 ⟨rfl, hb⟩
  have H3 := Lib.hid (ext_blk H3.out hb)
  have HE := Lib.hid (HE.out.trans hb)
  clear hb
  go_wp2_with fail
  refine (cbytes_any (wordsOut s) (wordsOut_length s) w6).mono ?_
  rintro e w7 ⟨rfl, hb⟩
  rw [HO.out]
  have H3 := Lib.hid (ext_blk H3.out hb)
  have HE := Lib.hid (HE.out.trans hb)
  clear hb HO
  obtain ⟨o, ho⟩ : ∃ o, o = chaBlock kb (BitVec.ofInt 32 c) nb := ⟨_, rfl⟩
  rw [← ho] at HLO ⊢
  have HO := Lib.hid ho
  have HIo : Hid ((Try.prog.info? 28).map (·.size) = some (o.map bval).length) := Lib.hid (sig_size HLO.out)
  have HLo : Hid ((o.map bval).length = (ints .u8 (List.replicate 64 0)).length) := Lib.hid (by rw [List.length_map, HLO.out, ints_length, List.length_replicate])
  clear ho
  go_wp2_with (refine wpList_store_blk rfl _ _ _ rfl (B + 1 + 1) (o.map bval) rfl rfl _ _ H3.out HLo.out HIo.out (bval_one _) ?_; intro w9 hb9 hg9)
  refine bodyPost_ret (result_blk rfl _ (B + 1 + 1) _ _ _ _ rfl hb9 Try.underlying28 HIo.out) rfl ?_
  exact ⟨by rw [HO.out], ext_grown HE.out hg9 (by have := HBW.out; omega)⟩

/-- The first k bytes of l, xored with o's, laid over cs from d on. -/
def xorK (cs : List UInt8) (d : Nat) (l o : List UInt8) : Nat → List UInt8
  | 0 => cs
  | k + 1 => (xorK cs d l o k).set (d + k) (l.getD k 0 ^^^ o.getD k 0)
theorem xorK_length (cs : List UInt8) (d : Nat) (l o : List UInt8) : ∀ k, (xorK cs d l o k).length = cs.length
  | 0 => rfl
  | k + 1 => by rw [xorK, List.length_set, xorK_length cs d l o k]
theorem xorK_getD (cs : List UInt8) (d : Nat) (l o : List UInt8) : ∀ k, d + k ≤ cs.length → ∀ i, (xorK cs d l o k).getD i 0 = if d ≤ i ∧ i < d + k then l.getD (i - d) 0 ^^^ o.getD (i - d) 0 else cs.getD i 0
  | 0, _, i => by rw [if_neg (by omega)]; rfl
  | k + 1, hk, i => by
    rw [xorK]
    by_cases e : d + k = i
    · subst e
      rw [if_pos (by omega), List.getD_eq_getElem?_getD, List.getElem?_set_self (by rw [xorK_length]; omega), show d + k - d = k from by omega]
      rfl
    · have h := xorK_getD cs d l o k (by omega) i
      rw [List.getD_eq_getElem?_getD, List.getElem?_set_ne e, ← List.getD_eq_getElem?_getD, h]
      by_cases h2 : d ≤ i ∧ i < d + k
      · rw [if_pos h2, if_pos (by omega)]
      · rw [if_neg h2, if_neg (by omega)]

set_option maxRecDepth 100000 in
set_option maxHeartbeats 8000000 in
theorem cxor_any (w0 w : World) (M d : Nat) (cs l o : List UInt8) (bv : Value) (hE : Ext w0 w) (hM : w0.heap.size ≤ M) (hb : Row1 w0 bv (l.map bval)) (hB : Blk w M (cs.map bval) 5) (ho : o.length = 64) (hl : d + l.length = cs.length) (hl0 : 0 < l.length) (hcs : cs.length ≤ 1099511627776) :
    Calls Try.prog 17 #[.slice (some ⟨M, d, none⟩) l.length l.length, bv, .agg (o.map bval).toArray] w fun e w' =>
      e = .returned (.int .i64 ((min l.length 64 : Nat) : Int)) ∧ Blk w' M ((xorK cs d l o (min l.length 64)).map bval) 5 ∧ w.grownBy w' (some M) := by
  obtain ⟨m, hm⟩ : ∃ m, m = min l.length 64 := ⟨_, rfl⟩
  rw [← hm]
  obtain ⟨v2, hr2, hs2⟩ := row_upto (P := Try.prog) Try.underlying31 Try.sizeOf5 hb m (by rw [List.length_map]; omega)
  obtain ⟨a2, c2, he2, ha1, ha2, ha3, ha4⟩ := id hr2
  have hlen2 : ((l.map bval).take m).length = m := by rw [List.length_take, List.length_map]; omega
  rw [hlen2] at he2 ha1
  obtain ⟨b3, off3, rfl, hb3, hcell⟩ := ha4 (by intro e; have h := congrArg List.length e; rw [hlen2] at h; simp at h; omega)
  obtain ⟨a, c, hv, _⟩ := id hb
  rw [List.length_map] at hv
  subst hv he2
  have HCELL : Hid (∀ k, k < m → ∀ w', Ext w0 w' → w'.cell? ⟨b3, off3 + k, none⟩ = some (.int .u8 ((l.getD k 0).toNat : Int))) := Lib.hid (fun k hk w' hx => by
    have h1 := hcell k (by rw [hlen2]; exact hk)
    rw [List.getElem?_take, if_pos hk, bval_get (by omega)] at h1
    rw [← h1]
    exact hx.cell (p := ⟨b3, off3 + k, none⟩) hb3)
  have HML : Hid (m ≤ l.length ∧ m ≤ 64 ∧ 0 < m) := Lib.hid (by omega)
  have hmin : (if (64 : Int) < (l.length : Int) then (64 : Int) else (l.length : Int)) = (m : Int) := by
    by_cases h : (64 : Int) < (l.length : Int)
    · rw [if_pos h]; omega
    · rw [if_neg h]; omega
  have HO := Lib.hid ho
  have HDL := Lib.hid hl
  have HMW := Lib.hid hM
  have HBX := Lib.hid (Blk.made w (o.map bval) 28)
  have HEX := Lib.hid (Ext.alloc w (.cells (o.map bval).toArray 28))
  have HB1 := Lib.hid (hB.alloc (.cells (o.map bval).toArray 28))
  have HMS := Lib.hid hB.lt
  have HE := Lib.hid (hE.trans HEX.out)
  have HG := Lib.hid (grown_of_below HEX.out (some M))
  have HCS := Lib.hid hcs
  clear hE hM hb hB ho hl hl0 hcs hr2 ha1 ha2 ha3 ha4 hcell hb3 hm hlen2 HEX
  go_enter Try.func17, Try.ntmps17
  go_upto_region 1 with (fail)
  change Code.wp _ _ _ _ (w.alloc (.cells (o.map bval).toArray 28))
  generalize w.alloc (.cells (o.map bval).toArray 28) = wa at *
  obtain ⟨O, hO⟩ : ∃ O, O = w.heap.size := ⟨_, rfl⟩
  rw [← hO] at HBX HMS ⊢
  clear hO
  go_wp2_with fail
  go_loopw [17] (fun iv wr => ∃ (k : Nat), k ≤ m ∧ iv = .int .i64 (k : Int) ∧ Blk wr M ((xorK cs d l o k).map bval) 5 ∧ Blk wr O (o.map bval) 28 ∧ Ext w0 wr ∧ w.grownBy wr (some M)) (fun iv _ => m - (intOf iv).toNat)
  case atStart => exact ⟨0, by omega, rfl, HB1.out, HBX.out, HE.out, HG.out⟩
  case round =>
    clear HB1 HBX HE HG
    obtain ⟨k, hk, rfl, h1, h2, hE, hG⟩ := hrel
    have k0 : (0 : Int) ≤ (k : Int) := Int.natCast_nonneg _
    by_cases hlk : k < m
    · have k1 : (k : Int) < (m : Int) := by omega
      have k2 : (k : Int) < 64 := by have := HML.out; omega
      have k3 : (k : Int) < (l.length : Int) := by have := HML.out; omega
      have e1 := HCELL.out k hlk wr hE
      have e2 := h2.cell k
      rw [bval_get (by rw [HO.out]; omega)] at e2
      obtain ⟨u3, e3⟩ : ∃ u, wr.cell? ⟨M, d + k, none⟩ = some u := ⟨_, by rw [h1.cell, bval_get (by rw [xorK_length]; have := HDL.out; omega)]⟩
      have f3 := h1.free (d + k)
      have x1 := xor_u8 (l.getD k 0) (o.getD k 0)
      have HX : Hid (Blk (wr.setCell ⟨M, d + k, none⟩ (bval (l.getD k 0 ^^^ o.getD k 0))) M ((xorK cs d l o (k + 1)).map bval) 5) := Lib.hid (by rw [xorK, List.map_set]; exact h1.set _ _)
      have H2 := Lib.hid (h2.far (a := ⟨M, d + k, none⟩) (by have := HMS.out; simp; omega) (bval (l.getD k 0 ^^^ o.getD k 0)))
      have HE : Hid (Ext w0 (wr.setCell ⟨M, d + k, none⟩ (bval (l.getD k 0 ^^^ o.getD k 0)))) := Lib.hid (Below.setCell hE HMW.out _)
      have HG := Lib.hid (grownBy_set hG (d + k) (bval (l.getD k 0 ^^^ o.getD k 0)))
      clear h1 h2 hE hG
      unfold bval at HX H2 HE HG
      generalize l.getD k 0 ^^^ o.getD k 0 = z at *
      generalize l.getD k 0 = y1 at *
      generalize o.getD k 0 = y2 at *
      change wr.cell? ⟨O, k, none⟩ = some (.int .u8 (y2.toNat : Int)) at e2
      go_wp2_with fail
      have k63 : (k : Int) + 1 ≤ 9223372036854775807 := by omega
      go_wp2_with fail
      go_roundw
      case rel => exact ⟨k + 1, by omega, by go_num, HX.out, H2.out, HE.out, HG.out⟩
      case measure => simp [intOf]; omega
    · have hkm : k = m := by omega
      subst hkm
      go_wp2_with fail
      go_ret
      exact ⟨rfl, h1, hG⟩

end Go.Proofs.Ytldpmphecgffcaa
