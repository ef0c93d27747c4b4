/- The walk of package shb's Sum. Each theorem names its own conditions. -/
import Derived.Test.YtmadoehajapfhaaDoorShbEnd
import Derived.Test.YtmadoehajapfhaaDoorPcsOf
namespace Go.Proofs.YtmadoehajapfhaaDoor
open Go.RowKit
set_option linter.unusedVariables false
set_option linter.unusedSimpArgs false

/-- One more block of a message. -/
theorem hRun_nextQ (m x : List UInt8) (n : Nat) (hx : x = (m.drop (128 * n)).take 128) : mixFQ (gRun m n) x = gRun m (n + 1) := by rw [gRun_mix, hx]
/-- The last piece, laid over a block. -/
theorem last_topQ {c l d : List UInt8} {n : Nat} (h : c = d.take 128) (hn : c.length = n) (hd : n < 128) : (c ++ l.drop c.length).take n = d := by
  have hl : d.length = n := by
    rw [h, List.length_take] at hn
    omega
  rw [← hn, List.take_append_of_le_length (Nat.le_refl _), List.take_length, h, List.take_of_length_le (by omega)]
theorem filled_lengthQ {c l d : List UInt8} (h : c = d.take 128) (hl : l.length = 128) : (c ++ l.drop c.length).length = 128 := by
  have : c.length ≤ 128 := by rw [h, List.length_take]; omega
  simp
  omega
/-- The state of the hash of m: n blocks told, the next piece of it laid in the block. -/
structure ShaStQ (w0 w : World) (Bh Bm Bo : Nat) (m : List UInt8) (n : Nat) (c l : List UInt8) : Prop where
  all : l.length = 128
  few : 128 * n + c.length ≤ m.length
  piece : c = (m.drop (128 * n)).take 128
  blkH : Blk w Bh (ints .u64 (qs (gRun m n))) 59
  msg : MsgSt w0 w Bm ((m.drop (128 * n)).drop 128)
  blkO : Blk w Bo ((c ++ l.drop c.length).map bval) 62

set_option maxRecDepth 100000 in
set_option maxHeartbeats 8000000 in
theorem Sum_numQ (v : Value) (ls : List (List UInt8)) (w : World) (hv : RowB w v ls) (hb : ls.flatten.length ≤ 1099511627776) (hG : GlobRQ w) :
    Calls Tryd.prog 17 #[v] w fun e w' => e = .returned (.agg ((sha512 ls.flatten).map bval).toArray) ∧ Below w.heap.size w w' := by
  obtain ⟨a, cap, rfl, r1, r2⟩ := rowB_form hv
  obtain ⟨m, hm⟩ : ∃ m, m = ls.flatten := ⟨_, rfl⟩
  rw [← hm] at hb ⊢
  have HMD := Lib.hid hm
  clear hm
  have HRB := Lib.hid hv
  have HG := Lib.hid hG
  have HB := Lib.hid hb
  have HZ := Lib.hid (Blk.made w (ints .u8 (List.replicate 64 0)) 35)
  have HE := Lib.hid (Ext.alloc w (.cells (ints .u8 (List.replicate 64 0)).toArray 35))
  unfold maxLen at r1
  clear hv hG hb
  go_enter Tryd.func17, Tryd.ntmps17
  go_wp2_with fail
  change Calls _ _ _ (w.alloc (.cells (ints .u8 (List.replicate 64 0)).toArray 35)) _
  generalize w.alloc (.cells (ints .u8 (List.replicate 64 0)).toArray 35) = w1 at *
  obtain ⟨A, hA⟩ : ∃ A, A = w.heap.size := ⟨_, rfl⟩
  have HZ := HZ.out
  rw [← hA] at HZ ⊢
  have hA2 : w.heap.size ≤ A := by omega
  have HZ := Lib.hid HZ
  clear hA
  refine (start_anyQ w1).mono ?_
  rintro e w2 ⟨rfl, hb⟩
  have HZ := Lib.hid (ext_blk HZ.out hb)
  have HE := Lib.hid (HE.out.trans hb)
  clear hb
  have HZL := Lib.hid HZ.out.lt
  have HH := Lib.hid (Blk.made w2 (ints .u64 (List.replicate 8 0)) 59)
  have HZ := Lib.hid (HZ.out.alloc (.cells (ints .u64 (List.replicate 8 0)).toArray 59))
  have HS := Lib.hid HE.out.size
  have HE := Lib.hid (HE.out.trans (Ext.alloc w2 (.cells (ints .u64 (List.replicate 8 0)).toArray 59)))
  go_upto_region 2 with (refine wpList_store_blk rfl _ _ _ rfl w2.heap.size (ints .u64 (qs H512)) rfl rfl _ _ HH.out rfl Tryd.arr59 (ints_one _ _) ?_; intro w3 hb3 hg3)
  have HZ := Lib.hid (HZ.out.grown hg3 (by have := HZL.out; simp; omega))
  have HE := Lib.hid (ext_grown HE.out hg3 HS.out)
  have HH := Lib.hid hb3
  have HAB : Hid (A < w2.heap.size) := HZL
  generalize w2.heap.size = Bh at *
  clear hb3 hg3 HZL HS
  go_wp2_with fail
  refine (of_any a ls.length cap w3).mono ?_
  rintro e w4 ⟨rfl, hb⟩
  have HZ := Lib.hid (ext_blk HZ.out hb)
  have HHL := Lib.hid (Nat.lt_of_lt_of_le HH.out.lt hb.size)
  have HH := Lib.hid (ext_blk HH.out hb)
  have HE := Lib.hid (HE.out.trans hb)
  clear hb
  go_upto_region 3 with (fail)
  have HM := Lib.hid (Blk.made w4 [.slice none 0 0, .slice a ls.length cap] 48)
  have HH := Lib.hid (HH.out.alloc (.cells #[.slice none 0 0, .slice a ls.length cap] 48))
  have HZ := Lib.hid (HZ.out.alloc (.cells #[.slice none 0 0, .slice a ls.length cap] 48))
  have HS4 := Lib.hid HE.out.size
  have HE := Lib.hid (HE.out.trans (Ext.alloc w4 (.cells #[.slice none 0 0, .slice a ls.length cap] 48)))
  have HML : Hid (w4.heap.size < (w4.alloc (.cells #[.slice none 0 0, .slice a ls.length cap] 48)).heap.size) := Lib.hid (by simp)
  have HM : Hid (MsgSt w (w4.alloc (.cells #[.slice none 0 0, .slice a ls.length cap] 48)) w4.heap.size m) := Lib.hid ⟨_, _, [], ls, HM.out, Row1.nil w, HRB.out, by rw [HMD.out]; simp⟩
  generalize w4.alloc (.cells #[.slice none 0 0, .slice a ls.length cap] 48) = w5 at *
  have HBM : Hid (Bh < w4.heap.size) := HHL
  have hS4 : w.heap.size ≤ w4.heap.size := HS4.out
  generalize w4.heap.size = Bm at *
  clear HHL HS4
  have HO : Hid (Blk (w5.alloc (.cells (ints .u8 (List.replicate 128 0)).toArray 62)) w5.heap.size ((List.replicate 128 (0 : UInt8)).map bval) 62) := Lib.hid (Blk.made w5 (ints .u8 (List.replicate 128 0)) 62)
  have HM : Hid (MsgSt w (w5.alloc (.cells (ints .u8 (List.replicate 128 0)).toArray 62)) Bm m) := Lib.hid (HM.out.same (heap_alloc_old w5 _ HML.out))
  have HH := Lib.hid (HH.out.alloc (.cells (ints .u8 (List.replicate 128 0)).toArray 62))
  have HZ := Lib.hid (HZ.out.alloc (.cells (ints .u8 (List.replicate 128 0)).toArray 62))
  have HE := Lib.hid (HE.out.trans (Ext.alloc w5 (.cells (ints .u8 (List.replicate 128 0)).toArray 62)))
  go_upto_region 4 with (fail)
  change Code.wp _ _ _ _ (w5.alloc (.cells (ints .u8 (List.replicate 128 0)).toArray 62))
  generalize w5.alloc (.cells (ints .u8 (List.replicate 128 0)).toArray 62) = w6 at *
  generalize w5.heap.size = Bo at *
  have HF := Lib.hid (fill_any w w6 Bm Bo 128 m (List.replicate 128 0) 62 HM.out HO.out rfl (by omega) (by omega) HE.out hS4 HML.out)
  clear HM HO
  go_wp2_with fail
  refine HF.out.mono ?_
  intro e w7 hf
  unfold FillSaid at hf
  obtain ⟨c, hc, rfl, hM, hO, hbel⟩ := hf
  have HH := Lib.hid (HH.out.same (hbel.block Bh HBM.out))
  have HZ := Lib.hid (HZ.out.same (hbel.block A (Nat.lt_trans HAB.out HBM.out)))
  have HE : Hid (Ext w w7) := Lib.hid (Below.trans HE.out (hbel.mono hS4))
  have HST : Hid (ShaStQ w w7 Bh Bm Bo m 0 c (List.replicate 128 0)) := Lib.hid ⟨rfl, by rw [hc, List.length_take]; omega, by rw [hc]; rfl, HH.out, hM, hO⟩
  clear HH hc hM hO hbel HF HRB
  go_wp2_with fail
  go_loopw [4, 7] (fun i4 i7 wr => ∃ (n : Nat) (c l : List UInt8), i4 = .int .i64 (128 * (n : Int)) ∧ i7 = .int .i64 (c.length : Int) ∧ ShaStQ w wr Bh Bm Bo m n c l ∧ Blk wr A (ints .u8 (List.replicate 64 0)) 35 ∧ Ext w wr) (fun i4 _ _ => m.length - (intOf i4).toNat)
  case atStart => exact ⟨0, c, List.replicate 128 0, rfl, rfl, HST.out, HZ.out, HE.out⟩
  case round =>
    clear HST HZ HE
    obtain ⟨n, c, l, rfl, rfl, hst, hz, hbel⟩ := hrel
    have n0 : (0 : Int) ≤ (n : Int) := Int.natCast_nonneg _
    have c0 : (0 : Int) ≤ (c.length : Int) := Int.natCast_nonneg _
    have hc64 : c.length ≤ 128 := by rw [hst.piece, List.length_take]; omega
    have hcl := hst.few
    have hn40 : 128 * (n : Int) + (c.length : Int) ≤ 1099511627776 := by have := HB.out; omega
    have HJ := Lib.hid (filled_lengthQ (c := c) (l := l) hst.piece hst.all)
    have HR8 := Lib.hid (gRun_length m n)
    have HI1 : Hid ((Tryd.prog.info? 59).map (·.size) = some (ints .u64 (qs (gRun m n))).length) := Lib.hid (by rw [ints_length, qs_length, gRun_length]; exact Tryd.arr59)
    have HI2 : Hid ((Tryd.prog.info? 62).map (·.size) = some ((c ++ l.drop c.length).map bval).length) := Lib.hid (by rw [List.length_map, HJ.out]; exact Tryd.arr62)
    have HH := Lib.hid hst.blkH
    have HO := Lib.hid hst.blkO
    have HMS := Lib.hid hst.msg
    have HP := Lib.hid hst.piece
    have HA := Lib.hid hst.all
    have HZ := Lib.hid hz
    have HE := Lib.hid hbel
    have HFW := Lib.hid hcl
    clear hz hbel hst hcl
    by_cases h64 : c.length = 128
    · have t64 : ((c.length : Int) == 128) = true := by simp; omega
      have HC := Lib.hid h64
      have HX : Hid (c ++ l.drop c.length = (m.drop (128 * n)).take 128) := Lib.hid (by rw [h64, List.drop_eq_nil_of_le (by rw [HA.out]; omega), List.append_nil]; exact HP.out)
      have hn41 : 128 * (n : Int) + 128 ≤ 1099511627776 := by omega
      have HMX := Lib.hid (mixed_anyQ (gRun m n) (c ++ l.drop c.length) wr HR8.out HJ.out (HG.out.ext HE.out))
      rw [hRun_nextQ m _ n HX.out] at HMX
      have HJ2 := HJ
      generalize c ++ l.drop c.length = l2 at *
      have HI3 : Hid ((Tryd.prog.info? 59).map (·.size) = some (ints .u64 (qs (gRun m (n + 1)))).length) := Lib.hid (by rw [ints_length, qs_length, gRun_length]; exact Tryd.arr59)
      have HI4 : Hid ((ints .u64 (qs (gRun m (n + 1)))).length = (ints .u64 (qs (gRun m n))).length) := Lib.hid (by rw [ints_length, qs_length, gRun_length, ints_length, qs_length, gRun_length])
      clear h64 hc64
      generalize gRun m n = h0 at *
      obtain ⟨h1, hh1⟩ : ∃ h1, h1 = gRun m (n + 1) := ⟨_, rfl⟩
      rw [← hh1] at HMX HI3 HI4
      have HH1 := Lib.hid hh1
      clear hh1
      go_wp2_with (first | (refine wpList_load_blk rfl _ _ rfl Bh rfl _ _ _ _ HH.out Tryd.underlying59 HI1.out ?_) | (refine wpList_load_blk rfl _ _ rfl Bo rfl _ _ _ _ HO.out Tryd.underlying62 HI2.out ?_))
      refine HMX.out.mono ?_
      rintro e w8 ⟨rfl, hb⟩
      have HZ := Lib.hid (ext_blk HZ.out hb)
      have HH := Lib.hid (ext_blk HH.out hb)
      have HO := Lib.hid (ext_blk HO.out hb)
      have HMS := Lib.hid (HMS.out.same (hb.block Bm HMS.out.lt))
      have HE := Lib.hid (HE.out.trans hb)
      clear hb HMX
      go_upto_region 7 with (refine wpList_store_blk rfl _ _ _ rfl Bh (ints .u64 (qs h1)) rfl rfl _ _ HH.out HI4.out HI3.out (ints_one _ _) ?_; intro w9 hb9 hg9)
      have HZ := Lib.hid (HZ.out.grown hg9 (by have := HAB.out; simp; omega))
      have HO := Lib.hid (HO.out.grown hg9 (by have := HBM.out; have := HML.out; simp; omega))
      have HMS := Lib.hid (HMS.out.same (hg9.block Bm HMS.out.lt (by have := HBM.out; simp; omega)))
      have HE := Lib.hid (ext_grown HE.out hg9 (by have := HAB.out; omega))
      have HH := Lib.hid hb9
      clear hb9 hg9
      have HF := Lib.hid (fill_any w w9 Bm Bo 128 _ l2 62 HMS.out HO.out HJ2.out (by omega) (by omega) HE.out hS4 HML.out)
      clear HMS HO
      go_wp2_with fail
      refine HF.out.mono ?_
      intro e w10 hf
      unfold FillSaid at hf
      obtain ⟨c2, hc2, rfl, hM, hO, hbel⟩ := hf
      have HH := Lib.hid (HH.out.same (hbel.block Bh HBM.out))
      have HZ := Lib.hid (HZ.out.same (hbel.block A (Nat.lt_trans HAB.out HBM.out)))
      have HE : Hid (Ext w w10) := Lib.hid (Below.trans HE.out (hbel.mono hS4))
      have e64 : (m.drop (128 * n)).drop 128 = m.drop (128 * (n + 1)) := by rw [List.drop_drop, show 128 * n + 128 = 128 * (n + 1) from by omega]
      rw [e64] at hc2 hM
      have HST : Hid (ShaStQ w w10 Bh Bm Bo m (n + 1) c2 l2) := Lib.hid ⟨HJ2.out, by rw [hc2, List.length_take, List.length_drop]; have := HFW.out; have := HC.out; omega, hc2, by rw [← HH1.out]; exact HH.out, hM, hO⟩
      have HFN : Hid (128 * (n + 1) ≤ m.length) := Lib.hid (by have := HFW.out; have := HC.out; omega)
      clear HH hc2 hM hO hbel HF e64 t64
      go_wp2_with fail
      go_roundw
      case rel => exact ⟨n + 1, c2, l2, by go_num, rfl, HST.out, HZ.out, HE.out⟩
      case measure => have := HFN.out; simp [intOf]; omega
    · have t64 : ((c.length : Int) == 128) = false := by simp; omega
      have hpl : m.length = 128 * n + c.length := by
        have h := congrArg List.length HP.out
        rw [List.length_take, List.length_drop] at h
        have := HFW.out
        omega
      have hpi : 128 * (n : Int) + (c.length : Int) = (m.length : Int) := by omega
      have HTP := Lib.hid (last_topQ (l := l) HP.out rfl (by omega))
      have HCA := Lib.hid (closed_anyQ m (c ++ l.drop c.length) n c.length wr hpl (by omega) HJ.out HTP.out HB.out (HG.out.ext HE.out))
      clear h64 hpl hc64
      generalize c ++ l.drop c.length = l2 at *
      go_wp2_with (first | (refine wpList_load_blk rfl _ _ rfl Bh rfl _ _ _ _ HH.out Tryd.underlying59 HI1.out ?_) | (refine wpList_load_blk rfl _ _ rfl Bo rfl _ _ _ _ HO.out Tryd.underlying62 HI2.out ?_))
      refine HCA.out.mono ?_
      rintro e w5 ⟨rfl, hb⟩
      have HZ := Lib.hid (ext_blk HZ.out hb)
      have HE := Lib.hid (HE.out.trans hb)
      clear hb HCA
      have HSH : Hid (outQ (gRun (paddedQ m) ((m.length + 144) / 128)) = sha512 m) := Lib.hid rfl
      have HL8 := Lib.hid (gRun_length (paddedQ m) ((m.length + 144) / 128))
      generalize gRun (paddedQ m) ((m.length + 144) / 128) = R at *
      go_wp2_with fail
      refine (sigOf_any R HL8.out w5).mono ?_
      rintro e w6 ⟨rfl, hb⟩
      have HZ := Lib.hid (ext_blk HZ.out hb)
      have HE := Lib.hid (HE.out.trans hb)
      clear hb
      obtain ⟨o, ho⟩ : ∃ o, o = sha512 m := ⟨_, rfl⟩
      rw [HSH.out, ← ho]
      have HOL : Hid (o.length = 64) := Lib.hid (by rw [ho, sha512_length])
      have HOO := Lib.hid ho
      clear ho
      have HIo : Hid ((Tryd.prog.info? 35).map (·.size) = some (o.map bval).length) := Lib.hid (sig_size HOL.out)
      have HLo : Hid ((o.map bval).length = (ints .u8 (List.replicate 64 0)).length) := Lib.hid (by rw [List.length_map, HOL.out, ints_length, List.length_replicate])
      go_wp2_with (refine wpList_store_blk rfl _ _ _ rfl A (o.map bval) rfl rfl _ _ HZ.out HLo.out HIo.out (bval_one _) ?_; intro w7 hb7 hg7)
      refine bodyPost_ret (result_blk rfl _ A _ _ _ _ rfl hb7 Tryd.underlying35 HIo.out) rfl ?_
      exact ⟨by rw [HOO.out], ext_grown HE.out hg7 (by omega)⟩

end Go.Proofs.YtmadoehajapfhaaDoor
