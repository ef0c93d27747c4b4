/- Texts that belong together, one behind the other; each says in its own first remark what it shows. -/
import Derived.Test.YtcadfccijeodbaaDoorAll2
import Derived.Test.YtcadfccijeodbaaDoorAll1
import Derived.Lib.SlBytesConst
import Derived.Test.YtcadfccijeodbaaDoorProg

/- The walk of package sha's Sum. Each theorem names its own conditions. -/
namespace Go.Proofs.YtcadfccijeodbaaDoor
open Go.RowKit
set_option linter.unusedVariables false
set_option linter.unusedSimpArgs false

/-- One more block of a message. -/
theorem hRun_next (m x : List UInt8) (n : Nat) (hx : x = (m.drop (64 * n)).take 64) : mixF (hRun m n) x = hRun m (n + 1) := by rw [hRun_mix, hx]
/-- The last piece, laid over a block. -/
theorem last_top {c l d : List UInt8} {n : Nat} (h : c = d.take 64) (hn : c.length = n) (hd : n < 64) : (c ++ l.drop c.length).take n = d := by
  have hl : d.length = n := by
    rw [h, List.length_take] at hn
    omega
  rw [← hn, List.take_append_of_le_length (Nat.le_refl _), List.take_length, h, List.take_of_length_le (by omega)]
theorem filled_length {c l d : List UInt8} (h : c = d.take 64) (hl : l.length = 64) : (c ++ l.drop c.length).length = 64 := by
  have : c.length ≤ 64 := by rw [h, List.length_take]; omega
  simp
  omega
/-- The state of the hash of m: n blocks told, the next piece of it laid in the block. -/
structure ShaSt (w0 w : World) (Bh Bm Bo : Nat) (m : List UInt8) (n : Nat) (c l : List UInt8) : Prop where
  all : l.length = 64
  few : 64 * n + c.length ≤ m.length
  piece : c = (m.drop (64 * n)).take 64
  blkH : Blk w Bh (ints .u32 (ws (hRun m n))) 49
  msg : MsgSt w0 w Bm ((m.drop (64 * n)).drop 64)
  blkO : Blk w Bo ((c ++ l.drop c.length).map bval) 55

set_option maxRecDepth 100000 in
set_option maxHeartbeats 8000000 in
theorem Sum_num (v : Value) (ls : List (List UInt8)) (w : World) (hv : RowB w v ls) (hb : ls.flatten.length ≤ 1099511627776) (hG : GlobR w) :
    Calls Tryd.prog 18 #[v] w fun e w' => e = .returned (.agg ((sha256 ls.flatten).map bval).toArray) ∧ Below w.heap.size w w' := by
  obtain ⟨a, cap, rfl, r1, r2⟩ := rowB_form hv
  obtain ⟨m, hm⟩ : ∃ m, m = ls.flatten := ⟨_, rfl⟩
  rw [← hm] at hb ⊢
  have HMD := Lib.hid hm
  clear hm
  have HRB := Lib.hid hv
  have HG := Lib.hid hG
  have HB := Lib.hid hb
  have HZ := Lib.hid (Blk.made w (ints .u8 (List.replicate 32 0)) 26)
  have HE := Lib.hid (Ext.alloc w (.cells (ints .u8 (List.replicate 32 0)).toArray 26))
  unfold maxLen at r1
  clear hv hG hb
  go_enter Tryd.func18, Tryd.ntmps18
  go_wp2_with fail
  change Calls _ _ _ (w.alloc (.cells (ints .u8 (List.replicate 32 0)).toArray 26)) _
  generalize w.alloc (.cells (ints .u8 (List.replicate 32 0)).toArray 26) = w1 at *
  obtain ⟨A, hA⟩ : ∃ A, A = w.heap.size := ⟨_, rfl⟩
  have HZ := HZ.out
  rw [← hA] at HZ ⊢
  have hA2 : w.heap.size ≤ A := by omega
  have HZ := Lib.hid HZ
  clear hA
  refine (start_any w1).mono ?_
  rintro e w2 ⟨rfl, hb⟩
  have HZ := Lib.hid (ext_blk HZ.out hb)
  have HE := Lib.hid (HE.out.trans hb)
  clear hb
  have HZL := Lib.hid HZ.out.lt
  have HH := Lib.hid (Blk.made w2 (ints .u32 (List.replicate 8 0)) 49)
  have HZ := Lib.hid (HZ.out.alloc (.cells (ints .u32 (List.replicate 8 0)).toArray 49))
  have HS := Lib.hid HE.out.size
  have HE := Lib.hid (HE.out.trans (Ext.alloc w2 (.cells (ints .u32 (List.replicate 8 0)).toArray 49)))
  go_upto_region 2 with (refine wpList_store_blk rfl _ _ _ rfl w2.heap.size (ints .u32 (ws H256)) rfl rfl _ _ HH.out rfl Tryd.arr49 (ints_one _ _) ?_; intro w3 hb3 hg3)
  have HZ := Lib.hid (HZ.out.grown hg3 (by have := HZL.out; simp; omega))
  have HE := Lib.hid (ext_grown HE.out hg3 HS.out)
  have HH := Lib.hid hb3
  have HAB : Hid (A < w2.heap.size) := HZL
  generalize w2.heap.size = Bh at *
  clear hb3 hg3 HZL HS
  go_wp2_with fail
  refine (of_any a ls.length cap w3).mono ?_
  rintro e w4 ⟨rfl, hb⟩
  have HZ := Lib.hid (ext_blk HZ.out hb)
  have HHL := Lib.hid (Nat.lt_of_lt_of_le HH.out.lt hb.size)
  have HH := Lib.hid (ext_blk HH.out hb)
  have HE := Lib.hid (HE.out.trans hb)
  clear hb
  go_upto_region 3 with (fail)
  have HM := Lib.hid (Blk.made w4 [.slice none 0 0, .slice a ls.length cap] 52)
  have HH := Lib.hid (HH.out.alloc (.cells #[.slice none 0 0, .slice a ls.length cap] 52))
  have HZ := Lib.hid (HZ.out.alloc (.cells #[.slice none 0 0, .slice a ls.length cap] 52))
  have HS4 := Lib.hid HE.out.size
  have HE := Lib.hid (HE.out.trans (Ext.alloc w4 (.cells #[.slice none 0 0, .slice a ls.length cap] 52)))
  have HML : Hid (w4.heap.size < (w4.alloc (.cells #[.slice none 0 0, .slice a ls.length cap] 52)).heap.size) := Lib.hid (by simp)
  have HM : Hid (MsgSt w (w4.alloc (.cells #[.slice none 0 0, .slice a ls.length cap] 52)) w4.heap.size m) := Lib.hid ⟨_, _, [], ls, HM.out, Row1.nil w, HRB.out, by rw [HMD.out]; simp⟩
  generalize w4.alloc (.cells #[.slice none 0 0, .slice a ls.length cap] 52) = w5 at *
  have HBM : Hid (Bh < w4.heap.size) := HHL
  have hS4 : w.heap.size ≤ w4.heap.size := HS4.out
  generalize w4.heap.size = Bm at *
  clear HHL HS4
  have HO : Hid (Blk (w5.alloc (.cells (ints .u8 (List.replicate 64 0)).toArray 55)) w5.heap.size ((List.replicate 64 (0 : UInt8)).map bval) 55) := Lib.hid (Blk.made w5 (ints .u8 (List.replicate 64 0)) 55)
  have HM : Hid (MsgSt w (w5.alloc (.cells (ints .u8 (List.replicate 64 0)).toArray 55)) Bm m) := Lib.hid (HM.out.same (heap_alloc_old w5 _ HML.out))
  have HH := Lib.hid (HH.out.alloc (.cells (ints .u8 (List.replicate 64 0)).toArray 55))
  have HZ := Lib.hid (HZ.out.alloc (.cells (ints .u8 (List.replicate 64 0)).toArray 55))
  have HE := Lib.hid (HE.out.trans (Ext.alloc w5 (.cells (ints .u8 (List.replicate 64 0)).toArray 55)))
  go_upto_region 4 with (fail)
  change Code.wp _ _ _ _ (w5.alloc (.cells (ints .u8 (List.replicate 64 0)).toArray 55))
  generalize w5.alloc (.cells (ints .u8 (List.replicate 64 0)).toArray 55) = w6 at *
  generalize w5.heap.size = Bo at *
  have HF := Lib.hid (fill_any w w6 Bm Bo 64 m (List.replicate 64 0) 55 HM.out HO.out rfl (by omega) (by omega) HE.out hS4 HML.out)
  clear HM HO
  go_wp2_with fail
  refine HF.out.mono ?_
  intro e w7 hf
  unfold FillSaid at hf
  obtain ⟨c, hc, rfl, hM, hO, hbel⟩ := hf
  have HH := Lib.hid (HH.out.same (hbel.block Bh HBM.out))
  have HZ := Lib.hid (HZ.out.same (hbel.block A (Nat.lt_trans HAB.out HBM.out)))
  have HE : Hid (Ext w w7) := Lib.hid (Below.trans HE.out (hbel.mono hS4))
  have HST : Hid (ShaSt w w7 Bh Bm Bo m 0 c (List.replicate 64 0)) := Lib.hid ⟨rfl, by rw [hc, List.length_take]; omega, by rw [hc]; rfl, HH.out, hM, hO⟩
  clear HH hc hM hO hbel HF HRB
  go_wp2_with fail
  go_loopw [4, 7] (fun i4 i7 wr => ∃ (n : Nat) (c l : List UInt8), i4 = .int .i64 (64 * (n : Int)) ∧ i7 = .int .i64 (c.length : Int) ∧ ShaSt w wr Bh Bm Bo m n c l ∧ Blk wr A (ints .u8 (List.replicate 32 0)) 26 ∧ Ext w wr) (fun i4 _ _ => m.length - (intOf i4).toNat)
  case atStart => exact ⟨0, c, List.replicate 64 0, rfl, rfl, HST.out, HZ.out, HE.out⟩
  case round =>
    clear HST HZ HE
    obtain ⟨n, c, l, rfl, rfl, hst, hz, hbel⟩ := hrel
    have n0 : (0 : Int) ≤ (n : Int) := Int.natCast_nonneg _
    have c0 : (0 : Int) ≤ (c.length : Int) := Int.natCast_nonneg _
    have hc64 : c.length ≤ 64 := by rw [hst.piece, List.length_take]; omega
    have hcl := hst.few
    have hn40 : 64 * (n : Int) + (c.length : Int) ≤ 1099511627776 := by have := HB.out; omega
    have HJ := Lib.hid (filled_length (c := c) (l := l) hst.piece hst.all)
    have HR8 := Lib.hid (hRun_length m n)
    have HI1 : Hid ((Tryd.prog.info? 49).map (·.size) = some (ints .u32 (ws (hRun m n))).length) := Lib.hid (by rw [ints_length, ws_length, hRun_length]; exact Tryd.arr49)
    have HI2 : Hid ((Tryd.prog.info? 55).map (·.size) = some ((c ++ l.drop c.length).map bval).length) := Lib.hid (by rw [List.length_map, HJ.out]; exact Tryd.arr55)
    have HH := Lib.hid hst.blkH
    have HO := Lib.hid hst.blkO
    have HMS := Lib.hid hst.msg
    have HP := Lib.hid hst.piece
    have HA := Lib.hid hst.all
    have HZ := Lib.hid hz
    have HE := Lib.hid hbel
    have HFW := Lib.hid hcl
    clear hz hbel hst hcl
    by_cases h64 : c.length = 64
    · have t64 : ((c.length : Int) == 64) = true := by simp; omega
      have HC := Lib.hid h64
      have HX : Hid (c ++ l.drop c.length = (m.drop (64 * n)).take 64) := Lib.hid (by rw [h64, List.drop_eq_nil_of_le (by rw [HA.out]; omega), List.append_nil]; exact HP.out)
      have hn41 : 64 * (n : Int) + 64 ≤ 1099511627776 := by omega
      have HMX := Lib.hid (mixed_any (hRun m n) (c ++ l.drop c.length) wr HR8.out HJ.out (HG.out.ext HE.out))
      rw [hRun_next m _ n HX.out] at HMX
      have HJ2 := HJ
      generalize c ++ l.drop c.length = l2 at *
      have HI3 : Hid ((Tryd.prog.info? 49).map (·.size) = some (ints .u32 (ws (hRun m (n + 1)))).length) := Lib.hid (by rw [ints_length, ws_length, hRun_length]; exact Tryd.arr49)
      have HI4 : Hid ((ints .u32 (ws (hRun m (n + 1)))).length = (ints .u32 (ws (hRun m n))).length) := Lib.hid (by rw [ints_length, ws_length, hRun_length, ints_length, ws_length, hRun_length])
      clear h64 hc64
      generalize hRun m n = h0 at *
      obtain ⟨h1, hh1⟩ : ∃ h1, h1 = hRun m (n + 1) := ⟨_, rfl⟩
      rw [← hh1] at HMX HI3 HI4
      have HH1 := Lib.hid hh1
      clear hh1
      go_wp2_with (first | (refine wpList_load_blk rfl _ _ rfl Bh rfl _ _ _ _ HH.out Tryd.underlying49 HI1.out ?_) | (refine wpList_load_blk rfl _ _ rfl Bo rfl _ _ _ _ HO.out Tryd.underlying55 HI2.out ?_))
      refine HMX.out.mono ?_
      rintro e w8 ⟨rfl, hb⟩
      have HZ := Lib.hid (ext_blk HZ.out hb)
      have HH := Lib.hid (ext_blk HH.out hb)
      have HO := Lib.hid (ext_blk HO.out hb)
      have HMS := Lib.hid (HMS.out.same (hb.block Bm HMS.out.lt))
      have HE := Lib.hid (HE.out.trans hb)
      clear hb HMX
      go_upto_region 7 with (refine wpList_store_blk rfl _ _ _ rfl Bh (ints .u32 (ws h1)) rfl rfl _ _ HH.out HI4.out HI3.out (ints_one _ _) ?_; intro w9 hb9 hg9)
      have HZ := Lib.hid (HZ.out.grown hg9 (by have := HAB.out; simp; omega))
      have HO := Lib.hid (HO.out.grown hg9 (by have := HBM.out; have := HML.out; simp; omega))
      have HMS := Lib.hid (HMS.out.same (hg9.block Bm HMS.out.lt (by have := HBM.out; simp; omega)))
      have HE := Lib.hid (ext_grown HE.out hg9 (by have := HAB.out; omega))
      have HH := Lib.hid hb9
      clear hb9 hg9
      have HF := Lib.hid (fill_any w w9 Bm Bo 64 _ l2 55 HMS.out HO.out HJ2.out (by omega) (by omega) HE.out hS4 HML.out)
      clear HMS HO
      go_wp2_with fail
      refine HF.out.mono ?_
      intro e w10 hf
      unfold FillSaid at hf
      obtain ⟨c2, hc2, rfl, hM, hO, hbel⟩ := hf
      have HH := Lib.hid (HH.out.same (hbel.block Bh HBM.out))
      have HZ := Lib.hid (HZ.out.same (hbel.block A (Nat.lt_trans HAB.out HBM.out)))
      have HE : Hid (Ext w w10) := Lib.hid (Below.trans HE.out (hbel.mono hS4))
      have e64 : (m.drop (64 * n)).drop 64 = m.drop (64 * (n + 1)) := by rw [List.drop_drop, show 64 * n + 64 = 64 * (n + 1) from by omega]
      rw [e64] at hc2 hM
      have HST : Hid (ShaSt w w10 Bh Bm Bo m (n + 1) c2 l2) := Lib.hid ⟨HJ2.out, by rw [hc2, List.length_take, List.length_drop]; have := HFW.out; have := HC.out; omega, hc2, by rw [← HH1.out]; exact HH.out, hM, hO⟩
      have HFN : Hid (64 * (n + 1) ≤ m.length) := Lib.hid (by have := HFW.out; have := HC.out; omega)
      clear HH hc2 hM hO hbel HF e64 t64
      go_wp2_with fail
      go_roundw
      case rel => exact ⟨n + 1, c2, l2, by go_num, rfl, HST.out, HZ.out, HE.out⟩
      case measure => have := HFN.out; simp [intOf]; omega
    · have t64 : ((c.length : Int) == 64) = false := by simp; omega
      have hpl : m.length = 64 * n + c.length := by
        have h := congrArg List.length HP.out
        rw [List.length_take, List.length_drop] at h
        have := HFW.out
        omega
      have hpi : 64 * (n : Int) + (c.length : Int) = (m.length : Int) := by omega
      have HTP := Lib.hid (last_top (l := l) HP.out rfl (by omega))
      have HCA := Lib.hid (closed_any m (c ++ l.drop c.length) n c.length wr hpl (by omega) HJ.out HTP.out HB.out (HG.out.ext HE.out))
      clear h64 hpl hc64
      generalize c ++ l.drop c.length = l2 at *
      go_wp2_with (first | (refine wpList_load_blk rfl _ _ rfl Bh rfl _ _ _ _ HH.out Tryd.underlying49 HI1.out ?_) | (refine wpList_load_blk rfl _ _ rfl Bo rfl _ _ _ _ HO.out Tryd.underlying55 HI2.out ?_))
      refine HCA.out.mono ?_
      rintro e w5 ⟨rfl, hb⟩
      have HZ := Lib.hid (ext_blk HZ.out hb)
      have HE := Lib.hid (HE.out.trans hb)
      clear hb HCA
      have HSH : Hid (outB (hRun (padded m) ((m.length + 72) / 64)) = sha256 m) := Lib.hid rfl
      have HL8 := Lib.hid (hRun_length (padded m) ((m.length + 72) / 64))
      generalize hRun (padded m) ((m.length + 72) / 64) = R at *
      go_wp2_with fail
      refine (sha_numOf_any R HL8.out w5).mono ?_
      rintro e w6 ⟨rfl, hb⟩
      have HZ := Lib.hid (ext_blk HZ.out hb)
      have HE := Lib.hid (HE.out.trans hb)
      clear hb
      obtain ⟨o, ho⟩ : ∃ o, o = sha256 m := ⟨_, rfl⟩
      rw [HSH.out, ← ho]
      have HOL : Hid (o.length = 32) := Lib.hid (by rw [ho, sha256_length])
      have HOO := Lib.hid ho
      clear ho
      have HIo : Hid ((Tryd.prog.info? 26).map (·.size) = some (o.map bval).length) := Lib.hid (num_size HOL.out)
      have HLo : Hid ((o.map bval).length = (ints .u8 (List.replicate 32 0)).length) := Lib.hid (by rw [List.length_map, HOL.out, ints_length, List.length_replicate])
      go_wp2_with (refine wpList_store_blk rfl _ _ _ rfl A (o.map bval) rfl rfl _ _ HZ.out HLo.out HIo.out (bval_one _) ?_; intro w7 hb7 hg7)
      refine bodyPost_ret (result_blk rfl _ A _ _ _ _ rfl hb7 Tryd.underlying26 HIo.out) rfl ?_
      exact ⟨by rw [HOO.out], ext_grown HE.out hg7 (by omega)⟩

end Go.Proofs.YtcadfccijeodbaaDoor

/- Forms of rows and of a row of the call's own; a byte turned by another; pieces of a list. Nothing here speaks of a program. Each theorem names its own conditions. -/
namespace Go.Proofs.YtcadfccijeodbaaDoor
open Go.RowKit
set_option linter.unusedVariables false
set_option linter.unusedSimpArgs false

theorem own_form {w : World} {base n : Nat} {e : TypeId} {x : Value} {xs : List Value} (h : w.ownsRow base e 1 x n xs) (hn : 0 < n) :
    ∃ g cap cur, x = .slice (some ⟨g, 0, none⟩) n cap ∧ base ≤ g ∧ Blk w g cur e ∧ n ≤ cap ∧ cap ≤ maxLen ∧ cur.take n = xs ∧ n ≤ cur.length := by
  obtain ⟨h1, ⟨_, h0⟩ | ⟨g, cap, cur, rfl, h2, h3, h4, h5, h6, h7⟩⟩ := h
  · omega
  · rw [Nat.mul_one] at h7
    refine ⟨g, cap, cur.toList, rfl, h2, h3, h4, h5, h7, ?_⟩
    have := congrArg List.length h7
    rw [List.length_take] at this
    omega
theorem xor_u8 (a b : UInt8) : bits .xor .u8 (a.toNat : Int) (b.toNat : Int) = ((a ^^^ b).toNat : Int) := by
  have e1 : (BitVec.ofInt 8 (a.toNat : Int)) = a.toBitVec := by
    apply BitVec.eq_of_toNat_eq
    have := a.toNat_lt
    rw [BitVec.toNat_ofInt]
    show _ = a.toNat
    omega
  have e2 : (BitVec.ofInt 8 (b.toNat : Int)) = b.toBitVec := by
    apply BitVec.eq_of_toNat_eq
    have := b.toNat_lt
    rw [BitVec.toNat_ofInt]
    show _ = b.toNat
    omega
  show IntKind.u8.wrap ((BitVec.ofInt 8 (a.toNat : Int) ^^^ BitVec.ofInt 8 (b.toNat : Int)).toNat : Nat) = _
  rw [e1, e2, IntKind.wrap_u8]
  have h := (a ^^^ b).toNat_lt
  have e3 : (a.toBitVec ^^^ b.toBitVec).toNat = (a ^^^ b).toNat := rfl
  rw [e3]
  omega

theorem info_two {P : Program} {t : TypeId} {z : Value} {n : Nat} (h : (P.info? t).map (fun i => (i.zero, i.size)) = some (some z, n)) : ∃ i, P.info? t = some i ∧ i.zero = some z ∧ i.size = n := by
  cases hp : P.info? t with
  | none => rw [hp] at h; cases h
  | some i =>
    rw [hp] at h
    simp only [Option.map_some, Option.some.injEq, Prod.mk.injEq] at h
    exact ⟨i, rfl, h.1, h.2⟩
theorem row_form2 {w : World} {v : Value} {vs : List Value} (h : Row1 w v vs) : ∃ a n c, v = .slice a n c := by
  obtain ⟨a, c, rfl, _⟩ := h
  exact ⟨_, _, _, rfl⟩
theorem row_form {w : World} {v : Value} {vs : List Value} (h : Row1 w v vs) : ∃ a n c, v = .slice a n c := by
  obtain ⟨a, c, rfl, _⟩ := h
  exact ⟨_, _, _, rfl⟩
theorem cut3 (l : List UInt8) (p q : Nat) (h : p ≤ q) : [l.take p, (l.drop p).take (q - p), l.drop q].flatten = l := by
  have e : l.drop q = (l.drop p).drop (q - p) := by rw [List.drop_drop]; congr 1; omega
  simp only [List.flatten_cons, List.flatten_nil, List.append_nil]
  rw [e, List.take_append_drop, List.take_append_drop]
theorem cut4 (l : List UInt8) (q : Nat) : [[], l.take q, [], l.drop q].flatten = l := by
  simp

end Go.Proofs.YtcadfccijeodbaaDoor

/- The hash of one list, of three, of four, laid in a slice that was just made. Each theorem names its own conditions. -/
namespace Go.Proofs.YtcadfccijeodbaaDoor
open Go.RowKit
set_option linter.unusedVariables false
set_option linter.unusedSimpArgs false

/-- The hash of one list, laid in a slice that was just made. -/
theorem Sum_one (x : Value) (l : List UInt8) (w : World) (hx : Row1 w x (l.map bval)) (hl : l.length ≤ 1099511627776) (hG : GlobR w) :
    Calls Tryd.prog 18 #[.slice (some ⟨w.heap.size, 0, none⟩) 1 1] (w.alloc (.cells #[x] 34)) fun e w' => e = .returned (.agg ((sha256 l).map bval).toArray) ∧ Ext w w' := by
  have he := Ext.alloc w (.cells #[x] 34)
  have h := Sum_num _ [l] _ (rowB1 (Row1.made w #[x] 34 _ 1 [x] rfl rfl rfl (by unfold maxLen; omega)) (hx.below he)) (by simpa using hl) (hG.ext he)
  refine h.mono fun e w' hh => ⟨?_, he.trans hh.2⟩
  rw [hh.1]
  simp

/-- The hash of three lists, laid in a slice that was just made. -/
theorem Sum_three (x y z : Value) (l m n o : List UInt8) (w : World) (hx : Row1 w x (l.map bval)) (hy : Row1 w y (m.map bval)) (hz : Row1 w z (n.map bval)) (ho : [l, m, n].flatten = o) (hl : o.length ≤ 1099511627776) (hG : GlobR w) :
    Calls Tryd.prog 18 #[.slice (some ⟨w.heap.size, 0, none⟩) 3 3] (w.alloc (.cells #[x, y, z] 34)) fun e w' => e = .returned (.agg ((sha256 o).map bval).toArray) ∧ Ext w w' := by
  subst ho
  have he := Ext.alloc w (.cells #[x, y, z] 34)
  exact (Sum_num _ [l, m, n] _ (rowB3 (Row1.made w #[x, y, z] 34 _ 3 [x, y, z] rfl rfl rfl (by unfold maxLen; omega)) (hx.below he) (hy.below he) (hz.below he)) hl (hG.ext he)).mono fun e w' hh => ⟨hh.1, he.trans hh.2⟩
/-- The hash of four lists, laid in a slice that was just made. -/
theorem Sum_four (x y z u : Value) (l m n k o : List UInt8) (w : World) (hx : Row1 w x (l.map bval)) (hy : Row1 w y (m.map bval)) (hz : Row1 w z (n.map bval)) (hu : Row1 w u (k.map bval)) (ho : [l, m, n, k].flatten = o) (hl : o.length ≤ 1099511627776) (hG : GlobR w) :
    Calls Tryd.prog 18 #[.slice (some ⟨w.heap.size, 0, none⟩) 4 4] (w.alloc (.cells #[x, y, z, u] 34)) fun e w' => e = .returned (.agg ((sha256 o).map bval).toArray) ∧ Ext w w' := by
  subst ho
  have he := Ext.alloc w (.cells #[x, y, z, u] 34)
  exact (Sum_num _ [l, m, n, k] _ (rowB4 (Row1.made w #[x, y, z, u] 34 _ 4 [x, y, z, u] rfl rfl rfl (by unfold maxLen; omega)) (hx.below he) (hy.below he) (hz.below he) (hu.below he)) hl (hG.ext he)).mono fun e w' hh => ⟨hh.1, he.trans hh.2⟩

end Go.Proofs.YtcadfccijeodbaaDoor

/- The walks of the program's own rootOf, joined, Root. Laid by wip/gen/gmerd.py. Each theorem names its own conditions. -/
namespace Go.Proofs.YtcadfccijeodbaaDoor
open Go.RowKit
set_option linter.unusedVariables false
set_option linter.unusedSimpArgs false

theorem mer_sum (r : List UInt8) (ls : List (List UInt8)) (v : Value) (w : World) (hq : sha256 ls.flatten = r) (hv : RowB w v ls) (hb : ls.flatten.length ≤ 1099511627776) (hG : GlobR w) :
    Calls Tryd.prog 18 #[v] w fun e w' => e = .returned (.agg (r.map bval).toArray) ∧ Below w.heap.size w w' := by
  subst hq
  exact Sum_num v ls w hv hb hG
theorem rowB_nil (w : World) : RowB w (.slice none 0 0) [] := ⟨[], Row1.nil w, rfl, fun i x l hx _ => by simp at hx⟩
theorem mer_sum2 (v : Value) (b r : List UInt8) (w : World) (hq : sha256 (0 :: b) = r) (hv : Row1 w v (b.map bval)) (hb : b.length ≤ 1000000) (hG : GlobR w) :
    Calls Tryd.prog 18 #[.slice (some ⟨w.heap.size + 1, 0, none⟩) 2 2] ((w.alloc (.cells #[.int .u8 0] 5)).alloc (.cells #[.slice (some ⟨w.heap.size, 0, none⟩) 1 1, v] 34)) fun e w' => e = .returned (.agg (r.map bval).toArray) ∧ Ext w w' := by
  have e1 := Ext.alloc w (.cells #[.int .u8 0] 5)
  have r1 : Row1 (w.alloc (.cells #[.int .u8 0] 5)) (.slice (some ⟨w.heap.size, 0, none⟩) 1 1) (([0] : List UInt8).map bval) := Row1.made w _ _ _ 1 _ rfl rfl rfl (by unfold maxLen; omega)
  have hs : (w.alloc (.cells #[.int .u8 0] 5)).heap.size = w.heap.size + 1 := by simp
  have e2 := Ext.alloc (w.alloc (.cells #[.int .u8 0] 5)) (.cells #[.slice (some ⟨w.heap.size, 0, none⟩) 1 1, v] 34)
  have e3 := e1.trans e2
  have h := mer_sum r [[0], b] (.slice (some ⟨w.heap.size + 1, 0, none⟩) 2 2) _ (by simpa using hq) (rowB2 (Row1.made _ #[.slice (some ⟨w.heap.size, 0, none⟩) 1 1, v] 34 _ 2 _ hs rfl rfl (by unfold maxLen; omega)) (r1.below e2) (hv.below e3)) (by simp; omega) (hG.ext e3)
  exact h.mono fun e w' hh => ⟨hh.1, e3.trans hh.2⟩

set_option maxRecDepth 100000 in
set_option maxHeartbeats 8000000 in
theorem mrootOf_any (b : List UInt8) (v : Value) (w : World) (hbl : b.length ≤ 1000000) (hv : Row1 w v (b.map bval)) (hG : GlobR w) :
    Calls Tryd.prog 19 #[v] w fun e w' => e = .returned (.agg ((sha256 (0 :: b)).map bval).toArray) ∧ Below w.heap.size w w' := by
  obtain ⟨ab, cb, hmv, _⟩ := id hv
  rw [List.length_map] at hmv
  subst hmv
  obtain ⟨r, hr⟩ : ∃ r, r = sha256 (0 :: b) := ⟨_, rfl⟩
  rw [← hr]
  have HRL : Hid (r.length = 32) := Lib.hid (by rw [hr]; exact sha256_length _)
  have HIR := Lib.hid (num_size HRL.out)
  have HLR : Hid ((r.map bval).length = (ints .u8 (List.replicate 32 0)).length) := Lib.hid (by rw [List.length_map, HRL.out, ints_length, List.length_replicate])
  have HB0 := Lib.hid (Blk.made w (ints .u8 (List.replicate 32 0)) 26)
  have HE0 := Lib.hid (Ext.alloc w (.cells (ints .u8 (List.replicate 32 0)).toArray 26))
  have HC := Lib.hid (fun (wx : World) (hx : Ext w wx) => mer_sum2 (.slice ab b.length cb) b r wx hr.symm (hv.below hx) hbl (hG.ext hx))
  generalize b.length = nb at *
  clear hv hG hbl hr
  go_enter Tryd.func19, Tryd.ntmps19
  go_upto_region 1 with (fail)
  change Code.wp _ _ _ _ (w.alloc (.cells (ints .u8 (List.replicate 32 0)).toArray 26))
  generalize w.alloc (.cells (ints .u8 (List.replicate 32 0)).toArray 26) = wa at *
  obtain ⟨A, hA⟩ : ∃ A, A = w.heap.size := ⟨_, rfl⟩
  have HLA : Hid (w.heap.size ≤ A) := Lib.hid (by omega)
  rw [← hA] at HB0 ⊢
  clear hA
  go_wp2_with fail
  refine (HC.out wa HE0.out).mono ?_
  rintro e w1 ⟨rfl, hb⟩
  have HB1 := Lib.hid (ext_blk HB0.out hb)
  have HE1 := Lib.hid (HE0.out.trans hb)
  clear hb
  go_wp2_with (refine wpList_store_blk rfl _ _ _ rfl A (r.map bval) rfl rfl _ _ HB1.out HLR.out HIR.out (bval_one _) ?_; intro w10 hb10 hg10)
  refine bodyPost_ret (result_blk rfl _ A _ _ _ _ rfl hb10 Tryd.underlying26 HIR.out) rfl ⟨rfl, ext_grown HE1.out hg10 HLA.out⟩

set_option maxRecDepth 100000 in
set_option maxHeartbeats 8000000 in
theorem mjoined_any (la lb : List UInt8) (w : World) (ha : la.length = 32) (hb : lb.length = 32) (hG : GlobR w) :
    Calls Tryd.prog 21 #[.agg (la.map bval).toArray, .agg (lb.map bval).toArray] w fun e w' => e = .returned (.agg ((sha256 (1 :: (la ++ lb))).map bval).toArray) ∧ Below w.heap.size w w' := by
  obtain ⟨i0, hi, hz0, hz1, hz2⟩ := info_parts Tryd.info5
  obtain ⟨iq, hq0, hq1, hq2⟩ := info_two (P := Tryd.prog) (t := 34) (z := .slice none 0 0) (n := 1) (by kernel_rfl)
  have HI0 := Lib.hid hi
  have HZ0 := Lib.hid hz0
  have HZ1 := Lib.hid hz1
  have HZ2 := Lib.hid hz2
  have HQ0 := Lib.hid hq0
  have HQ1 := Lib.hid hq1
  have HQ2 := Lib.hid hq2
  have HG := Lib.hid hG
  have HaL := Lib.hid ha
  have HbL := Lib.hid hb
  have HIa := Lib.hid (num_size ha)
  have HIb := Lib.hid (num_size hb)
  obtain ⟨r, hr⟩ : ∃ r, r = sha256 (1 :: (la ++ lb)) := ⟨_, rfl⟩
  rw [← hr]
  have HQ := Lib.hid hr.symm
  have HRL : Hid (r.length = 32) := Lib.hid (by rw [hr]; exact sha256_length _)
  have HB := Lib.hid (boxes3 w (la.map bval) (lb.map bval) (ints .u8 (List.replicate 32 0)) 26 26 26)
  clear ha hb hG hi hz0 hz1 hz2 hq0 hq1 hq2 hr
  go_enter Tryd.func21, Tryd.ntmps21
  go_upto_region 1 with (fail)
  obtain ⟨H1, H2, H3, HE⟩ := HB.out
  change Code.wp _ _ _ _ (((w.alloc (.cells (la.map bval).toArray 26)).alloc (.cells (lb.map bval).toArray 26)).alloc (.cells (ints .u8 (List.replicate 32 0)).toArray 26))
  generalize ((w.alloc (.cells (la.map bval).toArray 26)).alloc (.cells (lb.map bval).toArray 26)).alloc (.cells (ints .u8 (List.replicate 32 0)).toArray 26) = wb at *
  have HE : Hid (Ext w wb) := Lib.hid HE
  obtain ⟨C, hC⟩ : ∃ C, C = w.heap.size + 1 + 1 := ⟨_, rfl⟩
  have HLC : Hid (w.heap.size ≤ C) := Lib.hid (by omega)
  rw [← hC] at H3 ⊢
  obtain ⟨B, hB⟩ : ∃ B, B = w.heap.size + 1 := ⟨_, rfl⟩
  rw [← hB] at H2 ⊢
  obtain ⟨A, hA⟩ : ∃ A, A = w.heap.size := ⟨_, rfl⟩
  rw [← hA] at H1 ⊢
  have H1 := Lib.hid H1
  have H2 := Lib.hid H2
  have H3 := Lib.hid H3
  clear hA hB hC HB
  have B0 : Ext wb wb.drew := Ext.drew _
  refine wp_region_held_drew (S := fun w' => Far (C) wb w') (by kernel_rfl) (fars_ext B0) (fun hHeld => ?_)
  refine wpAnyH_take (i := 1) (v := .slice (some ⟨A, 0, none⟩) 32 32) rfl (by kernel_rfl) (by kernel_rfl) (by kernel_rfl) (fun _ _ _ h => h) (yi_slice _ _ _ _ (.pointer (some ⟨A, 0, none⟩)) (.slice (some ⟨A, 0, none⟩) 32 32) none none (by rfl) rfl rfl rfl rfl (fun w => cut_whole Tryd.underlying26 Tryd.sizeOf5 (by omega) _ w)) hHeld ?_
  simp only [Act.put, List.getElem_toArray, List.getElem_cons_zero, List.getElem_cons_succ, List.setIfInBounds_toArray, List.set_cons_zero, List.set_cons_succ]
  refine wpAnyH_take (i := 2) (v := .slice (some ⟨B, 0, none⟩) 32 32) rfl (by kernel_rfl) (by kernel_rfl) (by kernel_rfl) (fun _ _ _ h => h) (yi_slice _ _ _ _ (.pointer (some ⟨B, 0, none⟩)) (.slice (some ⟨B, 0, none⟩) 32 32) none none (by rfl) rfl rfl rfl rfl (fun w => cut_whole Tryd.underlying26 Tryd.sizeOf5 (by omega) _ w)) hHeld ?_
  simp only [Act.put, List.getElem_toArray, List.getElem_cons_zero, List.getElem_cons_succ, List.setIfInBounds_toArray, List.set_cons_zero, List.set_cons_succ]
  refine wpAnyH_ready (rs := [0]) (by kernel_rfl) (by simp) (AllReadyH.cons rfl (fun K hK => ?_) AllReadyH.nil)
  refine step_wp (by rfl) ?_
  refine wp_buildSlice_d (some 5) _ _ _ _ rfl rfl #[.int .u8 1] i0 (.int .u8 0) Tryd.underlying34 HI0.out HZ0.out (by rw [HZ1.out]; decide) (by rw [HZ1.out]; decide) (by rw [HZ1.out]; kernel_rfl) ?_
  obtain ⟨m1, hm1⟩ : ∃ wNew, wNew = World.alloc wb.drew (.cells #[.int .u8 1] 5) := ⟨_, rfl⟩
  rw [← hm1]
  have b1 : Ext wb.drew m1 := by rw [hm1]; exact Ext.alloc _ _
  obtain ⟨g1, hg1⟩ : ∃ gNew, gNew = (wb.drew).heap.size := ⟨_, rfl⟩
  rw [← hg1]
  have r1 : Row1 m1 (.slice (some ⟨g1, 0, none⟩) 1 1) (([1] : List UInt8).map bval) := by rw [hm1, hg1]; exact Row1.made _ _ _ _ _ _ rfl rfl rfl (by unfold maxLen; omega)
  have o1 : World.ownsRow m1 (wb).heap.size 5 1 (.slice (some ⟨g1, 0, none⟩) 1 1) 1 (([1] : List UInt8).map bval) := by rw [hm1, hg1]; exact own_made _ _ _ _ _ _ rfl rfl (by unfold maxLen; omega) B0.size
  clear hm1 hg1
  have N1 : Ext wb m1 := B0.trans b1
  refine hK.out _ _ (fars_ext N1) (fun hHeld => ?_)
  clear hK K
  try simp only [Act.put, List.getElem_toArray, List.getElem_cons_zero, List.getElem_cons_succ, List.setIfInBounds_toArray, List.set_cons_zero, List.set_cons_succ]
  refine wpAnyH_ready (rs := [3]) (by kernel_rfl) (by simp) (AllReadyH.cons rfl (fun K hK => ?_) AllReadyH.nil)
  refine step_wp (by rfl) ?_
  refine wp_buildSlice_d (some 8) _ _ _ _ rfl rfl #[.slice (some ⟨g1, 0, none⟩) 1 1, .slice (some ⟨A, 0, none⟩) 32 32, .slice (some ⟨B, 0, none⟩) 32 32] iq (.slice none 0 0) Tryd.underlying22 HQ0.out HQ1.out (by rw [HQ2.out]; decide) (by rw [HQ2.out]; decide) (by rw [HQ2.out]; kernel_rfl) ?_
  obtain ⟨m2, hm2⟩ : ∃ wNew, wNew = World.alloc m1 (.cells #[.slice (some ⟨g1, 0, none⟩) 1 1, .slice (some ⟨A, 0, none⟩) 32 32, .slice (some ⟨B, 0, none⟩) 32 32] 34) := ⟨_, rfl⟩
  rw [← hm2]
  have b2 : Ext m1 m2 := by rw [hm2]; exact Ext.alloc _ _
  obtain ⟨g2, hg2⟩ : ∃ gNew, gNew = (m1).heap.size := ⟨_, rfl⟩
  rw [← hg2]
  have r1 := r1.below b2
  have o1 := own_below o1 b2
  have r2 : Row1 m2 (.slice (some ⟨g2, 0, none⟩) 3 3) [.slice (some ⟨g1, 0, none⟩) 1 1, .slice (some ⟨A, 0, none⟩) 32 32, .slice (some ⟨B, 0, none⟩) 32 32] := by rw [hm2, hg2]; exact Row1.made _ _ _ _ _ _ rfl rfl rfl (by unfold maxLen; omega)
  clear hm2 hg2
  have N2 : Ext wb m2 := N1.trans b2
  refine hK.out _ _ (fars_ext N2) (fun hHeld => ?_)
  clear hK K
  try simp only [Act.put, List.getElem_toArray, List.getElem_cons_zero, List.getElem_cons_succ, List.setIfInBounds_toArray, List.set_cons_zero, List.set_cons_succ]
  refine wpAnyH_ready (rs := [4]) (by kernel_rfl) (by simp) (AllReadyH.cons rfl (fun K hK => ?_) AllReadyH.nil)
  go_simp
  refine (mer_sum r [[1], la, lb] _ m2 (by simpa using HQ.out) (rowB3 r2 r1 ((blk_row (n := 32) H1.out (by rw [List.length_map]; exact HaL.out) (by unfold maxLen; omega)).below N2) ((blk_row (n := 32) H2.out (by rw [List.length_map]; exact HbL.out) (by unfold maxLen; omega)).below N2)) (by have := HaL.out; have := HbL.out; simp; omega) (HG.out.ext (HE.out.trans N2))).mono ?_
  rintro e m3 ⟨rfl, b3⟩
  have r1 := r1.below b3
  have r2 := r2.below b3
  have o1 := own_below o1 b3
  have N3 : Ext wb m3 := N2.trans b3
  refine hK.out _ _ (fars_ext N3) (fun hHeld => ?_)
  clear hK K
  try simp only [Act.put, List.getElem_toArray, List.getElem_cons_zero, List.getElem_cons_succ, List.setIfInBounds_toArray, List.set_cons_zero, List.set_cons_succ]
  refine wpAnyH_ready (rs := [5]) (by kernel_rfl) (by simp) (AllReadyH.cons rfl (fun K hK => ?_) AllReadyH.nil)
  refine step_wp (by rfl) ?_
  refine wp_store_blk _ _ _ rfl (C) ((r).map bval) rfl rfl _ _ (ext_blk H3.out N3) (by rw [List.length_map, HRL.out, ints_length]; rfl) (num_size (HRL.out)) (bval_one _) ?_
  intro m4 hb4 hg4
  refine hK.out _ _ (fars_put N3 hg4) (fun hHeld => ?_)
  clear hK K
  try simp only [Act.put, List.getElem_toArray, List.getElem_cons_zero, List.getElem_cons_succ, List.setIfInBounds_toArray, List.set_cons_zero, List.set_cons_succ]
  refine wpAnyH_done (by kernel_rfl) ?_ _
  have hfin := hb4
  have hNN := ext_grown (HE.out.trans N3) hg4 HLC.out
  generalize m4 = w11 at hfin hNN ⊢
  have HIo := Lib.hid (num_size HRL.out)
  go_wp2_with fail
  refine bodyPost_ret (result_blk rfl _ C _ _ _ _ rfl hfin Tryd.underlying26 HIo.out) rfl ⟨rfl, hNN⟩

def RootSaidM (n : Nat) : Prop := ∀ (ls : List (List UInt8)) (v : Value) (w : World), ls.length = n → (∀ l ∈ ls, l.length ≤ 1000000) → ls.length ≤ 1000000 → RowB w v ls → GlobR w →
    Calls Tryd.prog 11 #[v] w fun e w' => e = .returned (.agg ((merR ls).map bval).toArray) ∧ Below w.heap.size w w'

set_option maxRecDepth 100000 in
set_option maxHeartbeats 8000000 in
theorem mRoot_step (n : Nat) (ih : ∀ k, k < n → RootSaidM k) : RootSaidM n := by
  intro ls v w hn hbd hbl hv hG
  have HBL := Lib.hid hbl
  have HIH := Lib.hid ih
  have HG := Lib.hid hG
  have HBD := Lib.hid hbd
  have HN := Lib.hid hn
  obtain ⟨a, cap, rfl, r1, r2⟩ := mer_form hv
  unfold maxLen at r2
  have HV0 := Lib.hid hv
  have HB0 := Lib.hid (Blk.made w (ints .u8 (List.replicate 32 0)) 26)
  have HE0 := Lib.hid (Ext.alloc w (.cells (ints .u8 (List.replicate 32 0)).toArray 26))
  obtain ⟨r, hr⟩ : ∃ r, r = merR ls := ⟨_, rfl⟩
  rw [← hr]
  have HMR := Lib.hid hr.symm
  have HRL : Hid (r.length = 32) := Lib.hid (by rw [hr]; exact merR_length ls)
  have HIR := Lib.hid (num_size HRL.out)
  have HLR : Hid ((r.map bval).length = (ints .u8 (List.replicate 32 0)).length) := Lib.hid (by rw [List.length_map, HRL.out, ints_length, List.length_replicate])
  have l0 : (0 : Int) ≤ (ls.length : Int) := Int.natCast_nonneg _
  clear ih hG hbd hbl hn hv hr
  go_enter Tryd.func11, Tryd.ntmps11
  go_upto_region 1 with (fail)
  change Code.wp _ _ _ _ (w.alloc (.cells (ints .u8 (List.replicate 32 0)).toArray 26))
  generalize w.alloc (.cells (ints .u8 (List.replicate 32 0)).toArray 26) = wa at *
  obtain ⟨A, hA⟩ : ∃ A, A = w.heap.size := ⟨_, rfl⟩
  have HLA : Hid (w.heap.size ≤ A) := Lib.hid (by omega)
  rw [← hA] at HB0 ⊢
  have HV := Lib.hid (HV0.out.below HE0.out)
  clear hA HV0
  by_cases h0 : ls.length = 0
  · have h0' : (ls.length : Int) = 0 := by omega
    have HQ : Hid (sha256 ([] : List (List UInt8)).flatten = r) := Lib.hid ((merR_nil h0).symm.trans HMR.out)
    go_wp2_with fail
    refine (mer_sum r [] (.slice none 0 0) wa HQ.out (rowB_nil wa) (by decide) (HG.out.ext HE0.out)).mono ?_
    rintro e w1 ⟨rfl, hb⟩
    have HB1 := Lib.hid (ext_blk HB0.out hb)
    have HE1 := Lib.hid (HE0.out.trans hb)
    clear hb
    go_wp2_with (refine wpList_store_blk rfl _ _ _ rfl A (r.map bval) rfl rfl _ _ HB1.out HLR.out HIR.out (bval_one _) ?_; intro w10 hb10 hg10)
    refine bodyPost_ret (result_blk rfl _ A _ _ _ _ rfl hb10 Tryd.underlying26 HIR.out) rfl ⟨rfl, ext_grown HE1.out hg10 HLA.out⟩
  · have h0' : ¬ (ls.length : Int) = 0 := by omega
    by_cases h1 : ls.length = 1
    · have h1' : (ls.length : Int) = 1 := by omega
      have h10 : (0 : Int) < (ls.length : Int) := by omega
      obtain ⟨b, off, rfl, hel⟩ := rowB_elem HV.out (by omega)
      obtain ⟨a2, c2, hc, hr⟩ := hel 0 (by omega)
      have HQ : Hid (sha256 (0 :: ls.getD 0 []) = r) := Lib.hid (by
        rw [← HMR.out, merR_one' h1]
        cases ls with
        | nil => simp at h1
        | cons x t => rfl)
      have HXL : Hid ((ls.getD 0 []).length ≤ 1000000) := Lib.hid (HBD.out _ (by
        rw [List.getD_eq_getElem?_getD, List.getElem?_eq_getElem (by omega)]
        exact List.getElem_mem _))
      have HC := Lib.hid (mrootOf_any (ls.getD 0 []) _ wa HXL.out hr (HG.out.ext HE0.out))
      rw [HQ.out] at HC
      generalize (ls.getD 0 []).length = nx at *
      rw [Nat.add_zero] at hc
      clear hr hel
      go_wp2_with fail
      refine HC.out.mono ?_
      rintro e w1 ⟨rfl, hb⟩
      have HB1 := Lib.hid (ext_blk HB0.out hb)
      have HE1 := Lib.hid (HE0.out.trans hb)
      clear hb
      go_wp2_with (refine wpList_store_blk rfl _ _ _ rfl A (r.map bval) rfl rfl _ _ HB1.out HLR.out HIR.out (bval_one _) ?_; intro w10 hb10 hg10)
      refine bodyPost_ret (result_blk rfl _ A _ _ _ _ rfl hb10 Tryd.underlying26 HIR.out) rfl ⟨rfl, ext_grown HE1.out hg10 HLA.out⟩
    · have h1' : ¬ (ls.length : Int) = 1 := by omega
      have h2 : 2 ≤ ls.length := by omega
      have HK1 := Lib.hid (merK_lt h2)
      have HK0 := Lib.hid (merK_pos ls.length)
      have HM := Lib.hid (merR_two h2)
      have HH := Lib.hid (fun w' => mcut_any ls.length w' h2 (by have := HBL.out; omega))
      obtain ⟨k, hk⟩ : ∃ k, k = merK ls.length := ⟨_, rfl⟩
      rw [← hk] at HK1 HK0 HM HH
      clear hk
      have k0 : (0 : Int) ≤ (k : Int) := Int.natCast_nonneg _
      obtain ⟨v1, hv1, hs1⟩ := rowB_upto Tryd.underlying22 Tryd.sizeOf34 HV.out k (by have := HK1.out; omega)
      obtain ⟨v2, hv2, hs2⟩ := rowB_cut Tryd.underlying22 Tryd.sizeOf34 HV.out k (by have := HK1.out; omega)
      obtain ⟨a1, c1, rfl, _⟩ := mer_form hv1
      obtain ⟨a2, c2, rfl, _⟩ := mer_form hv2
      have HV1 := Lib.hid hv1
      have HV2 := Lib.hid hv2
      have HS1 := Lib.hid hs1
      have HS2 := Lib.hid hs2
      have HC1 : Hid (∀ wx, Ext wa wx → Calls Tryd.prog 11 #[.slice a1 (ls.take k).length c1] wx fun e w' => e = .returned (.agg ((merR (ls.take k)).map bval).toArray) ∧ Below wx.heap.size wx w') := Lib.hid (fun wx hx => by
        have hlen : (ls.take k).length = k := by rw [List.length_take]; have := HK1.out; omega
        exact HIH.out k (by have := HK1.out; have := HN.out; omega) (ls.take k) _ wx hlen (fun l hl => HBD.out l (List.mem_of_mem_take hl)) (by rw [hlen]; have := HK1.out; have := HBL.out; omega) (HV1.out.below hx) (HG.out.ext (HE0.out.trans hx)))
      have HC2 : Hid (∀ wx, Ext wa wx → Calls Tryd.prog 11 #[.slice a2 (ls.drop k).length c2] wx fun e w' => e = .returned (.agg ((merR (ls.drop k)).map bval).toArray) ∧ Below wx.heap.size wx w') := Lib.hid (fun wx hx => by
        have hlen : (ls.drop k).length = ls.length - k := by rw [List.length_drop]
        exact HIH.out (ls.length - k) (by have := HK0.out; have := HK1.out; have := HN.out; omega) (ls.drop k) _ wx hlen (fun l hl => HBD.out l (List.mem_of_mem_drop hl)) (by rw [hlen]; have := HBL.out; omega) (HV2.out.below hx) (HG.out.ext (HE0.out.trans hx)))
      have HaL : Hid ((merR (ls.take k)).length = 32) := Lib.hid (merR_length _)
      have HbL : Hid ((merR (ls.drop k)).length = 32) := Lib.hid (merR_length _)
      generalize merR (ls.take k) = ra at *
      generalize merR (ls.drop k) = rb at *
      generalize (ls.take k).length = n1 at *
      generalize (ls.drop k).length = n2 at *
      have HRQ : Hid (sha256 (1 :: (ra ++ rb)) = r) := Lib.hid (HM.out.symm.trans HMR.out)
      have HJ := Lib.hid (fun (wx : World) (hx : Ext wa wx) => mjoined_any ra rb wx HaL.out HbL.out (HG.out.ext (HE0.out.trans hx)))
      rw [HRQ.out] at HJ
      clear hv1 hv2 HM hs1 hs2
      go_wp2_with fail
      refine (HH.out wa).mono ?_
      rintro e w' ⟨rfl, rfl⟩
      go_upto_region 7 with (fail)
      have B0 : Ext wa wa.drew := Ext.drew _
      refine wp_region_held_drew (S := fun w' => Far (A) wa w') (by kernel_rfl) (fars_ext B0) (fun hHeld => ?_)
      refine wpAnyH_take (i := 0) (v := .slice a ls.length cap) rfl (by kernel_rfl) (by kernel_rfl) (by kernel_rfl) (fun _ _ _ h => h) (yi_move _ (.slice a ls.length cap) (by rfl) rfl rfl) hHeld ?_
      simp only [Act.put, List.getElem_toArray, List.getElem_cons_zero, List.getElem_cons_succ, List.setIfInBounds_toArray, List.set_cons_zero, List.set_cons_succ]
      refine wpAnyH_take (i := 1) (v := .int .i64 (k : Int)) rfl (by kernel_rfl) (by kernel_rfl) (by kernel_rfl) (fun _ _ _ h => h) (yi_move _ (.int .i64 (k : Int)) (by rfl) rfl rfl) hHeld ?_
      simp only [Act.put, List.getElem_toArray, List.getElem_cons_zero, List.getElem_cons_succ, List.setIfInBounds_toArray, List.set_cons_zero, List.set_cons_succ]
      refine wpAnyH_take (i := 2) (v := .slice a1 n1 c1) rfl (by kernel_rfl) (by kernel_rfl) (by kernel_rfl) (fun _ _ _ h => h) (yi_slice _ _ _ _ (.slice a ls.length cap) (.slice a1 n1 c1) none (some (.int .i64 (k : Int))) (by rfl) rfl rfl rfl rfl HS1.out) hHeld ?_
      simp only [Act.put, List.getElem_toArray, List.getElem_cons_zero, List.getElem_cons_succ, List.setIfInBounds_toArray, List.set_cons_zero, List.set_cons_succ]
      refine wpAnyH_take (i := 4) (v := .slice a ls.length cap) rfl (by kernel_rfl) (by kernel_rfl) (by kernel_rfl) (fun _ _ _ h => h) (yi_move _ (.slice a ls.length cap) (by rfl) rfl rfl) hHeld ?_
      simp only [Act.put, List.getElem_toArray, List.getElem_cons_zero, List.getElem_cons_succ, List.setIfInBounds_toArray, List.set_cons_zero, List.set_cons_succ]
      refine wpAnyH_take (i := 5) (v := .int .i64 (k : Int)) rfl (by kernel_rfl) (by kernel_rfl) (by kernel_rfl) (fun _ _ _ h => h) (yi_move _ (.int .i64 (k : Int)) (by rfl) rfl rfl) hHeld ?_
      simp only [Act.put, List.getElem_toArray, List.getElem_cons_zero, List.getElem_cons_succ, List.setIfInBounds_toArray, List.set_cons_zero, List.set_cons_succ]
      refine wpAnyH_take (i := 6) (v := .slice a2 n2 c2) rfl (by kernel_rfl) (by kernel_rfl) (by kernel_rfl) (fun _ _ _ h => h) (yi_slice _ _ _ _ (.slice a ls.length cap) (.slice a2 n2 c2) (some (.int .i64 (k : Int))) none (by rfl) rfl rfl rfl rfl HS2.out) hHeld ?_
      simp only [Act.put, List.getElem_toArray, List.getElem_cons_zero, List.getElem_cons_succ, List.setIfInBounds_toArray, List.set_cons_zero, List.set_cons_succ]
      refine wpAnyH_ready (rs := [3]) (by kernel_rfl) (by simp) (AllReadyH.cons rfl (fun K hK => ?_) AllReadyH.nil)
      go_simp
      refine (HC1.out wa.drew B0).mono ?_
      rintro e m1 ⟨rfl, b1⟩
      have N1 : Ext wa m1 := B0.trans b1
      refine hK.out _ _ (fars_ext N1) (fun hHeld => ?_)
      clear hK K
      try simp only [Act.put, List.getElem_toArray, List.getElem_cons_zero, List.getElem_cons_succ, List.setIfInBounds_toArray, List.set_cons_zero, List.set_cons_succ]
      refine wpAnyH_ready (rs := [7]) (by kernel_rfl) (by simp) (AllReadyH.cons rfl (fun K hK => ?_) AllReadyH.nil)
      go_simp
      refine (HC2.out m1 N1).mono ?_
      rintro e m2 ⟨rfl, b2⟩
      have N2 : Ext wa m2 := N1.trans b2
      refine hK.out _ _ (fars_ext N2) (fun hHeld => ?_)
      clear hK K
      try simp only [Act.put, List.getElem_toArray, List.getElem_cons_zero, List.getElem_cons_succ, List.setIfInBounds_toArray, List.set_cons_zero, List.set_cons_succ]
      refine wpAnyH_ready (rs := [8]) (by kernel_rfl) (by simp) (AllReadyH.cons rfl (fun K hK => ?_) AllReadyH.nil)
      go_simp
      refine (HJ.out m2 N2).mono ?_
      rintro e m3 ⟨rfl, b3⟩
      have N3 : Ext wa m3 := N2.trans b3
      refine hK.out _ _ (fars_ext N3) (fun hHeld => ?_)
      clear hK K
      try simp only [Act.put, List.getElem_toArray, List.getElem_cons_zero, List.getElem_cons_succ, List.setIfInBounds_toArray, List.set_cons_zero, List.set_cons_succ]
      refine wpAnyH_ready (rs := [9]) (by kernel_rfl) (by simp) (AllReadyH.cons rfl (fun K hK => ?_) AllReadyH.nil)
      refine step_wp (by rfl) ?_
      refine wp_store_blk _ _ _ rfl (A) ((r).map bval) rfl rfl _ _ (ext_blk HB0.out N3) (HLR.out) (num_size (HRL.out)) (bval_one _) ?_
      intro m4 hb4 hg4
      refine hK.out _ _ (fars_put N3 hg4) (fun hHeld => ?_)
      clear hK K
      try simp only [Act.put, List.getElem_toArray, List.getElem_cons_zero, List.getElem_cons_succ, List.setIfInBounds_toArray, List.set_cons_zero, List.set_cons_succ]
      refine wpAnyH_done (by kernel_rfl) ?_ _
      have hfin := hb4
      have hNN := ext_grown (HE0.out.trans N3) hg4 HLA.out
      generalize m4 = w11 at hfin hNN ⊢
      go_wp2_with fail
      refine bodyPost_ret (result_blk rfl _ A _ _ _ _ rfl hfin Tryd.underlying26 HIR.out) rfl ⟨rfl, hNN⟩

theorem mRoot_any (ls : List (List UInt8)) (v : Value) (w : World) (hb : ∀ l ∈ ls, l.length ≤ 1000000) (hl : ls.length ≤ 1000000) (hv : RowB w v ls) (hG : GlobR w) :
    Calls Tryd.prog 11 #[v] w fun e w' => e = .returned (.agg ((merR ls).map bval).toArray) ∧ Below w.heap.size w w' :=
  Nat.strongRecOn (motive := RootSaidM) ls.length mRoot_step ls v w rfl hb hl hv hG

end Go.Proofs.YtcadfccijeodbaaDoor

/- The walk of the program's own Path. Laid by wip/gen/gmerp.py. Each theorem names its own conditions. -/
namespace Go.Proofs.YtcadfccijeodbaaDoor
open Go.RowKit
set_option linter.unusedVariables false
set_option linter.unusedSimpArgs false

/-- A list's path, of any place. -/
def merPI (ls : List (List UInt8)) (i : Int) : List (List UInt8) := if 0 ≤ i ∧ i < ls.length then merP ls i.toNat else []
theorem rowB_mid {P : Program} {w : World} {t e : TypeId} (ht : P.underlying t = some (.slice e)) (hs : ∀ w, (sizeOf e).run P w = .ok 1 w) {v : Value} {ls : List (List UInt8)} (h : RowB w v ls) (i k : Nat) (hik : i ≤ k) (hk : k ≤ ls.length) :
    ∃ v', RowB w v' ((ls.drop i).take (k - i)) ∧ ∀ w', (Instr.sliceAt t v (some (.int .i64 (i : Int))) (some (.int .i64 (k : Int))) none).run P w' = .ok v' w' := by
  obtain ⟨vals, hr, hl, hx⟩ := h
  obtain ⟨v', h1, h2⟩ := row_mid ht hs hr i k hik (by omega)
  refine ⟨v', ⟨(vals.drop i).take (k - i), h1, by simp only [List.length_take, List.length_drop, hl], fun j x l hx1 hl1 => ?_⟩, h2⟩
  rw [List.getElem?_take] at hx1 hl1
  split at hx1
  · rename_i hij
    rw [if_pos hij] at hl1
    rw [List.getElem?_drop] at hx1 hl1
    exact hx _ x l hx1 hl1
  · cases hx1
theorem take_upto {α : Type} (l : List α) (f s : Nat) : (l.drop f).take (min (f + s) l.length - f) = (l.drop f).take s := by
  by_cases h : f + s ≤ l.length
  · rw [Nat.min_eq_left h]
    congr 1
    omega
  · rw [Nat.min_eq_right (by omega), List.take_of_length_le (by simp), List.take_of_length_le (by simp; omega)]

def PathJ (ls : List (List UInt8)) (a : Option Addr) (cap i : Nat) (wb : World) (x : Act) (w : World) : Prop :=
  ∃ (j s : Nat) (v : Value), s = 2 ^ j ∧ (j = 0 ∨ s < 2 * ls.length) ∧ w.ownsRow wb.heap.size 26 32 v (merL ls i j).length ((merL ls i j).flatten.map bval) ∧ Ext wb w ∧
  ∃ u : Nat → Value, x = { tmps := #[.slice a ls.length cap, .int .i64 (i : Int), u 2, u 3, u 4, u 5, v, .int .i64 (s : Int), u 8, u 9, u 10, u 11, u 12, u 13, u 14, u 15, u 16, u 17, u 18, u 19, u 20, u 21, u 22, u 23, u 24, u 25, u 26, u 27, u 28, u 29, u 30, u 31, u 32, u 33, u 34, u 35, u 36, u 37, u 38, u 39, u 40, u 41, u 42, u 43], defers := [] }

set_option maxRecDepth 100000 in
set_option maxHeartbeats 8000000 in
theorem mPath_in (ls : List (List UInt8)) (a : Option Addr) (cap : Nat) (i : Nat) (w : World) (hbd : ∀ l ∈ ls, l.length ≤ 1000000) (hl : ls.length ≤ 1000000) (hi : i < ls.length) (hv : RowB w (.slice a ls.length cap) ls) (hG : GlobR w) :
    Calls Tryd.prog 13 #[.slice a ls.length cap, .int .i64 (i : Int)] w fun e w' => ∃ x, e = .returned (.tuple #[x, .bool true]) ∧ RowN w' x (merP ls i) ∧ Below w.heap.size w w' := by
  obtain ⟨iq, hq0, hq1, hq2, hq3⟩ := info_numz (P := Tryd.prog) (t := 26) (z := .agg (zer.map bval).toArray) (n := 32) (b := 32) (by kernel_rfl)
  have HQ0 := Lib.hid hq0
  have HQ1 := Lib.hid hq1
  have HQ2 := Lib.hid hq2
  have HQ3 := Lib.hid hq3
  have HV := Lib.hid hv
  have HG := Lib.hid hG
  have HBD := Lib.hid hbd
  have HBL := Lib.hid hl
  have HI := Lib.hid hi
  have i0 : (0 : Int) ≤ (i : Int) := Int.natCast_nonneg _
  have n0 : (0 : Int) ≤ (ls.length : Int) := Int.natCast_nonneg _
  have c1 : ¬ (i : Int) < 0 := by omega
  have c2 : ¬ (ls.length : Int) ≤ (i : Int) := by omega
  clear hbd hl hi hv hG hq0 hq1 hq2 hq3
  go_enter Tryd.func13, Tryd.ntmps13
  go_upto_region 1 with (fail)
  refine wp_scope_back0 0 (PathJ ls a cap i w) (fun a' _ => 2 * ls.length - (intOf (a'.tmps.getD 7 undef)).toNat) rfl ?_ ?_
  · intro HP
    have HP := Lib.hid HP
    go_upto_region 5 with (fail)
    go_step3
    rename_i hK
    refine hK _ _ (HP.out _ _ ?_)
    exact ⟨0, 1, .slice none 0 0, rfl, Or.inl rfl, World.ownsRow_nil _ _ _ _, Ext.refl w, fun n => ([undef, undef, _, _, _, _, undef, undef, _, _, _, _, _, _, _, _, _, _, _, _, _, _, _, _, _, _, _, _, _, _, _, _, _, _, _, _, _, _, _, _, _, _, _, _] : List Value).getD n undef, rfl⟩
  · rintro x wr ⟨j, s, v, hs, hlt, hown, hE, u, rfl⟩
    have HO := Lib.hid hown
    have HE := Lib.hid hE
    have HS := Lib.hid hs
    have HP : Hid (0 < s) := Lib.hid (by rw [hs]; exact Nat.pow_pos (by omega))
    have s0 : (0 : Int) ≤ (s : Int) := Int.natCast_nonneg _
    have s21 : (s : Int) ≤ 2000000 := by
      have h1 := HBL.out
      have h2 := HI.out
      rcases hlt with h | h
      · subst h
        rw [hs]
        show ((1 : Nat) : Int) ≤ 2000000
        omega
      · omega
    clear hown hE hlt
    by_cases hc : s < ls.length
    · have hc' : (s : Int) < (ls.length : Int) := by omega
      have HBS := Lib.hid (fun (wx : World) => mbeside_any ls.length i j wx HI.out (by rw [← hs]; exact hc) (by have := HBL.out; omega))
      rw [← hs] at HBS
      have HLB : Hid (merL ls i (j + 1) = merL ls i j ++ merB ls i j) := Lib.hid rfl
      have HMB : Hid (merB ls i j = if besF i j < ls.length then [merR ((ls.drop (besF i j)).take s)] else []) := Lib.hid (by rw [hs]; rfl)
      have HML := Lib.hid (merL_length ls i j)
      have j21 : Hid (j ≤ 20) := Lib.hid (by
        have h1 : 2 ^ j < 2 ^ 20 := by rw [← hs]; have := HBL.out; omega
        have := (Nat.pow_lt_pow_iff_right (by decide : 1 < 2)).1 h1
        omega)
      obtain ⟨s2, hs2⟩ : ∃ s2, s2 = s * 2 := ⟨_, rfl⟩
      have HS2 : Hid (s2 = 2 ^ (j + 1)) := Lib.hid (by rw [hs2, hs, Nat.pow_succ])
      obtain ⟨f, hf⟩ : ∃ f, f = besF i j := ⟨_, rfl⟩
      rw [← hf] at HBS HMB
      have HTU := Lib.hid (take_upto ls f s)
      obtain ⟨m, hm⟩ : ∃ m, m = min (f + s) ls.length := ⟨_, rfl⟩
      rw [← hm] at HBS HTU
      have f0 : (0 : Int) ≤ (f : Int) := Int.natCast_nonneg _
      have m0 : (0 : Int) ≤ (m : Int) := Int.natCast_nonneg _
      clear hs hf
      have w2 : (s : Int) * 2 = (s2 : Int) := by omega
      have HW2 := Lib.hid hs2
      clear hs2
      by_cases hfn : f < ls.length
      · have hfm : (f : Int) < (m : Int) := by have := HP.out; omega
        have HMB : Hid (merL ls i (j + 1) = merL ls i j ++ [merR ((ls.drop f).take s)]) := Lib.hid (by rw [HLB.out, HMB.out, if_pos hfn])
        obtain ⟨v2, hv2, hs2⟩ := rowB_mid Tryd.underlying22 Tryd.sizeOf34 HV.out f m (by omega) (by omega)
        rw [HTU.out] at hv2
        obtain ⟨a2, c2, rfl, _⟩ := mer_form hv2
        have HR := Lib.hid (fun (wx : World) (hx : Ext w wx) => mRoot_any ((ls.drop f).take s) _ wx (fun l hl => HBD.out l (List.mem_of_mem_drop (List.mem_of_mem_take hl))) (by have := HBL.out; rw [List.length_take, List.length_drop]; omega) (hv2.below hx) (HG.out.ext hx))
        have HRL : Hid ((merR ((ls.drop f).take s)).length = 32) := Lib.hid (merR_length _)
        generalize merR ((ls.drop f).take s) = r at *
        generalize ((ls.drop f).take s).length = n2 at *
        generalize merL ls i j = p1 at *
        clear hv2 HLB hm
        go_wp2_with fail
        refine (HBS.out _).mono ?_
        rintro e w' ⟨rfl, rfl⟩
        go_wp2_with fail
        refine (HR.out _ HE.out).mono ?_
        rintro e w1 ⟨rfl, hb⟩
        have HO := Lib.hid (own_below HO.out hb)
        have HE := Lib.hid (HE.out.trans hb)
        have HZ := Lib.hid (Blk.made w1 (r.map bval) 26)
        have HEA := Lib.hid (Ext.alloc w1 (.cells (r.map bval).toArray 26))
        have HO2 := Lib.hid (own_below HO.out HEA.out)
        have HE2 := Lib.hid (HE.out.trans HEA.out)
        clear hb HR
        go_wp2_with (first
          | (refine wpList_build_num rfl (some 39) _ _ _ r rfl rfl Tryd.underlying28 HQ0.out HQ1.out HQ2.out (by rfl) rfl HRL.out ?_)
          | (refine wpList_append_num rfl (some 40) _ _ _ rfl rfl w.heap.size _ Tryd.underlying28 HQ0.out HQ1.out HQ2.out HQ3.out (by rfl) _ _ _ rfl HO2.out w1.heap.size 1 r rfl HZ.out.range HRL.out (by have := HML.out; have := j21.out; omega) HE2.out.size ?_; intro v4 w4 ho4 hg4))
        have HE4 := Lib.hid (ext_ownS HE2.out HO2.out (Nat.le_refl _) hg4)
        have HO4 := Lib.hid ho4
        clear ho4 hg4

        go_step3
        change (0 = 0 ∧ (PathJ ls a cap i w _ _ ∧ _ < _))
        refine ⟨rfl, ⟨j + 1, s2, v4, HS2.out, Or.inr (by rw [HW2.out]; omega), own_eqS HO4.out (by rw [HMB.out, List.length_append, List.length_singleton]) (by rw [HMB.out, flat_snoc, List.map_append]), HE4.out, fun n => ([undef, undef, _, _, _, _, undef, undef, _, _, _, _, _, _, _, _, _, _, _, _, _, _, _, _, _, _, _, _, _, _, _, _, _, _, _, _, _, _, _, _, _, _, _, _] : List Value).getD n undef, rfl⟩, ?_⟩
        · show 2 * ls.length - (intOf (.int .i64 (s2 : Int))).toNat < 2 * ls.length - (intOf (.int .i64 (s : Int))).toNat
          have := HP.out
          have := HW2.out
          simp only [intOf]
          omega
      · have hfm : ¬ (f : Int) < (m : Int) := by omega
        have HMB : Hid (merL ls i (j + 1) = merL ls i j) := Lib.hid (by rw [HLB.out, HMB.out, if_neg hfn, List.append_nil])
        generalize merL ls i j = p1 at *
        clear HLB hm
        go_wp2_with fail
        refine (HBS.out _).mono ?_
        rintro e w' ⟨rfl, rfl⟩
        go_wp2_with fail

        go_step3
        change (0 = 0 ∧ (PathJ ls a cap i w _ _ ∧ _ < _))
        refine ⟨rfl, ⟨j + 1, s2, v, HS2.out, Or.inr (by rw [HW2.out]; omega), by rw [HMB.out]; exact HO.out, HE.out, fun n => ([undef, undef, _, _, _, _, undef, undef, _, _, _, _, _, _, _, _, _, _, _, _, _, _, _, _, _, _, _, _, _, _, _, _, _, _, _, _, _, _, _, _, _, _, _, _] : List Value).getD n undef, rfl⟩, ?_⟩
        · show 2 * ls.length - (intOf (.int .i64 (s2 : Int))).toNat < 2 * ls.length - (intOf (.int .i64 (s : Int))).toNat
          have := HP.out
          have := HW2.out
          simp only [intOf]
          omega
    · have hc' : ¬ (s : Int) < (ls.length : Int) := by omega
      have HM : Hid (merL ls i j = merP ls i) := Lib.hid (merL_path j ls i (by rw [← hs]; omega) HI.out)
      rw [HM.out] at HO
      have HR := Lib.hid (RowN.of_own HO.out (merP_nums ls i) rfl rfl)
      clear hs
      go_wp2_with fail
      simp only [Exit.jump]
      refine bodyPost_ret (res_twoM rfl _ _) rfl ?_
      exact ⟨v, rfl, HR.out, HE.out⟩

theorem MPath_num (ls : List (List UInt8)) (v : Value) (i : Int) (w : World) (hb : ∀ l ∈ ls, l.length ≤ 1000000) (hl : ls.length ≤ 1000000) (hi1 : -9223372036854775808 ≤ i) (hi2 : i ≤ 9223372036854775807) (hv : RowB w v ls) (hG : GlobR w) :
    Calls Tryd.prog 13 #[v, .int .i64 i] w fun e w' => ∃ x, e = .returned (.tuple #[x, .bool (decide (0 ≤ i ∧ i < ls.length))]) ∧ RowN w' x (merPI ls i) ∧ Below w.heap.size w w' := by
  obtain ⟨a, cap, rfl, _⟩ := mer_form hv
  by_cases c1 : i < 0
  · have HF : Hid (decide (0 ≤ i ∧ i < ls.length) = false ∧ merPI ls i = []) := Lib.hid ⟨decide_eq_false (by omega), if_neg (by omega)⟩
    generalize decide (0 ≤ i ∧ i < ls.length) = q at *
    clear hb hv hG
    go_enter Tryd.func13, Tryd.ntmps13
    go_upto_region 1 with (fail)
    refine wp_scope_back0 0 (fun _ _ => False) (fun _ _ => 0) rfl ?_ (fun _ _ h => h.elim)
    intro _
    go_wp2_with fail
    simp only [Exit.jump]
    refine bodyPost_ret (res_twoM rfl _ _) rfl ?_
    exact ⟨_, by rw [HF.out.1]; rfl, by rw [HF.out.2]; exact RowN.nil _, Below.refl _ _⟩
  · by_cases c2 : (ls.length : Int) ≤ i
    · have HF : Hid (decide (0 ≤ i ∧ i < ls.length) = false ∧ merPI ls i = []) := Lib.hid ⟨decide_eq_false (by omega), if_neg (by omega)⟩
      generalize decide (0 ≤ i ∧ i < ls.length) = q at *
      clear hb hv hG
      go_enter Tryd.func13, Tryd.ntmps13
      go_upto_region 1 with (fail)
      refine wp_scope_back0 0 (fun _ _ => False) (fun _ _ => 0) rfl ?_ (fun _ _ h => h.elim)
      intro _
      go_wp2_with fail
      simp only [Exit.jump]
      refine bodyPost_ret (res_twoM rfl _ _) rfl ?_
      exact ⟨_, by rw [HF.out.1]; rfl, by rw [HF.out.2]; exact RowN.nil _, Below.refl _ _⟩
    · obtain ⟨j, rfl⟩ : ∃ j : Nat, i = (j : Int) := ⟨i.toNat, by omega⟩
      have h := mPath_in ls a cap j w hb hl (by omega) hv hG
      refine h.mono ?_
      rintro e w' ⟨x, rfl, hr, hbl⟩
      exact ⟨x, by rw [decide_eq_true (by omega)], by unfold merPI; rw [if_pos (by omega)]; exact hr, hbl⟩

end Go.Proofs.YtcadfccijeodbaaDoor

/- The walks of the document's own up, Check, SameNums. Laid by wip/gen/gmeru.py. Each theorem names its own conditions. -/
namespace Go.Proofs.YtcadfccijeodbaaDoor
open Go.RowKit
set_option linter.unusedVariables false
set_option linter.unusedSimpArgs false

/-- s[:k], as the walk says it. -/
theorem rowN_take {w : World} {a : Option Addr} {n cap : Nat} {ps : List (List UInt8)} (h : RowN w (.slice a n cap) ps) (k : Nat) (hk : k ≤ ps.length) : RowN w (.slice a k cap) (ps.take k) := by
  obtain ⟨h0, a', cap', hv, h1, h2, h3, h4⟩ := h
  injection hv with e1 e2 e3
  subst e1 e3
  have hl : (ps.take k).length = k := by rw [List.length_take]; omega
  refine ⟨h0.take k, a, cap, by rw [hl], by rw [hl]; omega, h2, h3, fun hne => ?_⟩
  obtain ⟨b, off, ha, hb, hc⟩ := h4 (by rintro rfl; simp at hne)
  refine ⟨b, off, ha, hb, fun i hi => ?_⟩
  rw [hl] at hi
  rw [hc i (by omega), List.getElem?_map, List.getElem?_map, flat_take h0, List.getElem?_take, if_pos hi]

def UpSaid (n : Nat) : Prop := ∀ (i : Nat) (b : List UInt8) (p : List (List UInt8)) (bv pv : Value) (w : World), 0 < n → n ≤ 1152921504606846976 → i < n → b.length ≤ 1000000000 → p.length ≤ 1000000000 → Row1 w bv (b.map bval) → RowN w pv p → GlobK w →
    Calls Tryd.prog 25 #[.int .i64 (n : Int), .int .i64 (i : Int), bv, pv] w fun e w' => ∃ h : List UInt8, h.length = 32 ∧ e = .returned (.tuple #[.agg (h.map bval).toArray, .bool (merU n i b p).isSome]) ∧ (∀ r, merU n i b p = some r → h = r) ∧ Below w.heap.size w w'

set_option maxRecDepth 100000 in
set_option maxHeartbeats 8000000 in
theorem rUp_step (n : Nat) (ih : ∀ k, k < n → UpSaid k) : UpSaid n := by
  intro i b p bv pv w hn0 hn hin hbl hpl hb hp hG
  obtain ⟨i0, hi, hz0, hz1, hz2⟩ := info_parts Tryd.info5
  have HI0 := Lib.hid hi
  have HZ0 := Lib.hid hz0
  have HZ1 := Lib.hid hz1
  have HZ2 := Lib.hid hz2
  have HIH := Lib.hid ih
  have HG := Lib.hid hG
  have HNL := Lib.hid hn
  have HN0 := Lib.hid hn0
  have HIN := Lib.hid hin
  have HBL := Lib.hid hbl
  have HPL := Lib.hid hpl
  obtain ⟨ab, capb, hbv, _⟩ := id hb
  rw [List.length_map] at hbv
  subst hbv
  obtain ⟨ap, capp, rfl, p1, p2⟩ := hp.form
  unfold maxLen at p2
  have HR0 := Lib.hid hb
  have HP0 := Lib.hid hp
  have HB0 := Lib.hid (Blk.made w (ints .u8 (List.replicate 32 0)) 26)
  have HE0 := Lib.hid (Ext.alloc w (.cells (ints .u8 (List.replicate 32 0)).toArray 26))
  have HNI : Hid ((Tryd.prog.info? 26).map (·.size) = some (ints .u8 (List.replicate 32 0)).length) := Lib.hid (by rw [show (ints .u8 (List.replicate 32 0)) = zer.map bval from rfl]; exact num_size zer_length)
  have n0 : (0 : Int) ≤ (n : Int) := Int.natCast_nonneg _
  have i0' : (0 : Int) ≤ (i : Int) := Int.natCast_nonneg _
  have p0 : (0 : Int) ≤ (p.length : Int) := Int.natCast_nonneg _
  clear ih hG hn hn0 hin hbl hpl hb hp hi hz0 hz1 hz2
  go_enter Tryd.func25, Tryd.ntmps25
  go_upto_region 1 with (fail)
  change Code.wp _ _ _ _ (w.alloc (.cells (ints .u8 (List.replicate 32 0)).toArray 26))
  generalize w.alloc (.cells (ints .u8 (List.replicate 32 0)).toArray 26) = wa at *
  obtain ⟨A, hA⟩ : ∃ A, A = w.heap.size := ⟨_, rfl⟩
  have HLA : Hid (w.heap.size ≤ A) := Lib.hid (by omega)
  rw [← hA] at HB0 ⊢
  have HR := Lib.hid (HR0.out.below HE0.out)
  have HP := Lib.hid (HP0.out.below HE0.out)
  clear hA HR0 HP0
  by_cases h1 : n = 1
  · have h1' : (n : Int) = 1 := by omega
    obtain ⟨q, hq⟩ : ∃ q : Bool, q = decide (p.length = 0) := ⟨_, rfl⟩
    have HU : Hid ((merU n i b p).isSome = q ∧ ∀ r, merU n i b p = some r → sha256 (0 :: b) = r) := Lib.hid (by
      rw [h1, merU_one, hq]
      by_cases e : p.length = 0
      · rw [if_pos e, decide_eq_true e]
        exact ⟨rfl, fun r h => Option.some.inj h⟩
      · rw [if_neg e, decide_eq_false e]
        exact ⟨rfl, fun r h => by cases h⟩)
    have hq2 : ((p.length : Int) == 0) = q := by
      rw [hq]
      by_cases e : p.length = 0
      · rw [decide_eq_true e, e]; rfl
      · rw [decide_eq_false e]; exact beq_false_of_ne (by omega)
    have HEA := Lib.hid (Ext.alloc wa (.cells #[.int .u8 0] 5))
    have HRX := Lib.hid (HR.out.below HEA.out)
    have HO := Lib.hid (own_made wa #[.int .u8 0] wa.heap.size 5 1 (([0] : List UInt8).map bval) rfl rfl (by unfold maxLen; omega) (Nat.le_refl _))
    have HSZ := Lib.hid (HEA.out.size)
    have HSL : Hid ((sha256 (0 :: b)).length = 32) := Lib.hid (sha256_length _)
    clear hq h1
    go_wp2_with (at_builtin; refine wpList_append_row rfl _ _ 34 rfl wa.heap.size 5 i0 (.int .u8 0) 1 Tryd.underlying34 HI0.out HZ0.out HZ1.out HZ2.out rfl _ _ _ rfl HO.out rfl HRX.out (bval_one _) (by have := HBL.out; rw [List.length_map]; unfold maxLen; omega) (by have := HBL.out; rw [List.length_map]; omega) HSZ.out ?_; intro v4 w4 hown4 hgrow4)
    have HX4 := Lib.hid (ext_own HEA.out HO.out (Nat.le_refl _) hgrow4)
    have HR4 : Hid (Row1 w4 v4 ((0 :: b).map bval)) := Lib.hid (by have h := Row1.of_own hown4; simpa using h)
    clear hown4 hgrow4 HO HRX
    refine (rSha_any v4 (0 :: b) w4 HR4.out (by have := HBL.out; rw [List.length_cons]; omega) (HG.out.ext (HE0.out.trans HX4.out))).mono ?_
    rintro e w1 ⟨rfl, hb⟩
    have HB1 := Lib.hid (ext_blk HB0.out (HX4.out.trans hb))
    have HE1 := Lib.hid (HE0.out.trans (HX4.out.trans hb))
    clear hb HR4
    obtain ⟨h, hh⟩ : ∃ h, h = sha256 (0 :: b) := ⟨_, rfl⟩
    rw [← hh] at HU HSL ⊢
    clear hh
    have HIh := Lib.hid (num_size HSL.out)
    have HLh : Hid ((h.map bval).length = (ints .u8 (List.replicate 32 0)).length) := Lib.hid (by rw [List.length_map, HSL.out, ints_length, List.length_replicate])
    go_wp2_with (refine wpList_store_blk rfl _ _ _ rfl A (h.map bval) rfl rfl _ _ HB1.out HLh.out HIh.out (bval_one _) ?_; intro w10 hb10 hg10)
    refine bodyPost_ret (result_row_tmp (p := 8) (u := 9) (by rfl) _ A _ _ _ (by rfl) hb10 Tryd.underlying26 rfl HIh.out) rfl ⟨h, HSL.out, by rw [HU.out.1]; rfl, HU.out.2, ext_grown HE1.out hg10 HLA.out⟩
  · have h1' : ¬ (n : Int) = 1 := by omega
    have h2 : 2 ≤ n := by have := HN0.out; omega
    by_cases hp0 : p.length = 0
    · have hp0' : (p.length : Int) = 0 := by omega
      have HU := Lib.hid (merU_none i b h2 hp0)
      go_wp2_with (refine wpList_store_blk rfl _ _ _ rfl A (ints .u8 (List.replicate 32 0)) rfl rfl _ _ HB0.out rfl HNI.out (ints_one _ _) ?_; intro w10 hb10 hg10)
      refine bodyPost_ret (result_row_tmp (p := 8) (u := 9) (by rfl) _ A _ _ _ (by rfl) hb10 Tryd.underlying26 rfl HNI.out) rfl ⟨zer, zer_length, by rw [HU.out]; rfl, fun r h => (by rw [HU.out] at h; cases h), ext_grown HE0.out hg10 HLA.out⟩
    · have hp0' : ¬ (p.length : Int) = 0 := by omega
      have HK1 := Lib.hid (merK_lt h2)
      have HK0 := Lib.hid (merK_pos n)
      have HH := Lib.hid (fun w' => rhalf_any n w' h2 HNL.out)
      obtain ⟨k, hk⟩ : ∃ k, k = merK n := ⟨_, rfl⟩
      rw [← hk] at HK1 HK0 HH
      have k0 : (0 : Int) ≤ (k : Int) := Int.natCast_nonneg _
      have k1 : (k : Int) ≤ (n : Int) := by have := HK1.out; omega
      have kb : (n : Int) ≤ 1152921504606846976 := by have := HNL.out; omega
      obtain ⟨q, hq⟩ : ∃ q, q = p.length - 1 := ⟨_, rfl⟩
      have hpq : p.length = q + 1 := by omega
      have q1 : (p.length : Int) - 1 = (q : Int) := by omega
      have q2 : (0 : Int) ≤ (q : Int) := Int.natCast_nonneg _
      have q3 : (q : Int) < (p.length : Int) := by omega
      have q4 : (q : Int) ≤ (capp : Int) := by omega
      obtain ⟨bp, op, rfl, _, hel⟩ := HP.out.elem (by omega)
      have HEL := Lib.hid (hel q (by omega))
      have HOL : Hid ((p.getD q []).length = 32) := Lib.hid (Nums.getD HP.out.nums (by omega))
      have hvt := rowN_take HP.out q (by omega)
      have hdl : p.take q = p.dropLast := by rw [List.dropLast_eq_take, hq]
      rw [hdl] at hvt
      have HT := Lib.hid hvt
      have HTL : Hid (p.dropLast.length ≤ 1000000000) := Lib.hid (by rw [List.length_dropLast]; have := HPL.out; omega)
      have hgl : p.getLastD [] = p.getD q [] := by
        rw [hq]
        cases p with
        | nil => exact absurd rfl hp0
        | cons x t => simp [List.getLastD_cons, List.getLastD_eq_getLast?, List.getLast?_eq_getElem?]
      have HLO := Lib.hid (fun (h : i < k) => merU_low b h2 hp0 (by rw [← hk]; exact h))
      have HHI := Lib.hid (fun (h : ¬ i < k) => merU_high b h2 hp0 (by rw [← hk]; exact h))
      rw [hgl, ← hk] at HLO HHI
      generalize p.getD q [] = o at *
      have HIO := Lib.hid (num_size HOL.out)
      have HLO2 : Hid ((o.map bval).length = (ints .u8 (List.replicate 32 0)).length) := Lib.hid (by rw [List.length_map, HOL.out, ints_length, List.length_replicate])
      clear hvt hdl hgl hk hq hel
      have HE : Hid (Ext w wa) := HE0
      go_wp2_with fail
      refine (HH.out wa).mono ?_
      rintro e w' ⟨rfl, rfl⟩
      have HZ := Lib.hid (Blk.made wa (ints .u8 (List.replicate 32 0)) 26)
      have HEA := Lib.hid (Ext.alloc wa (.cells (ints .u8 (List.replicate 32 0)).toArray 26))
      go_upto_region 7 with (first | (refine wpList_load_mid rfl _ _ rfl bp (op + q * 32) rfl _ _ HEL.out Tryd.underlying26 rfl HIO.out ?_) | (refine wpList_store_blk rfl _ _ _ rfl wa.heap.size (o.map bval) rfl rfl _ _ HZ.out HLO2.out HIO.out (bval_one _) ?_; intro w2 hb2 hg2))
      have HX := Lib.hid (ext_grown HEA.out hg2 (Nat.le_refl _))
      have HB0 := Lib.hid (ext_blk HB0.out HX.out)
      have HR := Lib.hid (HR.out.below HX.out)
      have HT := Lib.hid (HT.out.below HX.out)
      have HE := Lib.hid (HE.out.trans HX.out)
      have H11 := Lib.hid hb2
      generalize wa.heap.size = B11 at *
      clear hb2 hg2 HZ HEA HX HH HEL HP
      by_cases hik : i < k
      · have hik' : (i : Int) < (k : Int) := by omega
        have HUS := Lib.hid (HLO.out hik)
        have HC := Lib.hid (HIH.out k HK1.out i b p.dropLast (.slice ab b.length capb) (.slice (some ⟨bp, op, none⟩) q capp) w2 HK0.out (by have := HNL.out; have := HK1.out; omega) hik HBL.out HTL.out HR.out HT.out (HG.out.ext HE.out))
        clear HLO HHI HIH hik
        generalize merU k i b p.dropLast = u at *
        go_wp2_with fail
        refine HC.out.mono ?_
        rintro e w3 ⟨h, hhl, rfl, hhr, hb⟩
        have HHL := Lib.hid hhl
        have HHR := Lib.hid hhr
        have HB0 := Lib.hid (ext_blk HB0.out hb)
        have H11 := Lib.hid (ext_blk H11.out hb)
        have HE := Lib.hid (HE.out.trans hb)
        have HIh := Lib.hid (num_size HHL.out)
        have HLh : Hid ((h.map bval).length = (ints .u8 (List.replicate 32 0)).length) := Lib.hid (by rw [List.length_map, HHL.out, ints_length, List.length_replicate])
        obtain ⟨ok, hok⟩ : ∃ ok, ok = u.isSome := ⟨_, rfl⟩
        rw [← hok]
        have HOK := Lib.hid hok
        have HZ := Lib.hid (Blk.made w3 (ints .u8 (List.replicate 32 0)) 26)
        have HEA := Lib.hid (Ext.alloc w3 (.cells (ints .u8 (List.replicate 32 0)).toArray 26))
        clear hhl hhr hb hok HC HR HT
        go_upto_region 9 with (refine wpList_store_blk rfl _ _ _ rfl w3.heap.size (h.map bval) rfl rfl _ _ HZ.out HLh.out HIh.out (bval_one _) ?_; intro w4 hb4 hg4)
        have HX := Lib.hid (ext_grown HEA.out hg4 (Nat.le_refl _))
        have HB0 := Lib.hid (ext_blk HB0.out HX.out)
        have H11 := Lib.hid (ext_blk H11.out HX.out)
        have HE := Lib.hid (HE.out.trans HX.out)
        have H12 := Lib.hid hb4
        generalize w3.heap.size = B12 at *
        clear hb4 hg4 HZ HEA HX
        have B0 : Ext w4 w4.drew := Ext.drew _
        refine wp_region_held_drew (S := fun w' => Far (A) w4 w') (by kernel_rfl) (fars_ext B0) (fun hHeld => ?_)
        refine wpAnyH_take (i := 1) (v := .slice (some ⟨B12, 0, none⟩) 32 32) rfl (by kernel_rfl) (by kernel_rfl) (by kernel_rfl) (fun _ _ _ h => h) (yi_slice _ _ _ _ (.pointer (some ⟨B12, 0, none⟩)) (.slice (some ⟨B12, 0, none⟩) 32 32) none none (by rfl) rfl rfl rfl rfl (fun w => cut_whole Tryd.underlying26 Tryd.sizeOf5 (by omega) _ w)) hHeld ?_
        simp only [Act.put, List.getElem_toArray, List.getElem_cons_zero, List.getElem_cons_succ, List.setIfInBounds_toArray, List.set_cons_zero, List.set_cons_succ]
        refine wpAnyH_take (i := 3) (v := .slice (some ⟨B11, 0, none⟩) 32 32) rfl (by kernel_rfl) (by kernel_rfl) (by kernel_rfl) (fun _ _ _ h => h) (yi_slice _ _ _ _ (.pointer (some ⟨B11, 0, none⟩)) (.slice (some ⟨B11, 0, none⟩) 32 32) none none (by rfl) rfl rfl rfl rfl (fun w => cut_whole Tryd.underlying26 Tryd.sizeOf5 (by omega) _ w)) hHeld ?_
        simp only [Act.put, List.getElem_toArray, List.getElem_cons_zero, List.getElem_cons_succ, List.setIfInBounds_toArray, List.set_cons_zero, List.set_cons_succ]
        refine wpAnyH_take (i := 6) (v := .bool ok) rfl (by kernel_rfl) (by kernel_rfl) (by kernel_rfl) (fun _ _ _ h => h) (yi_move _ (.bool ok) (by rfl) rfl rfl) hHeld ?_
        simp only [Act.put, List.getElem_toArray, List.getElem_cons_zero, List.getElem_cons_succ, List.setIfInBounds_toArray, List.set_cons_zero, List.set_cons_succ]
        refine wpAnyH_ready (rs := [0]) (by kernel_rfl) (by simp) (AllReadyH.cons rfl (fun K hK => ?_) AllReadyH.nil)
        refine step_wp (by rfl) ?_
        refine wp_buildSlice_d (some 52) _ _ _ _ rfl rfl #[.int .u8 1] i0 (.int .u8 0) Tryd.underlying34 HI0.out HZ0.out (by rw [HZ1.out]; decide) (by rw [HZ1.out]; decide) (by rw [HZ1.out]; kernel_rfl) ?_
        obtain ⟨m1, hm1⟩ : ∃ wNew, wNew = World.alloc w4.drew (.cells #[.int .u8 1] 5) := ⟨_, rfl⟩
        rw [← hm1]
        have b1 : Ext w4.drew m1 := by rw [hm1]; exact Ext.alloc _ _
        obtain ⟨g1, hg1⟩ : ∃ gNew, gNew = (w4.drew).heap.size := ⟨_, rfl⟩
        rw [← hg1]
        have r1 : Row1 m1 (.slice (some ⟨g1, 0, none⟩) 1 1) (([1] : List UInt8).map bval) := by rw [hm1, hg1]; exact Row1.made _ _ _ _ _ _ rfl rfl rfl (by unfold maxLen; omega)
        have o1 : World.ownsRow m1 (w4).heap.size 5 1 (.slice (some ⟨g1, 0, none⟩) 1 1) 1 (([1] : List UInt8).map bval) := by rw [hm1, hg1]; exact own_made _ _ _ _ _ _ rfl rfl (by unfold maxLen; omega) B0.size
        clear hm1 hg1
        have N1 : Ext w4 m1 := B0.trans b1
        refine hK.out _ _ (fars_ext N1) (fun hHeld => ?_)
        clear hK K
        try simp only [Act.put, List.getElem_toArray, List.getElem_cons_zero, List.getElem_cons_succ, List.setIfInBounds_toArray, List.set_cons_zero, List.set_cons_succ]
        refine wpAnyH_ready (rs := [2]) (by kernel_rfl) (by simp) (AllReadyH.cons rfl (fun K hK => ?_) AllReadyH.nil)
        refine step_wp (by rfl) ?_
        refine wp_append_row _ _ 34 rfl (w4).heap.size 5 i0 (.int .u8 0) 1 Tryd.underlying34 HI0.out HZ0.out HZ1.out HZ2.out rfl (.slice (some ⟨g1, 0, none⟩) 1 1) 1 _ rfl o1 rfl ((blk_row (n := 32) H12.out (by rw [List.length_map]; exact HHL.out) (by unfold maxLen; omega)).below N1) (bval_one _) (by simp only [List.length_map, List.length_cons, List.length_nil, HHL.out, HOL.out]; unfold maxLen; omega) (by simp only [List.length_map, List.length_cons, List.length_nil, HHL.out, HOL.out]; omega) N1.size ?_
        intro v2 m2 ho2 hg2
        have N2 : Ext w4 m2 := ext_own N1 o1 (Nat.le_refl _) hg2
        have r2 : Row1 m2 v2 ((([1] ++ h)).map bval) := by have h := Row1.of_own ho2; simpa using h
        have o2 : World.ownsRow m2 (w4).heap.size 5 1 v2 ((1 :: h).length) ((1 :: h).map bval) := own_eq ho2 (by rw [List.length_map, List.length_cons]; omega) (by rfl)
        have r2 : Row1 m2 v2 ((1 :: h).map bval) := Row1.of_own o2
        refine hK.out _ _ (fars_ext N2) (fun hHeld => ?_)
        clear hK K
        try simp only [Act.put, List.getElem_toArray, List.getElem_cons_zero, List.getElem_cons_succ, List.setIfInBounds_toArray, List.set_cons_zero, List.set_cons_succ]
        refine wpAnyH_ready (rs := [4]) (by kernel_rfl) (by simp) (AllReadyH.cons rfl (fun K hK => ?_) AllReadyH.nil)
        refine step_wp (by rfl) ?_
        refine wp_append_row _ _ 34 rfl (w4).heap.size 5 i0 (.int .u8 0) 1 Tryd.underlying34 HI0.out HZ0.out HZ1.out HZ2.out rfl (v2) (1 :: h).length _ rfl o2 rfl ((blk_row (n := 32) H11.out (by rw [List.length_map]; exact HOL.out) (by unfold maxLen; omega)).below N2) (bval_one _) (by simp only [List.length_map, List.length_cons, List.length_nil, HHL.out, HOL.out]; unfold maxLen; omega) (by simp only [List.length_map, List.length_cons, List.length_nil, HHL.out, HOL.out]; omega) N2.size ?_
        intro v3 m3 ho3 hg3
        have N3 : Ext w4 m3 := ext_own N2 o2 (Nat.le_refl _) hg3
        have r3 : Row1 m3 v3 (((1 :: h ++ o)).map bval) := by have h := Row1.of_own ho3; simpa using h
        have o3 : World.ownsRow m3 (w4).heap.size 5 1 v3 ((1 :: (h ++ o)).length) ((1 :: (h ++ o)).map bval) := own_eq ho3 (by rw [List.length_map, List.length_cons, List.length_cons, List.length_append]; omega) (by simp)
        have r3 : Row1 m3 v3 ((1 :: (h ++ o)).map bval) := Row1.of_own o3
        refine hK.out _ _ (fars_ext N3) (fun hHeld => ?_)
        clear hK K
        try simp only [Act.put, List.getElem_toArray, List.getElem_cons_zero, List.getElem_cons_succ, List.setIfInBounds_toArray, List.set_cons_zero, List.set_cons_succ]
        refine wpAnyH_ready (rs := [5]) (by kernel_rfl) (by simp) (AllReadyH.cons rfl (fun K hK => ?_) AllReadyH.nil)
        go_simp
        refine (rSha_any _ (1 :: (h ++ o)) m3 r3 (by rw [List.length_cons, List.length_append]; have := HHL.out; have := HOL.out; omega) (HG.out.ext (HE.out.trans N3))).mono ?_
        rintro e m4 ⟨rfl, b4⟩
        have r3 := r3.below b4
        have o3 := own_below o3 b4
        have N4 : Ext w4 m4 := N3.trans b4
        refine hK.out _ _ (fars_ext N4) (fun hHeld => ?_)
        clear hK K
        try simp only [Act.put, List.getElem_toArray, List.getElem_cons_zero, List.getElem_cons_succ, List.setIfInBounds_toArray, List.set_cons_zero, List.set_cons_succ]
        refine wpAnyH_ready (rs := [7]) (by kernel_rfl) (by simp) (AllReadyH.cons rfl (fun K hK => ?_) AllReadyH.nil)
        refine step_wp (by rfl) ?_
        refine wp_store_blk _ _ _ rfl (A) ((sha256 (1 :: (h ++ o))).map bval) rfl rfl _ _ (ext_blk HB0.out N4) (by rw [List.length_map, sha256_length, ints_length]; rfl) (num_size ((sha256_length _))) (bval_one _) ?_
        intro m5 hb5 hg5
        refine hK.out _ _ (fars_put N4 hg5) (fun hHeld => ?_)
        clear hK K
        try simp only [Act.put, List.getElem_toArray, List.getElem_cons_zero, List.getElem_cons_succ, List.setIfInBounds_toArray, List.set_cons_zero, List.set_cons_succ]
        refine wpAnyH_ready (rs := [8]) (by kernel_rfl) (by simp) (AllReadyH.cons rfl (fun K hK => ?_) AllReadyH.nil)
        go_simp
        refine hK.out _ _ (fars_put N4 hg5) (fun hHeld => ?_)
        clear hK K
        try simp only [Act.put, List.getElem_toArray, List.getElem_cons_zero, List.getElem_cons_succ, List.setIfInBounds_toArray, List.set_cons_zero, List.set_cons_succ]
        refine wpAnyH_done (by kernel_rfl) ?_ _
        have hfin := hb5
        have hNN := ext_grown (HE.out.trans N4) hg5 HLA.out
        generalize m5 = w11 at hfin hNN ⊢
        have HIo : Hid ((Tryd.prog.info? 26).map (·.size) = some ((sha256 (1 :: (h ++ o))).map bval).length) := Lib.hid (num_size (sha256_length _))
        go_wp2_with fail
        refine bodyPost_ret (result_row_tmp (p := 8) (u := 9) (by rfl) _ A _ _ _ (by rfl) hfin Tryd.underlying26 rfl HIo.out) rfl ⟨_, sha256_length _, by rw [HUS.out, Option.isSome_map, ← HOK.out]; rfl, fun r hr => ?_, hNN⟩
        rw [HUS.out] at hr
        obtain ⟨h2, hh, rfl⟩ := Option.map_eq_some_iff.1 hr
        rw [HHR.out h2 hh]
      · have hik' : ¬ (i : Int) < (k : Int) := by omega
        have HUS := Lib.hid (HHI.out hik)
        have s1 : (n : Int) - (k : Int) = ((n - k : Nat) : Int) := by have := HK1.out; omega
        have s2 : (i : Int) - (k : Int) = ((i - k : Nat) : Int) := by omega
        have s3 : (0 : Int) ≤ ((n - k : Nat) : Int) := Int.natCast_nonneg _
        have s4 : (0 : Int) ≤ ((i - k : Nat) : Int) := Int.natCast_nonneg _
        have s5 : ((i - k : Nat) : Int) ≤ 1152921504606846976 := by have := HIN.out; omega
        have s6 : ((n - k : Nat) : Int) ≤ 1152921504606846976 := by omega
        have HC := Lib.hid (HIH.out (n - k) (by have := HK0.out; have := HN0.out; omega) (i - k) b p.dropLast (.slice ab b.length capb) (.slice (some ⟨bp, op, none⟩) q capp) w2 (by have := HK1.out; omega) (by have := HNL.out; omega) (by have := HIN.out; omega) HBL.out HTL.out HR.out HT.out (HG.out.ext HE.out))
        clear HLO HHI HIH hik
        generalize merU (n - k) (i - k) b p.dropLast = u at *
        generalize n - k = nk at *
        generalize i - k = ik at *
        go_wp2_with fail
        refine HC.out.mono ?_
        rintro e w3 ⟨h, hhl, rfl, hhr, hb⟩
        have HHL := Lib.hid hhl
        have HHR := Lib.hid hhr
        have HB0 := Lib.hid (ext_blk HB0.out hb)
        have H11 := Lib.hid (ext_blk H11.out hb)
        have HE := Lib.hid (HE.out.trans hb)
        have HIh := Lib.hid (num_size HHL.out)
        have HLh : Hid ((h.map bval).length = (ints .u8 (List.replicate 32 0)).length) := Lib.hid (by rw [List.length_map, HHL.out, ints_length, List.length_replicate])
        obtain ⟨ok, hok⟩ : ∃ ok, ok = u.isSome := ⟨_, rfl⟩
        rw [← hok]
        have HOK := Lib.hid hok
        have HZ := Lib.hid (Blk.made w3 (ints .u8 (List.replicate 32 0)) 26)
        have HEA := Lib.hid (Ext.alloc w3 (.cells (ints .u8 (List.replicate 32 0)).toArray 26))
        clear hhl hhr hb hok HC HR HT
        go_upto_region 11 with (refine wpList_store_blk rfl _ _ _ rfl w3.heap.size (h.map bval) rfl rfl _ _ HZ.out HLh.out HIh.out (bval_one _) ?_; intro w4 hb4 hg4)
        have HX := Lib.hid (ext_grown HEA.out hg4 (Nat.le_refl _))
        have HB0 := Lib.hid (ext_blk HB0.out HX.out)
        have H11 := Lib.hid (ext_blk H11.out HX.out)
        have HE := Lib.hid (HE.out.trans HX.out)
        have H12 := Lib.hid hb4
        generalize w3.heap.size = B12 at *
        clear hb4 hg4 HZ HEA HX
        have B0 : Ext w4 w4.drew := Ext.drew _
        refine wp_region_held_drew (S := fun w' => Far (A) w4 w') (by kernel_rfl) (fars_ext B0) (fun hHeld => ?_)
        refine wpAnyH_take (i := 1) (v := .slice (some ⟨B11, 0, none⟩) 32 32) rfl (by kernel_rfl) (by kernel_rfl) (by kernel_rfl) (fun _ _ _ h => h) (yi_slice _ _ _ _ (.pointer (some ⟨B11, 0, none⟩)) (.slice (some ⟨B11, 0, none⟩) 32 32) none none (by rfl) rfl rfl rfl rfl (fun w => cut_whole Tryd.underlying26 Tryd.sizeOf5 (by omega) _ w)) hHeld ?_
        simp only [Act.put, List.getElem_toArray, List.getElem_cons_zero, List.getElem_cons_succ, List.setIfInBounds_toArray, List.set_cons_zero, List.set_cons_succ]
        refine wpAnyH_take (i := 3) (v := .slice (some ⟨B12, 0, none⟩) 32 32) rfl (by kernel_rfl) (by kernel_rfl) (by kernel_rfl) (fun _ _ _ h => h) (yi_slice _ _ _ _ (.pointer (some ⟨B12, 0, none⟩)) (.slice (some ⟨B12, 0, none⟩) 32 32) none none (by rfl) rfl rfl rfl rfl (fun w => cut_whole Tryd.underlying26 Tryd.sizeOf5 (by omega) _ w)) hHeld ?_
        simp only [Act.put, List.getElem_toArray, List.getElem_cons_zero, List.getElem_cons_succ, List.setIfInBounds_toArray, List.set_cons_zero, List.set_cons_succ]
        refine wpAnyH_take (i := 6) (v := .bool ok) rfl (by kernel_rfl) (by kernel_rfl) (by kernel_rfl) (fun _ _ _ h => h) (yi_move _ (.bool ok) (by rfl) rfl rfl) hHeld ?_
        simp only [Act.put, List.getElem_toArray, List.getElem_cons_zero, List.getElem_cons_succ, List.setIfInBounds_toArray, List.set_cons_zero, List.set_cons_succ]
        refine wpAnyH_ready (rs := [0]) (by kernel_rfl) (by simp) (AllReadyH.cons rfl (fun K hK => ?_) AllReadyH.nil)
        refine step_wp (by rfl) ?_
        refine wp_buildSlice_d (some 75) _ _ _ _ rfl rfl #[.int .u8 1] i0 (.int .u8 0) Tryd.underlying34 HI0.out HZ0.out (by rw [HZ1.out]; decide) (by rw [HZ1.out]; decide) (by rw [HZ1.out]; kernel_rfl) ?_
        obtain ⟨m1, hm1⟩ : ∃ wNew, wNew = World.alloc w4.drew (.cells #[.int .u8 1] 5) := ⟨_, rfl⟩
        rw [← hm1]
        have b1 : Ext w4.drew m1 := by rw [hm1]; exact Ext.alloc _ _
        obtain ⟨g1, hg1⟩ : ∃ gNew, gNew = (w4.drew).heap.size := ⟨_, rfl⟩
        rw [← hg1]
        have r1 : Row1 m1 (.slice (some ⟨g1, 0, none⟩) 1 1) (([1] : List UInt8).map bval) := by rw [hm1, hg1]; exact Row1.made _ _ _ _ _ _ rfl rfl rfl (by unfold maxLen; omega)
        have o1 : World.ownsRow m1 (w4).heap.size 5 1 (.slice (some ⟨g1, 0, none⟩) 1 1) 1 (([1] : List UInt8).map bval) := by rw [hm1, hg1]; exact own_made _ _ _ _ _ _ rfl rfl (by unfold maxLen; omega) B0.size
        clear hm1 hg1
        have N1 : Ext w4 m1 := B0.trans b1
        refine hK.out _ _ (fars_ext N1) (fun hHeld => ?_)
        clear hK K
        try simp only [Act.put, List.getElem_toArray, List.getElem_cons_zero, List.getElem_cons_succ, List.setIfInBounds_toArray, List.set_cons_zero, List.set_cons_succ]
        refine wpAnyH_ready (rs := [2]) (by kernel_rfl) (by simp) (AllReadyH.cons rfl (fun K hK => ?_) AllReadyH.nil)
        refine step_wp (by rfl) ?_
        refine wp_append_row _ _ 34 rfl (w4).heap.size 5 i0 (.int .u8 0) 1 Tryd.underlying34 HI0.out HZ0.out HZ1.out HZ2.out rfl (.slice (some ⟨g1, 0, none⟩) 1 1) 1 _ rfl o1 rfl ((blk_row (n := 32) H11.out (by rw [List.length_map]; exact HOL.out) (by unfold maxLen; omega)).below N1) (bval_one _) (by simp only [List.length_map, List.length_cons, List.length_nil, HOL.out, HHL.out]; unfold maxLen; omega) (by simp only [List.length_map, List.length_cons, List.length_nil, HOL.out, HHL.out]; omega) N1.size ?_
        intro v2 m2 ho2 hg2
        have N2 : Ext w4 m2 := ext_own N1 o1 (Nat.le_refl _) hg2
        have r2 : Row1 m2 v2 ((([1] ++ o)).map bval) := by have h := Row1.of_own ho2; simpa using h
        have o2 : World.ownsRow m2 (w4).heap.size 5 1 v2 ((1 :: o).length) ((1 :: o).map bval) := own_eq ho2 (by rw [List.length_map, List.length_cons]; omega) (by rfl)
        have r2 : Row1 m2 v2 ((1 :: o).map bval) := Row1.of_own o2
        refine hK.out _ _ (fars_ext N2) (fun hHeld => ?_)
        clear hK K
        try simp only [Act.put, List.getElem_toArray, List.getElem_cons_zero, List.getElem_cons_succ, List.setIfInBounds_toArray, List.set_cons_zero, List.set_cons_succ]
        refine wpAnyH_ready (rs := [4]) (by kernel_rfl) (by simp) (AllReadyH.cons rfl (fun K hK => ?_) AllReadyH.nil)
        refine step_wp (by rfl) ?_
        refine wp_append_row _ _ 34 rfl (w4).heap.size 5 i0 (.int .u8 0) 1 Tryd.underlying34 HI0.out HZ0.out HZ1.out HZ2.out rfl (v2) (1 :: o).length _ rfl o2 rfl ((blk_row (n := 32) H12.out (by rw [List.length_map]; exact HHL.out) (by unfold maxLen; omega)).below N2) (bval_one _) (by simp only [List.length_map, List.length_cons, List.length_nil, HOL.out, HHL.out]; unfold maxLen; omega) (by simp only [List.length_map, List.length_cons, List.length_nil, HOL.out, HHL.out]; omega) N2.size ?_
        intro v3 m3 ho3 hg3
        have N3 : Ext w4 m3 := ext_own N2 o2 (Nat.le_refl _) hg3
        have r3 : Row1 m3 v3 (((1 :: o ++ h)).map bval) := by have h := Row1.of_own ho3; simpa using h
        have o3 : World.ownsRow m3 (w4).heap.size 5 1 v3 ((1 :: (o ++ h)).length) ((1 :: (o ++ h)).map bval) := own_eq ho3 (by rw [List.length_map, List.length_cons, List.length_cons, List.length_append]; omega) (by simp)
        have r3 : Row1 m3 v3 ((1 :: (o ++ h)).map bval) := Row1.of_own o3
        refine hK.out _ _ (fars_ext N3) (fun hHeld => ?_)
        clear hK K
        try simp only [Act.put, List.getElem_toArray, List.getElem_cons_zero, List.getElem_cons_succ, List.setIfInBounds_toArray, List.set_cons_zero, List.set_cons_succ]
        refine wpAnyH_ready (rs := [5]) (by kernel_rfl) (by simp) (AllReadyH.cons rfl (fun K hK => ?_) AllReadyH.nil)
        go_simp
        refine (rSha_any _ (1 :: (o ++ h)) m3 r3 (by rw [List.length_cons, List.length_append]; have := HOL.out; have := HHL.out; omega) (HG.out.ext (HE.out.trans N3))).mono ?_
        rintro e m4 ⟨rfl, b4⟩
        have r3 := r3.below b4
        have o3 := own_below o3 b4
        have N4 : Ext w4 m4 := N3.trans b4
        refine hK.out _ _ (fars_ext N4) (fun hHeld => ?_)
        clear hK K
        try simp only [Act.put, List.getElem_toArray, List.getElem_cons_zero, List.getElem_cons_succ, List.setIfInBounds_toArray, List.set_cons_zero, List.set_cons_succ]
        refine wpAnyH_ready (rs := [7]) (by kernel_rfl) (by simp) (AllReadyH.cons rfl (fun K hK => ?_) AllReadyH.nil)
        refine step_wp (by rfl) ?_
        refine wp_store_blk _ _ _ rfl (A) ((sha256 (1 :: (o ++ h))).map bval) rfl rfl _ _ (ext_blk HB0.out N4) (by rw [List.length_map, sha256_length, ints_length]; rfl) (num_size ((sha256_length _))) (bval_one _) ?_
        intro m5 hb5 hg5
        refine hK.out _ _ (fars_put N4 hg5) (fun hHeld => ?_)
        clear hK K
        try simp only [Act.put, List.getElem_toArray, List.getElem_cons_zero, List.getElem_cons_succ, List.setIfInBounds_toArray, List.set_cons_zero, List.set_cons_succ]
        refine wpAnyH_ready (rs := [8]) (by kernel_rfl) (by simp) (AllReadyH.cons rfl (fun K hK => ?_) AllReadyH.nil)
        go_simp
        refine hK.out _ _ (fars_put N4 hg5) (fun hHeld => ?_)
        clear hK K
        try simp only [Act.put, List.getElem_toArray, List.getElem_cons_zero, List.getElem_cons_succ, List.setIfInBounds_toArray, List.set_cons_zero, List.set_cons_succ]
        refine wpAnyH_done (by kernel_rfl) ?_ _
        have hfin := hb5
        have hNN := ext_grown (HE.out.trans N4) hg5 HLA.out
        generalize m5 = w11 at hfin hNN ⊢
        have HIo : Hid ((Tryd.prog.info? 26).map (·.size) = some ((sha256 (1 :: (o ++ h))).map bval).length) := Lib.hid (num_size (sha256_length _))
        go_wp2_with fail
        refine bodyPost_ret (result_row_tmp (p := 8) (u := 9) (by rfl) _ A _ _ _ (by rfl) hfin Tryd.underlying26 rfl HIo.out) rfl ⟨_, sha256_length _, by rw [HUS.out, Option.isSome_map, ← HOK.out]; rfl, fun r hr => ?_, hNN⟩
        rw [HUS.out] at hr
        obtain ⟨h2, hh, rfl⟩ := Option.map_eq_some_iff.1 hr
        rw [HHR.out h2 hh]
theorem rUp_any (n i : Nat) (b : List UInt8) (p : List (List UInt8)) (bv pv : Value) (w : World) (h0 : 0 < n) (hn : n ≤ 1152921504606846976) (hi : i < n) (hb : b.length ≤ 1000000000) (hp : p.length ≤ 1000000000) (hr : Row1 w bv (b.map bval)) (hq : RowN w pv p) (hG : GlobK w) :
    Calls Tryd.prog 25 #[.int .i64 (n : Int), .int .i64 (i : Int), bv, pv] w fun e w' => ∃ h : List UInt8, h.length = 32 ∧ e = .returned (.tuple #[.agg (h.map bval).toArray, .bool (merU n i b p).isSome]) ∧ (∀ r, merU n i b p = some r → h = r) ∧ Below w.heap.size w w' :=
  Nat.strongRecOn (motive := UpSaid) n rUp_step i b p bv pv w h0 hn hi hb hp hr hq hG

end Go.Proofs.YtcadfccijeodbaaDoor

/- The walks of the document's own Check and SameNums. Each theorem names its own conditions. -/
namespace Go.Proofs.YtcadfccijeodbaaDoor
open Go.RowKit
set_option linter.unusedVariables false
set_option linter.unusedSimpArgs false

/-- Does a path lead from a place to a root? -/
def merC (root : List UInt8) (n i : Int) (b : List UInt8) (p : List (List UInt8)) : Bool := decide (0 ≤ i ∧ i < n ∧ n ≤ 1048576) && decide (merU n.toNat i.toNat b p = some root)
theorem merC_out {root : List UInt8} {n i : Int} {b : List UInt8} {p : List (List UInt8)} (h : ¬ (0 ≤ i ∧ i < n ∧ n ≤ 1048576)) : merC root n i b p = false := by
  unfold merC
  rw [decide_eq_false h, Bool.false_and]
theorem merC_in {root : List UInt8} {n i : Nat} (b : List UInt8) (p : List (List UInt8)) (h1 : i < n) (h2 : n ≤ 1048576) : merC root (n : Int) (i : Int) b p = decide (merU n i b p = some root) := by
  unfold merC
  rw [decide_eq_true (by omega), Bool.true_and, Int.toNat_natCast, Int.toNat_natCast]

set_option maxRecDepth 100000 in
set_option maxHeartbeats 4000000 in
theorem rCheck_any (root : List UInt8) (n i : Int) (b : List UInt8) (p : List (List UInt8)) (bv pv : Value) (w : World) (hr : root.length = 32) (hn1 : -9223372036854775808 ≤ n) (hn2 : n ≤ 9223372036854775807) (hi1 : -9223372036854775808 ≤ i) (hi2 : i ≤ 9223372036854775807) (hbl : b.length ≤ 1000000000) (hpl : p.length ≤ 1000000000) (hb : Row1 w bv (b.map bval)) (hp : RowN w pv p) (hG : GlobK w) :
    Calls Tryd.prog 17 #[.agg (root.map bval).toArray, .int .i64 n, .int .i64 i, bv, pv] w fun e w' => e = .returned (.bool (merC root n i b p)) ∧ Below w.heap.size w w' := by
  have HRL := Lib.hid hr
  have HIR := Lib.hid (num_size hr)
  have HBL := Lib.hid hbl
  have HPL := Lib.hid hpl
  have HB := Lib.hid hb
  have HP := Lib.hid hp
  have HG := Lib.hid hG
  have HB0 := Lib.hid (Blk.made w (root.map bval) 26)
  have HE0 := Lib.hid (Ext.alloc w (.cells (root.map bval).toArray 26))
  clear hr hbl hpl hb hp hG
  go_enter Tryd.func17, Tryd.ntmps17
  go_upto_region 1 with (fail)
  change Code.wp _ _ _ _ (w.alloc (.cells (root.map bval).toArray 26))
  generalize w.alloc (.cells (root.map bval).toArray 26) = wa at *
  obtain ⟨A, hA⟩ : ∃ A, A = w.heap.size := ⟨_, rfl⟩
  rw [← hA] at HB0 ⊢
  clear hA
  by_cases c1 : i < 0
  · have HQ : Hid (merC root n i b p = false) := Lib.hid (merC_out (by omega))
    go_wp2_with fail
    go_ret
    exact ⟨by rw [HQ.out]; rfl, HE0.out⟩
  · by_cases c2 : n ≤ i
    · have HQ : Hid (merC root n i b p = false) := Lib.hid (merC_out (by omega))
      go_wp2_with fail
      go_ret
      exact ⟨by rw [HQ.out]; rfl, HE0.out⟩
    · by_cases c3 : 1048576 < n
      · have HQ : Hid (merC root n i b p = false) := Lib.hid (merC_out (by omega))
        go_wp2_with fail
        go_ret
        exact ⟨by rw [HQ.out]; rfl, HE0.out⟩
      · obtain ⟨m, rfl⟩ : ∃ m : Nat, n = (m : Int) := ⟨n.toNat, by omega⟩
        obtain ⟨j, rfl⟩ : ∃ j : Nat, i = (j : Int) := ⟨i.toNat, by omega⟩
        have HQ := Lib.hid (merC_in (root := root) (n := m) (i := j) b p (by omega) (by omega))
        have HU := Lib.hid (rUp_any m j b p bv pv wa (by omega) (by omega) (by omega) HBL.out HPL.out (HB.out.below HE0.out) (HP.out.below HE0.out) (HG.out.ext HE0.out))
        generalize merU m j b p = u at *
        go_wp2_with fail
        refine HU.out.mono ?_
        rintro e w1 ⟨h, hl, rfl, hh, hb⟩
        have HL := Lib.hid hl
        have HH := Lib.hid hh
        have HIh := Lib.hid (num_size HL.out)
        have HLh : Hid ((h.map bval).length = (ints .u8 (List.replicate 32 0)).length) := Lib.hid (by rw [List.length_map, HL.out, ints_length, List.length_replicate])
        have HB0 := Lib.hid (ext_blk HB0.out hb)
        have HE := Lib.hid (HE0.out.trans hb)
        have HZ := Lib.hid (Blk.made w1 (ints .u8 (List.replicate 32 0)) 26)
        have HEA := Lib.hid (Ext.alloc w1 (.cells (ints .u8 (List.replicate 32 0)).toArray 26))
        clear hl hh hb HU HE0
        go_upto_region 4 with (refine wpList_store_blk rfl _ _ _ rfl w1.heap.size (h.map bval) rfl rfl _ _ HZ.out HLh.out HIh.out (bval_one _) ?_; intro w2 hb2 hg2)
        have HX := Lib.hid (ext_grown HEA.out hg2 (Nat.le_refl _))
        have HB0 := Lib.hid (ext_blk HB0.out HX.out)
        have HE := Lib.hid (HE.out.trans HX.out)
        have HD := Lib.hid hb2
        generalize w1.heap.size = D at *
        clear hb2 hg2 HZ HEA HX
        cases u with
        | none =>
          have hs : (none : Option (List UInt8)).isSome = false := rfl
          have HF : Hid (decide ((none : Option (List UInt8)) = some root) = false) := Lib.hid rfl
          rw [hs]
          go_wp2_with fail
          go_ret
          exact ⟨by rw [HQ.out, HF.out]; rfl, HE.out⟩
        | some r =>
          have hs : (some r : Option (List UInt8)).isSome = true := rfl
          obtain rfl : h = r := HH.out r rfl
          rw [hs]
          obtain ⟨q, hq⟩ : ∃ q, q = decide (h = root) := ⟨_, rfl⟩
          have HD2 := Lib.hid hq.symm
          have HF : Hid (decide (some h = some root) = q) := Lib.hid (by rw [hq]; exact decide_eq_decide.2 ⟨Option.some.inj, congrArg some⟩)
          clear hs hq HH
          go_wp2_with (first | (refine wpList_eql (by rfl) _ _ _ _ _ _ 32 _ h root q rfl (Or.inl ⟨rfl, HD2.out⟩) Tryd.underlying26 Tryd.underlying5 num_info num_cells num_guard rfl rfl HL.out HRL.out ?_) | (refine wpList_load_w (by rfl) _ _ rfl D rfl _ _ _ _ HD.out Tryd.underlying26 HIh.out ?_) | (refine wpList_load_w (by rfl) _ _ rfl A rfl _ _ _ _ HB0.out Tryd.underlying26 HIR.out ?_))
          go_ret
          exact ⟨by rw [HQ.out, HF.out]; rfl, HE.out⟩

theorem rng_below {w w' : World} {b o : Nat} {cs : List Value} (h : w.rangeAt b o cs) (hb : Ext w w') : w'.rangeAt b o cs := fun j v hj => (hb.cell (World.block_lt_of_cell? w _ (h j v hj))).trans (h j v hj)

set_option maxRecDepth 100000 in
set_option maxHeartbeats 4000000 in
theorem rSame_any (p q : List (List UInt8)) (pv qv : Value) (w : World) (hp : RowN w pv p) (hq : RowN w qv q) :
    Calls Tryd.prog 14 #[pv, qv] w fun e w' => e = .returned (.bool (decide (p = q))) ∧ Below w.heap.size w w' := by
  obtain ⟨ap, cp, rfl, p1, p2⟩ := hp.form
  obtain ⟨aq, cq, rfl, q1, q2⟩ := hq.form
  unfold maxLen at p2 q2
  have HP := Lib.hid hp
  have HQ := Lib.hid hq
  clear hp hq
  by_cases hl : p.length = q.length
  · have hl' : (p.length : Int) = (q.length : Int) := by omega
    obtain ⟨bb, hbb⟩ : ∃ bb, bb = decide (p = q) := ⟨_, rfl⟩
    rw [← hbb]
    have HBB := Lib.hid hbb
    have HL := Lib.hid hl
    clear hbb hl
    have l0 : (0 : Int) ≤ (p.length : Int) := Int.natCast_nonneg _
    go_enter Tryd.func14, Tryd.ntmps14
    go_wp2_with fail
    go_loopw [5] (fun iv wr => ∃ k : Nat, k ≤ p.length ∧ iv = .int .i64 (k : Int) ∧ (∀ j, j < k → p.getD j [] = q.getD j []) ∧ Ext w wr) (fun iv _ => p.length - (intOf iv).toNat)
    case atStart => exact ⟨0, Nat.zero_le _, rfl, (fun j hj => by omega), Ext.refl w⟩
    case round =>
      obtain ⟨k, hk, rfl, hall, hE⟩ := hrel
      have HA := Lib.hid hall
      have HE := Lib.hid hE
      have k0 : (0 : Int) ≤ (k : Int) := Int.natCast_nonneg _
      clear hall hE
      by_cases hkl : k < p.length
      · have k1 : (k : Int) < (p.length : Int) := by omega
        have k2 : (k : Int) < (q.length : Int) := by omega
        have hkq : k < q.length := by have := HL.out; omega
        obtain ⟨b1, o1, rfl, _, he1⟩ := HP.out.elem (by omega)
        obtain ⟨b2, o2, rfl, _, he2⟩ := HQ.out.elem (by omega)
        have HE1 := Lib.hid (rng_below (he1 k hkl) HE.out)
        have HE2 := Lib.hid (rng_below (he2 k hkq) HE.out)
        have HX : Hid ((p.getD k []).length = 32) := Lib.hid (Nums.getD HP.out.nums hkl)
        have HY : Hid ((q.getD k []).length = 32) := Lib.hid (Nums.getD HQ.out.nums hkq)
        have HNE : Hid (p.getD k [] ≠ q.getD k [] → bb = false) := Lib.hid (fun h => by
          rw [HBB.out]
          exact decide_eq_false (fun e => h (by rw [e])))
        have HEQ : Hid (p.getD k [] = q.getD k [] → ∀ j, j < k + 1 → p.getD j [] = q.getD j []) := Lib.hid (fun h j hj => by
          by_cases e : j = k
          · rw [e]; exact h
          · exact HA.out j (by omega))
        generalize p.getD k [] = x at *
        generalize q.getD k [] = y at *
        have HIX := Lib.hid (num_size HX.out)
        have HIY := Lib.hid (num_size HY.out)
        clear he1 he2
        by_cases hxy : x = y
        · have HD := Lib.hid (decide_eq_true hxy)
          have HEQ := Lib.hid (HEQ.out hxy)
          clear hxy
          go_upto_region 6 with (fail)
          have B0 : Ext wr wr.drew := Ext.drew _
          refine wp_region_held_drew (S := fun w' => Ext wr w') (by kernel_rfl) B0 (fun hHeld => ?_)
          refine wpAnyH_take (i := 0) (v := .slice (some ⟨b1, o1, none⟩) p.length cp) rfl (by kernel_rfl) (by kernel_rfl) (by kernel_rfl) (fun _ _ _ h => h) (yi_move _ (.slice (some ⟨b1, o1, none⟩) p.length cp) (by rfl) rfl rfl) hHeld ?_
          simp only [Act.put, List.getElem_toArray, List.getElem_cons_zero, List.getElem_cons_succ, List.setIfInBounds_toArray, List.set_cons_zero, List.set_cons_succ]
          refine wpAnyH_take (i := 1) (v := .int .i64 (k : Int)) rfl (by kernel_rfl) (by kernel_rfl) (by kernel_rfl) (fun _ _ _ h => h) (yi_move _ (.int .i64 (k : Int)) (by rfl) rfl rfl) hHeld ?_
          simp only [Act.put, List.getElem_toArray, List.getElem_cons_zero, List.getElem_cons_succ, List.setIfInBounds_toArray, List.set_cons_zero, List.set_cons_succ]
          refine wpAnyH_take (i := 2) (v := .pointer (some ⟨b1, o1 + k * 32, none⟩)) rfl (by kernel_rfl) (by kernel_rfl) (by kernel_rfl) (fun _ _ _ h => h) (yi_val (.pointer (some ⟨b1, o1 + k * 32, none⟩)) (by rfl) (fun w _ => by go_simp)) hHeld ?_
          simp only [Act.put, List.getElem_toArray, List.getElem_cons_zero, List.getElem_cons_succ, List.setIfInBounds_toArray, List.set_cons_zero, List.set_cons_succ]
          refine wpAnyH_take (i := 3) (v := .agg ((x).map bval).toArray) rfl (by kernel_rfl) (by kernel_rfl) (by kernel_rfl) (fun _ _ _ h => h) (yieldsIf_load_mid (by rfl) _ _ rfl b1 (o1 + k * 32) rfl _ _ (fun w h => rng_below HE1.out h) Tryd.underlying26 rfl HIX.out) hHeld ?_
          simp only [Act.put, List.getElem_toArray, List.getElem_cons_zero, List.getElem_cons_succ, List.setIfInBounds_toArray, List.set_cons_zero, List.set_cons_succ]
          refine wpAnyH_take (i := 4) (v := .slice (some ⟨b2, o2, none⟩) q.length cq) rfl (by kernel_rfl) (by kernel_rfl) (by kernel_rfl) (fun _ _ _ h => h) (yi_move _ (.slice (some ⟨b2, o2, none⟩) q.length cq) (by rfl) rfl rfl) hHeld ?_
          simp only [Act.put, List.getElem_toArray, List.getElem_cons_zero, List.getElem_cons_succ, List.setIfInBounds_toArray, List.set_cons_zero, List.set_cons_succ]
          refine wpAnyH_take (i := 5) (v := .int .i64 (k : Int)) rfl (by kernel_rfl) (by kernel_rfl) (by kernel_rfl) (fun _ _ _ h => h) (yi_move _ (.int .i64 (k : Int)) (by rfl) rfl rfl) hHeld ?_
          simp only [Act.put, List.getElem_toArray, List.getElem_cons_zero, List.getElem_cons_succ, List.setIfInBounds_toArray, List.set_cons_zero, List.set_cons_succ]
          refine wpAnyH_take (i := 6) (v := .pointer (some ⟨b2, o2 + k * 32, none⟩)) rfl (by kernel_rfl) (by kernel_rfl) (by kernel_rfl) (fun _ _ _ h => h) (yi_val (.pointer (some ⟨b2, o2 + k * 32, none⟩)) (by rfl) (fun w _ => by go_simp)) hHeld ?_
          simp only [Act.put, List.getElem_toArray, List.getElem_cons_zero, List.getElem_cons_succ, List.setIfInBounds_toArray, List.set_cons_zero, List.set_cons_succ]
          refine wpAnyH_take (i := 7) (v := .agg ((y).map bval).toArray) rfl (by kernel_rfl) (by kernel_rfl) (by kernel_rfl) (fun _ _ _ h => h) (yieldsIf_load_mid (by rfl) _ _ rfl b2 (o2 + k * 32) rfl _ _ (fun w h => rng_below HE2.out h) Tryd.underlying26 rfl HIY.out) hHeld ?_
          simp only [Act.put, List.getElem_toArray, List.getElem_cons_zero, List.getElem_cons_succ, List.setIfInBounds_toArray, List.set_cons_zero, List.set_cons_succ]
          refine wpAnyH_take (i := 8) (v := .bool false) rfl (by kernel_rfl) (by kernel_rfl) (by kernel_rfl) (fun _ _ _ h => h) (yi_neqB _ _ _ _ _ 32 _ (x) (y) false (by rfl) rfl (HD.out) Tryd.underlying26 Tryd.underlying5 num_info num_cells num_guard rfl rfl (HX.out) (HY.out)) hHeld ?_
          simp only [Act.put, List.getElem_toArray, List.getElem_cons_zero, List.getElem_cons_succ, List.setIfInBounds_toArray, List.set_cons_zero, List.set_cons_succ]
          refine wpAnyH_done (by kernel_rfl) ?_ _
          have HE := Lib.hid (HE.out.trans B0)
          go_wp2_with fail
          go_round
          case rel => exact ⟨k + 1, by omega, by go_num, HEQ.out, HE.out⟩
          case measure => simp [intOf]; omega
        · have HD := Lib.hid (decide_eq_false hxy)
          have HNE := Lib.hid (HNE.out hxy)
          clear hxy
          go_upto_region 6 with (fail)
          have B0 : Ext wr wr.drew := Ext.drew _
          refine wp_region_held_drew (S := fun w' => Ext wr w') (by kernel_rfl) B0 (fun hHeld => ?_)
          refine wpAnyH_take (i := 0) (v := .slice (some ⟨b1, o1, none⟩) p.length cp) rfl (by kernel_rfl) (by kernel_rfl) (by kernel_rfl) (fun _ _ _ h => h) (yi_move _ (.slice (some ⟨b1, o1, none⟩) p.length cp) (by rfl) rfl rfl) hHeld ?_
          simp only [Act.put, List.getElem_toArray, List.getElem_cons_zero, List.getElem_cons_succ, List.setIfInBounds_toArray, List.set_cons_zero, List.set_cons_succ]
          refine wpAnyH_take (i := 1) (v := .int .i64 (k : Int)) rfl (by kernel_rfl) (by kernel_rfl) (by kernel_rfl) (fun _ _ _ h => h) (yi_move _ (.int .i64 (k : Int)) (by rfl) rfl rfl) hHeld ?_
          simp only [Act.put, List.getElem_toArray, List.getElem_cons_zero, List.getElem_cons_succ, List.setIfInBounds_toArray, List.set_cons_zero, List.set_cons_succ]
          refine wpAnyH_take (i := 2) (v := .pointer (some ⟨b1, o1 + k * 32, none⟩)) rfl (by kernel_rfl) (by kernel_rfl) (by kernel_rfl) (fun _ _ _ h => h) (yi_val (.pointer (some ⟨b1, o1 + k * 32, none⟩)) (by rfl) (fun w _ => by go_simp)) hHeld ?_
          simp only [Act.put, List.getElem_toArray, List.getElem_cons_zero, List.getElem_cons_succ, List.setIfInBounds_toArray, List.set_cons_zero, List.set_cons_succ]
          refine wpAnyH_take (i := 3) (v := .agg ((x).map bval).toArray) rfl (by kernel_rfl) (by kernel_rfl) (by kernel_rfl) (fun _ _ _ h => h) (yieldsIf_load_mid (by rfl) _ _ rfl b1 (o1 + k * 32) rfl _ _ (fun w h => rng_below HE1.out h) Tryd.underlying26 rfl HIX.out) hHeld ?_
          simp only [Act.put, List.getElem_toArray, List.getElem_cons_zero, List.getElem_cons_succ, List.setIfInBounds_toArray, List.set_cons_zero, List.set_cons_succ]
          refine wpAnyH_take (i := 4) (v := .slice (some ⟨b2, o2, none⟩) q.length cq) rfl (by kernel_rfl) (by kernel_rfl) (by kernel_rfl) (fun _ _ _ h => h) (yi_move _ (.slice (some ⟨b2, o2, none⟩) q.length cq) (by rfl) rfl rfl) hHeld ?_
          simp only [Act.put, List.getElem_toArray, List.getElem_cons_zero, List.getElem_cons_succ, List.setIfInBounds_toArray, List.set_cons_zero, List.set_cons_succ]
          refine wpAnyH_take (i := 5) (v := .int .i64 (k : Int)) rfl (by kernel_rfl) (by kernel_rfl) (by kernel_rfl) (fun _ _ _ h => h) (yi_move _ (.int .i64 (k : Int)) (by rfl) rfl rfl) hHeld ?_
          simp only [Act.put, List.getElem_toArray, List.getElem_cons_zero, List.getElem_cons_succ, List.setIfInBounds_toArray, List.set_cons_zero, List.set_cons_succ]
          refine wpAnyH_take (i := 6) (v := .pointer (some ⟨b2, o2 + k * 32, none⟩)) rfl (by kernel_rfl) (by kernel_rfl) (by kernel_rfl) (fun _ _ _ h => h) (yi_val (.pointer (some ⟨b2, o2 + k * 32, none⟩)) (by rfl) (fun w _ => by go_simp)) hHeld ?_
          simp only [Act.put, List.getElem_toArray, List.getElem_cons_zero, List.getElem_cons_succ, List.setIfInBounds_toArray, List.set_cons_zero, List.set_cons_succ]
          refine wpAnyH_take (i := 7) (v := .agg ((y).map bval).toArray) rfl (by kernel_rfl) (by kernel_rfl) (by kernel_rfl) (fun _ _ _ h => h) (yieldsIf_load_mid (by rfl) _ _ rfl b2 (o2 + k * 32) rfl _ _ (fun w h => rng_below HE2.out h) Tryd.underlying26 rfl HIY.out) hHeld ?_
          simp only [Act.put, List.getElem_toArray, List.getElem_cons_zero, List.getElem_cons_succ, List.setIfInBounds_toArray, List.set_cons_zero, List.set_cons_succ]
          refine wpAnyH_take (i := 8) (v := .bool true) rfl (by kernel_rfl) (by kernel_rfl) (by kernel_rfl) (fun _ _ _ h => h) (yi_neqB _ _ _ _ _ 32 _ (x) (y) true (by rfl) rfl (HD.out) Tryd.underlying26 Tryd.underlying5 num_info num_cells num_guard rfl rfl (HX.out) (HY.out)) hHeld ?_
          simp only [Act.put, List.getElem_toArray, List.getElem_cons_zero, List.getElem_cons_succ, List.setIfInBounds_toArray, List.set_cons_zero, List.set_cons_succ]
          refine wpAnyH_done (by kernel_rfl) ?_ _
          have HE := Lib.hid (HE.out.trans B0)
          go_wp2_with fail
          go_ret
          exact ⟨by rw [HNE.out]; rfl, HE.out⟩
      · have k1 : ¬ (k : Int) < (p.length : Int) := by omega
        have HT : Hid (bb = true) := Lib.hid (by
          rw [HBB.out]
          refine decide_eq_true (List.ext_getElem HL.out (fun j h1 h2 => ?_))
          have h := HA.out j (by omega)
          rw [List.getD_eq_getElem?_getD, List.getD_eq_getElem?_getD, List.getElem?_eq_getElem h1, List.getElem?_eq_getElem h2] at h
          exact h)
        go_wp2_with fail
        go_ret
        exact ⟨by rw [HT.out]; rfl, HE.out⟩
  · have hl' : ¬ (p.length : Int) = (q.length : Int) := by omega
    have HF : Hid (decide (p = q) = false) := Lib.hid (decide_eq_false (fun e => hl (by rw [e])))
    go_enter Tryd.func14, Tryd.ntmps14
    go_wp2_with fail
    go_ret
    exact ⟨by rw [HF.out]; rfl, Below.refl _ _⟩

end Go.Proofs.YtcadfccijeodbaaDoor

/- The walk of the program's own Check. Laid by wip/gen/gmerk.py. Each theorem names its own conditions. -/
namespace Go.Proofs.YtcadfccijeodbaaDoor
open Go.RowKit
set_option linter.unusedVariables false
set_option linter.unusedSimpArgs false

theorem fars_mid {c b o : Nat} {w w' : World} {cs : List Value} (h : w.rangeAt b o cs) (hb : b < w.heap.size) (hc : c ≠ b) (hf : Far c w w') : w'.rangeAt b o cs := by
  obtain ⟨wx, h1, h2⟩ := hf
  have h3 := rng_below h h1
  rcases h2 with rfl | h2
  · exact h3
  · exact fun j v hj => (h2.cell_far ⟨b, o + j, none⟩ (Nat.lt_of_lt_of_le hb h1.size) (fun e => hc (Option.some.inj e).symm)).trans (h3 j v hj)
theorem merV_none {n i : Nat} {b : List UInt8} {p : List (List UInt8)} {j : Nat} (h : merV n i b p j = none) : ∀ d, merV n i b p (j + d) = none
  | 0 => h
  | d + 1 => by rw [← Nat.add_assoc, merV, merV_none h d]; rfl
theorem merC_none {root : List UInt8} {n i : Nat} {b : List UInt8} {p : List (List UInt8)} {j : Nat} (hi : i < n) (hn : n ≤ 1048576) (h : merV n i b p j = none) : merC root (n : Int) (i : Int) b p = false := by
  have h1 := merE_said root (m := j + n) b p (Nat.le_trans (Nat.le_of_lt Nat.lt_two_pow_self) (Nat.pow_le_pow_right (by decide) (by omega))) hi
  rw [merV_none h n] at h1
  rw [merC_in b p hi hn, ← h1]
  rfl
theorem merC_some {root h : List UInt8} {n i : Nat} {b : List UInt8} {p q : List (List UInt8)} {j : Nat} (hi : i < n) (hn : n ≤ 1048576) (hj : n ≤ 2 ^ j) (hv : merV n i b p j = some (h, q)) : merC root (n : Int) (i : Int) b p = (decide (q.length = 0) && decide (h = root)) := by
  have h1 := merE_said root (m := j) b p hj hi
  rw [hv] at h1
  rw [merC_in b p hi hn, ← h1]
  rfl
theorem merV_next {n i j : Nat} {b : List UInt8} {p q : List (List UInt8)} {h : List UInt8} (hv : merV n i b p j = some (h, q)) : merV n i b p (j + 1) = merS n i j (h, q) := by rw [merV, hv]; rfl

def CheckJ (root : List UInt8) (n i : Nat) (b : List UInt8) (p : List (List UInt8)) (bv : Value) (A : Nat) (wb : World) (x : Act) (w : World) : Prop :=
  ∃ (j s : Nat) (h : List UInt8) (q : List (List UInt8)) (v : Value) (D : Nat), s = 2 ^ j ∧ (j = 0 ∨ s < 2 * n) ∧ merV n i b p j = some (h, q) ∧ h.length = 32 ∧ RowN wb v q ∧ q.length ≤ p.length ∧ Blk w A (root.map bval) 26 ∧ Blk w D (h.map bval) 26 ∧ A ≠ D ∧ wb.heap.size ≤ D ∧ Ext wb w ∧
  ∃ u : Nat → Value, x = { tmps := #[.agg (root.map bval).toArray, .int .i64 (n : Int), .int .i64 (i : Int), bv, v, .pointer (some ⟨A, 0, none⟩), u 6, u 7, u 8, u 9, u 10, .pointer (some ⟨D, 0, none⟩), .int .i64 (s : Int), u 13, u 14, u 15, u 16, u 17, u 18, u 19, u 20, u 21, u 22, u 23, u 24, u 25, u 26, u 27, u 28, u 29, u 30, u 31, u 32, u 33, u 34, u 35, u 36, u 37, u 38, u 39, u 40, u 41, u 42, u 43, u 44, u 45, u 46, u 47, u 48, u 49, u 50, u 51, u 52, u 53, u 54, u 55, u 56, u 57, u 58, u 59, u 60, u 61, u 62, u 63, u 64, u 65, u 66, u 67, u 68, u 69, u 70, u 71, u 72, u 73], defers := [] }

set_option maxRecDepth 100000 in
set_option maxHeartbeats 8000000 in
theorem mCheck_in (root : List UInt8) (n i : Nat) (b : List UInt8) (p : List (List UInt8)) (bv pv : Value) (w : World) (hr : root.length = 32) (hi : i < n) (hn : n ≤ 1048576) (hbl : b.length ≤ 1000000) (hpl : p.length ≤ 1000000) (hb : Row1 w bv (b.map bval)) (hp : RowN w pv p) (hG : GlobR w) :
    Calls Tryd.prog 16 #[.agg (root.map bval).toArray, .int .i64 (n : Int), .int .i64 (i : Int), bv, pv] w fun e w' => e = .returned (.bool (merC root (n : Int) (i : Int) b p)) ∧ Below w.heap.size w w' := by
  have HBV := Lib.hid hb
  have HPV := Lib.hid hp
  have HPL := Lib.hid hpl
  have HBL := Lib.hid hbl
  have HG := Lib.hid hG
  have HI := Lib.hid hi
  have HN := Lib.hid hn
  have HRL0 := Lib.hid hr
  have HIR := Lib.hid (num_size hr)
  have HB0 := Lib.hid (Blk.made w (root.map bval) 26)
  have HE0 := Lib.hid (Ext.alloc w (.cells (root.map bval).toArray 26))
  have HC1 := Lib.hid (fun (wx : World) (hx : Ext w wx) => mrootOf_any b bv wx hbl (hb.below hx) (hG.ext hx))
  have HCN := Lib.hid (fun (j : Nat) (h : merV n i b p j = none) => merC_none (root := root) hi hn h)
  have HCS := Lib.hid (fun (h : List UInt8) (q : List (List UInt8)) (j : Nat) (hj : n ≤ 2 ^ j) (hv : merV n i b p j = some (h, q)) => merC_some (root := root) hi hn hj hv)
  have i0 : (0 : Int) ≤ (i : Int) := Int.natCast_nonneg _
  have n0 : (0 : Int) ≤ (n : Int) := Int.natCast_nonneg _
  have c1 : ¬ (i : Int) < 0 := by omega
  have c2 : ¬ (n : Int) ≤ (i : Int) := by omega
  have c3 : ¬ (1048576 : Int) < (n : Int) := by omega
  generalize merC root (n : Int) (i : Int) b p = ans at *
  clear hb hp hpl hbl hG hi hn hr
  go_enter Tryd.func16, Tryd.ntmps16
  go_upto_region 1 with (fail)
  change Code.wp _ _ _ _ (w.alloc (.cells (root.map bval).toArray 26))
  generalize w.alloc (.cells (root.map bval).toArray 26) = wa at *
  obtain ⟨A, hA⟩ : ∃ A, A = w.heap.size := ⟨_, rfl⟩
  have HLA : Hid (w.heap.size ≤ A) := Lib.hid (by omega)
  rw [← hA] at HB0 ⊢
  clear hA
  refine wp_scope_back0 0 (CheckJ root n i b p bv A w) (fun a' _ => 2 * n - (intOf (a'.tmps.getD 12 undef)).toNat) rfl ?_ ?_
  · intro HP
    have HP := Lib.hid HP
    go_wp2_with fail
    refine (HC1.out wa HE0.out).mono ?_
    rintro e w1 ⟨rfl, hb⟩
    obtain ⟨h, hh⟩ : ∃ h, h = sha256 (0 :: b) := ⟨_, rfl⟩
    rw [← hh]
    have HV : Hid (merV n i b p 0 = some (h, p)) := Lib.hid (by rw [hh]; rfl)
    have HHL : Hid (h.length = 32) := Lib.hid (by rw [hh]; exact sha256_length _)
    have HIH := Lib.hid (num_size HHL.out)
    have HLH : Hid ((h.map bval).length = (ints .u8 (List.replicate 32 0)).length) := Lib.hid (by rw [List.length_map, HHL.out, ints_length, List.length_replicate])
    have HA := Lib.hid (ext_blk HB0.out hb)
    have HE := Lib.hid (HE0.out.trans hb)
    have HZ := Lib.hid (Blk.made w1 (ints .u8 (List.replicate 32 0)) 26)
    have HEA := Lib.hid (Ext.alloc w1 (.cells (ints .u8 (List.replicate 32 0)).toArray 26))
    clear hb hh HC1
    go_upto_region 5 with (refine wpList_store_blk rfl _ _ _ rfl w1.heap.size (h.map bval) rfl rfl _ _ HZ.out HLH.out HIH.out (bval_one _) ?_; intro w2 hb2 hg2)
    have HX := Lib.hid (ext_grown HEA.out hg2 (Nat.le_refl _))
    have HDW : Hid (w.heap.size ≤ w1.heap.size) := Lib.hid HE.out.size
    have HAD : Hid (A ≠ w1.heap.size) := Lib.hid (by have := HA.out.lt; omega)
    have HA := Lib.hid (ext_blk HA.out HX.out)
    have HE := Lib.hid (HE.out.trans HX.out)
    have HD := Lib.hid hb2
    generalize w1.heap.size = D at *
    clear hb2 hg2 HZ HEA HX
    go_step3
    rename_i hK
    refine hK _ _ (HP.out _ _ ?_)
    exact ⟨0, 1, h, p, pv, D, rfl, Or.inl rfl, HV.out, HHL.out, HPV.out, Nat.le_refl _, HA.out, HD.out, HAD.out, HDW.out, HE.out, fun n => ([undef, undef, undef, undef, undef, undef, _, _, _, _, _, undef, undef, _, _, _, _, _, _, _, _, _, _, _, _, _, _, _, _, _, _, _, _, _, _, _, _, _, _, _, _, _, _, _, _, _, _, _, _, _, _, _, _, _, _, _, _, _, _, _, _, _, _, _, _, _, _, _, _, _, _, _, _, _] : List Value).getD n undef, rfl⟩
  · clear HC1 HB0 HE0 HPV HBV
    rintro x wr ⟨j, s, h, q, v, D, hs, hlt, hv, hhl, hq, hql, hA, hD, hAD, hDW, hE, u, rfl⟩
    have HV := Lib.hid hv
    have HHL := Lib.hid hhl
    have HQ := Lib.hid hq
    have HQL := Lib.hid hql
    have HA := Lib.hid hA
    have HD := Lib.hid hD
    have HAD := Lib.hid hAD
    have HDW := Lib.hid hDW
    have HE := Lib.hid hE
    have HIH := Lib.hid (num_size hhl)
    have HP : Hid (0 < s) := Lib.hid (by rw [hs]; exact Nat.pow_pos (by omega))
    have s0 : (0 : Int) ≤ (s : Int) := Int.natCast_nonneg _
    have s21 : (s : Int) ≤ 2097152 := by
      have h1 := HN.out
      rcases hlt with h | h
      · subst h
        rw [hs]
        show ((1 : Nat) : Int) ≤ 2097152
        omega
      · omega
    obtain ⟨aq, cq, rfl, _⟩ := hq.form
    have q0 : (0 : Int) ≤ (q.length : Int) := Int.natCast_nonneg _
    clear hv hhl hq hql hA hD hAD hDW hE hlt
    by_cases hc : s < n
    · have hc' : (s : Int) < (n : Int) := by omega
      have HBS := Lib.hid (fun (wx : World) => mbeside_any n i j wx HI.out (by rw [← hs]; exact hc) HN.out)
      rw [← hs] at HBS
      have HVN := Lib.hid (merV_next HV.out)
      obtain ⟨s2, hs2⟩ : ∃ s2, s2 = s * 2 := ⟨_, rfl⟩
      have HS2 : Hid (s2 = 2 ^ (j + 1)) := Lib.hid (by rw [hs2, hs, Nat.pow_succ])
      obtain ⟨f, hf⟩ : ∃ f, f = besF i j := ⟨_, rfl⟩
      have HMS : Hid (merV n i b p (j + 1) = if f < n then (if q.length = 0 then none else some (sha256 (1 :: (if i < f then h ++ q.headD [] else q.headD [] ++ h)), q.drop 1)) else some (h, q)) := Lib.hid (by rw [HVN.out, hf]; rfl)
      rw [← hf] at HBS
      obtain ⟨m, hm⟩ : ∃ m, m = min (f + s) n := ⟨_, rfl⟩
      rw [← hm] at HBS
      have f0 : (0 : Int) ≤ (f : Int) := Int.natCast_nonneg _
      have m0 : (0 : Int) ≤ (m : Int) := Int.natCast_nonneg _
      have w2 : (s : Int) * 2 = (s2 : Int) := by omega
      have HW2 := Lib.hid hs2
      clear hs hf hs2 HVN
      by_cases hfn : f < n
      · have hfm : ¬ (m : Int) ≤ (f : Int) := by have := HP.out; omega
        clear hm
        by_cases hz : q.length = 0
        · have hz' : (q.length : Int) = 0 := by omega
          have HF : Hid (ans = false) := Lib.hid (HCN.out (j + 1) (by rw [HMS.out, if_pos hfn, if_pos hz]))
          clear HMS HCN HCS
          go_wp2_with fail
          refine (HBS.out _).mono ?_
          rintro e w' ⟨rfl, rfl⟩
          go_wp2_with fail
          simp only [Exit.jump]
          go_ret
          exact ⟨by rw [HF.out]; rfl, HE.out⟩
        · have hz' : ¬ (q.length : Int) = 0 := by omega
          have hz1 : (0 : Int) < (q.length : Int) := by omega
          obtain ⟨b1, o1, rfl, hb1, he1⟩ := HQ.out.elem (by omega)
          have HB1 := Lib.hid hb1
          have hel := rng_below (he1 0 (by omega)) HE.out
          rw [Nat.zero_mul, Nat.add_zero] at hel
          have HEL := Lib.hid hel
          have HYL : Hid ((q.getD 0 []).length = 32) := Lib.hid (Nums.getD HQ.out.nums (by omega))
          have HYE : Hid (q.headD [] = q.getD 0 []) := Lib.hid (by cases q <;> rfl)
          obtain ⟨v2, hv2, hsq⟩ := HQ.out.cut Tryd.underlying28 Tryd.sizeOf26 1 (by omega)
          obtain ⟨aq2, cq2, rfl, _⟩ := hv2.form
          have HQ2 := Lib.hid hv2
          have HSQ := Lib.hid hsq
          obtain ⟨nq2, hnq2⟩ : ∃ m, m = (q.drop 1).length := ⟨_, rfl⟩
          rw [← hnq2] at HQ2 HSQ
          generalize q.getD 0 [] = y at *
          have HIY := Lib.hid (num_size HYL.out)
          clear hb1 he1 hel hv2 hsq hnq2
          by_cases hfi : i < f
          · have hfi' : (i : Int) < (f : Int) := by omega
            have HJ := Lib.hid (fun (wx : World) (hx : Ext wr wx) => mjoined_any h y wx HHL.out HYL.out (HG.out.ext (HE.out.trans hx)))
            have HV2 : Hid (merV n i b p (j + 1) = some (sha256 (1 :: (h ++ y)), q.drop 1)) := Lib.hid (by rw [HMS.out, if_pos hfn, if_neg hz, if_pos hfi, HYE.out])
            have HRL : Hid ((sha256 (1 :: (h ++ y))).length = 32) := Lib.hid (sha256_length _)
            generalize sha256 (1 :: (h ++ y)) = r at *
            clear HMS HCN HCS
            go_wp2_with fail
            refine (HBS.out _).mono ?_
            rintro e w' ⟨rfl, rfl⟩
            go_upto_region 12 with (fail)
            have B0 : Ext wr wr.drew := Ext.drew _
            refine wp_region_held_drew (S := fun w' => Far (D) wr w') (by kernel_rfl) (fars_ext B0) (fun hHeld => ?_)
            refine wpAnyH_take (i := 1) (v := .slice (some ⟨b1, o1, none⟩) q.length cq) rfl (by kernel_rfl) (by kernel_rfl) (by kernel_rfl) (fun _ _ _ h => h) (yi_move _ (.slice (some ⟨b1, o1, none⟩) q.length cq) (by rfl) rfl rfl) hHeld ?_
            simp only [Act.put, List.getElem_toArray, List.getElem_cons_zero, List.getElem_cons_succ, List.setIfInBounds_toArray, List.set_cons_zero, List.set_cons_succ]
            refine wpAnyH_take (i := 2) (v := .pointer (some ⟨b1, o1, none⟩)) rfl (by kernel_rfl) (by kernel_rfl) (by kernel_rfl) (fun _ _ _ h => h) (yi_val (.pointer (some ⟨b1, o1, none⟩)) (by rfl) (fun w _ => by go_simp)) hHeld ?_
            simp only [Act.put, List.getElem_toArray, List.getElem_cons_zero, List.getElem_cons_succ, List.setIfInBounds_toArray, List.set_cons_zero, List.set_cons_succ]
            refine wpAnyH_take (i := 3) (v := .agg ((y).map bval).toArray) rfl (by kernel_rfl) (by kernel_rfl) (by kernel_rfl) (fun _ _ _ h => h) (yieldsIf_load_mid (by rfl) _ _ rfl b1 o1 rfl _ _ (fun w h => fars_mid HEL.out (by have := HB1.out; have := HE.out.size; omega) (by have := HB1.out; have := HDW.out; omega) h) Tryd.underlying26 rfl HIY.out) hHeld ?_
            simp only [Act.put, List.getElem_toArray, List.getElem_cons_zero, List.getElem_cons_succ, List.setIfInBounds_toArray, List.set_cons_zero, List.set_cons_succ]
            refine wpAnyH_take (i := 5) (v := .slice (some ⟨b1, o1, none⟩) q.length cq) rfl (by kernel_rfl) (by kernel_rfl) (by kernel_rfl) (fun _ _ _ h => h) (yi_move _ (.slice (some ⟨b1, o1, none⟩) q.length cq) (by rfl) rfl rfl) hHeld ?_
            simp only [Act.put, List.getElem_toArray, List.getElem_cons_zero, List.getElem_cons_succ, List.setIfInBounds_toArray, List.set_cons_zero, List.set_cons_succ]
            refine wpAnyH_take (i := 6) (v := .slice aq2 nq2 cq2) rfl (by kernel_rfl) (by kernel_rfl) (by kernel_rfl) (fun _ _ _ h => h) (yi_slice _ _ _ _ (.slice (some ⟨b1, o1, none⟩) q.length cq) (.slice aq2 nq2 cq2) (some (.int .i64 1)) none (by rfl) rfl rfl rfl rfl HSQ.out) hHeld ?_
            simp only [Act.put, List.getElem_toArray, List.getElem_cons_zero, List.getElem_cons_succ, List.setIfInBounds_toArray, List.set_cons_zero, List.set_cons_succ]
            refine wpAnyH_ready (rs := [0]) (by kernel_rfl) (by simp) (AllReadyH.cons rfl (fun K hK => ?_) AllReadyH.nil)
            refine step_wp (by rfl) ?_
            refine wp_load_mid _ _ rfl D 0 rfl _ _ (ext_blk HD.out B0).range Tryd.underlying26 rfl HIH.out ?_
            refine hK.out _ _ (fars_ext B0) (fun hHeld => ?_)
            clear hK K
            try simp only [Act.put, List.getElem_toArray, List.getElem_cons_zero, List.getElem_cons_succ, List.setIfInBounds_toArray, List.set_cons_zero, List.set_cons_succ]
            refine wpAnyH_ready (rs := [4]) (by kernel_rfl) (by simp) (AllReadyH.cons rfl (fun K hK => ?_) AllReadyH.nil)
            go_simp
            refine (HJ.out wr.drew B0).mono ?_
            rintro e m1 ⟨rfl, b1⟩
            have N1 : Ext wr m1 := B0.trans b1
            refine hK.out _ _ (fars_ext N1) (fun hHeld => ?_)
            clear hK K
            try simp only [Act.put, List.getElem_toArray, List.getElem_cons_zero, List.getElem_cons_succ, List.setIfInBounds_toArray, List.set_cons_zero, List.set_cons_succ]
            refine wpAnyH_ready (rs := [7]) (by kernel_rfl) (by simp) (AllReadyH.cons rfl (fun K hK => ?_) AllReadyH.nil)
            refine step_wp (by rfl) ?_
            refine wp_store_blk _ _ _ rfl (D) ((r).map bval) rfl rfl _ _ (ext_blk HD.out N1) (by rw [List.length_map, List.length_map, HRL.out, HHL.out]) (num_size (HRL.out)) (bval_one _) ?_
            intro m2 hb2 hg2
            refine hK.out _ _ (fars_put N1 hg2) (fun hHeld => ?_)
            clear hK K
            try simp only [Act.put, List.getElem_toArray, List.getElem_cons_zero, List.getElem_cons_succ, List.setIfInBounds_toArray, List.set_cons_zero, List.set_cons_succ]
            refine wpAnyH_ready (rs := [8]) (by kernel_rfl) (by simp) (AllReadyH.cons rfl (fun K hK => ?_) AllReadyH.nil)
            go_simp
            refine hK.out _ _ (fars_put N1 hg2) (fun hHeld => ?_)
            clear hK K
            try simp only [Act.put, List.getElem_toArray, List.getElem_cons_zero, List.getElem_cons_succ, List.setIfInBounds_toArray, List.set_cons_zero, List.set_cons_succ]
            refine wpAnyH_done (by kernel_rfl) ?_ _
            have HD9 := Lib.hid hb2
            have HE9 := Lib.hid (ext_grown (HE.out.trans N1) hg2 HDW.out)
            have HA9 := Lib.hid ((ext_blk HA.out N1).grown hg2 (by simpa using HAD.out.symm))
            generalize m2 = w9 at HD9 HE9 HA9 ⊢
            go_wp2_with fail
            go_step3
            change (0 = 0 ∧ (CheckJ root n i b p bv A w _ _ ∧ _ < _))
            refine ⟨rfl, ⟨j + 1, s2, r, q.drop 1, .slice aq2 nq2 cq2, D, HS2.out, Or.inr (by rw [HW2.out]; omega), HV2.out, HRL.out, HQ2.out, by have := HQL.out; rw [List.length_drop]; omega, HA9.out, HD9.out, HAD.out, HDW.out, HE9.out, fun n => ([undef, undef, undef, undef, undef, undef, _, _, _, _, _, undef, undef, _, _, _, _, _, _, _, _, _, _, _, _, _, _, _, _, _, _, _, _, _, _, _, _, _, _, _, _, _, _, _, _, _, _, _, _, _, _, _, _, _, _, _, _, _, _, _, _, _, _, _, _, _, _, _, _, _, _, _, _, _] : List Value).getD n undef, rfl⟩, ?_⟩
            show 2 * n - (intOf (.int .i64 (s2 : Int))).toNat < 2 * n - (intOf (.int .i64 (s : Int))).toNat
            have := HP.out
            have := HW2.out
            simp only [intOf]
            omega
          · have hfi' : ¬ (i : Int) < (f : Int) := by omega
            have HJ := Lib.hid (fun (wx : World) (hx : Ext wr wx) => mjoined_any y h wx HYL.out HHL.out (HG.out.ext (HE.out.trans hx)))
            have HV2 : Hid (merV n i b p (j + 1) = some (sha256 (1 :: (y ++ h)), q.drop 1)) := Lib.hid (by rw [HMS.out, if_pos hfn, if_neg hz, if_neg hfi, HYE.out])
            have HRL : Hid ((sha256 (1 :: (y ++ h))).length = 32) := Lib.hid (sha256_length _)
            generalize sha256 (1 :: (y ++ h)) = r at *
            clear HMS HCN HCS
            go_wp2_with fail
            refine (HBS.out _).mono ?_
            rintro e w' ⟨rfl, rfl⟩
            go_upto_region 7 with (fail)
            have B0 : Ext wr wr.drew := Ext.drew _
            refine wp_region_held_drew (S := fun w' => Far (D) wr w') (by kernel_rfl) (fars_ext B0) (fun hHeld => ?_)
            refine wpAnyH_take (i := 0) (v := .slice (some ⟨b1, o1, none⟩) q.length cq) rfl (by kernel_rfl) (by kernel_rfl) (by kernel_rfl) (fun _ _ _ h => h) (yi_move _ (.slice (some ⟨b1, o1, none⟩) q.length cq) (by rfl) rfl rfl) hHeld ?_
            simp only [Act.put, List.getElem_toArray, List.getElem_cons_zero, List.getElem_cons_succ, List.setIfInBounds_toArray, List.set_cons_zero, List.set_cons_succ]
            refine wpAnyH_take (i := 1) (v := .pointer (some ⟨b1, o1, none⟩)) rfl (by kernel_rfl) (by kernel_rfl) (by kernel_rfl) (fun _ _ _ h => h) (yi_val (.pointer (some ⟨b1, o1, none⟩)) (by rfl) (fun w _ => by go_simp)) hHeld ?_
            simp only [Act.put, List.getElem_toArray, List.getElem_cons_zero, List.getElem_cons_succ, List.setIfInBounds_toArray, List.set_cons_zero, List.set_cons_succ]
            refine wpAnyH_take (i := 2) (v := .agg ((y).map bval).toArray) rfl (by kernel_rfl) (by kernel_rfl) (by kernel_rfl) (fun _ _ _ h => h) (yieldsIf_load_mid (by rfl) _ _ rfl b1 o1 rfl _ _ (fun w h => fars_mid HEL.out (by have := HB1.out; have := HE.out.size; omega) (by have := HB1.out; have := HDW.out; omega) h) Tryd.underlying26 rfl HIY.out) hHeld ?_
            simp only [Act.put, List.getElem_toArray, List.getElem_cons_zero, List.getElem_cons_succ, List.setIfInBounds_toArray, List.set_cons_zero, List.set_cons_succ]
            refine wpAnyH_take (i := 5) (v := .slice (some ⟨b1, o1, none⟩) q.length cq) rfl (by kernel_rfl) (by kernel_rfl) (by kernel_rfl) (fun _ _ _ h => h) (yi_move _ (.slice (some ⟨b1, o1, none⟩) q.length cq) (by rfl) rfl rfl) hHeld ?_
            simp only [Act.put, List.getElem_toArray, List.getElem_cons_zero, List.getElem_cons_succ, List.setIfInBounds_toArray, List.set_cons_zero, List.set_cons_succ]
            refine wpAnyH_take (i := 6) (v := .slice aq2 nq2 cq2) rfl (by kernel_rfl) (by kernel_rfl) (by kernel_rfl) (fun _ _ _ h => h) (yi_slice _ _ _ _ (.slice (some ⟨b1, o1, none⟩) q.length cq) (.slice aq2 nq2 cq2) (some (.int .i64 1)) none (by rfl) rfl rfl rfl rfl HSQ.out) hHeld ?_
            simp only [Act.put, List.getElem_toArray, List.getElem_cons_zero, List.getElem_cons_succ, List.setIfInBounds_toArray, List.set_cons_zero, List.set_cons_succ]
            refine wpAnyH_ready (rs := [3]) (by kernel_rfl) (by simp) (AllReadyH.cons rfl (fun K hK => ?_) AllReadyH.nil)
            refine step_wp (by rfl) ?_
            refine wp_load_mid _ _ rfl D 0 rfl _ _ (ext_blk HD.out B0).range Tryd.underlying26 rfl HIH.out ?_
            refine hK.out _ _ (fars_ext B0) (fun hHeld => ?_)
            clear hK K
            try simp only [Act.put, List.getElem_toArray, List.getElem_cons_zero, List.getElem_cons_succ, List.setIfInBounds_toArray, List.set_cons_zero, List.set_cons_succ]
            refine wpAnyH_ready (rs := [4]) (by kernel_rfl) (by simp) (AllReadyH.cons rfl (fun K hK => ?_) AllReadyH.nil)
            go_simp
            refine (HJ.out wr.drew B0).mono ?_
            rintro e m1 ⟨rfl, b1⟩
            have N1 : Ext wr m1 := B0.trans b1
            refine hK.out _ _ (fars_ext N1) (fun hHeld => ?_)
            clear hK K
            try simp only [Act.put, List.getElem_toArray, List.getElem_cons_zero, List.getElem_cons_succ, List.setIfInBounds_toArray, List.set_cons_zero, List.set_cons_succ]
            refine wpAnyH_ready (rs := [7]) (by kernel_rfl) (by simp) (AllReadyH.cons rfl (fun K hK => ?_) AllReadyH.nil)
            refine step_wp (by rfl) ?_
            refine wp_store_blk _ _ _ rfl (D) ((r).map bval) rfl rfl _ _ (ext_blk HD.out N1) (by rw [List.length_map, List.length_map, HRL.out, HHL.out]) (num_size (HRL.out)) (bval_one _) ?_
            intro m2 hb2 hg2
            refine hK.out _ _ (fars_put N1 hg2) (fun hHeld => ?_)
            clear hK K
            try simp only [Act.put, List.getElem_toArray, List.getElem_cons_zero, List.getElem_cons_succ, List.setIfInBounds_toArray, List.set_cons_zero, List.set_cons_succ]
            refine wpAnyH_ready (rs := [8]) (by kernel_rfl) (by simp) (AllReadyH.cons rfl (fun K hK => ?_) AllReadyH.nil)
            go_simp
            refine hK.out _ _ (fars_put N1 hg2) (fun hHeld => ?_)
            clear hK K
            try simp only [Act.put, List.getElem_toArray, List.getElem_cons_zero, List.getElem_cons_succ, List.setIfInBounds_toArray, List.set_cons_zero, List.set_cons_succ]
            refine wpAnyH_done (by kernel_rfl) ?_ _
            have HD9 := Lib.hid hb2
            have HE9 := Lib.hid (ext_grown (HE.out.trans N1) hg2 HDW.out)
            have HA9 := Lib.hid ((ext_blk HA.out N1).grown hg2 (by simpa using HAD.out.symm))
            generalize m2 = w9 at HD9 HE9 HA9 ⊢
            go_wp2_with fail
            go_step3
            change (0 = 0 ∧ (CheckJ root n i b p bv A w _ _ ∧ _ < _))
            refine ⟨rfl, ⟨j + 1, s2, r, q.drop 1, .slice aq2 nq2 cq2, D, HS2.out, Or.inr (by rw [HW2.out]; omega), HV2.out, HRL.out, HQ2.out, by have := HQL.out; rw [List.length_drop]; omega, HA9.out, HD9.out, HAD.out, HDW.out, HE9.out, fun n => ([undef, undef, undef, undef, undef, undef, _, _, _, _, _, undef, undef, _, _, _, _, _, _, _, _, _, _, _, _, _, _, _, _, _, _, _, _, _, _, _, _, _, _, _, _, _, _, _, _, _, _, _, _, _, _, _, _, _, _, _, _, _, _, _, _, _, _, _, _, _, _, _, _, _, _, _, _, _] : List Value).getD n undef, rfl⟩, ?_⟩
            show 2 * n - (intOf (.int .i64 (s2 : Int))).toNat < 2 * n - (intOf (.int .i64 (s : Int))).toNat
            have := HP.out
            have := HW2.out
            simp only [intOf]
            omega
      · have hfm : (m : Int) ≤ (f : Int) := by omega
        have HV2 : Hid (merV n i b p (j + 1) = some (h, q)) := Lib.hid (by rw [HMS.out, if_neg hfn])
        clear hm HMS HCN HCS
        go_wp2_with fail
        refine (HBS.out _).mono ?_
        rintro e w' ⟨rfl, rfl⟩
        go_wp2_with fail
        go_step3
        change (0 = 0 ∧ (CheckJ root n i b p bv A w _ _ ∧ _ < _))
        refine ⟨rfl, ⟨j + 1, s2, h, q, _, D, HS2.out, Or.inr (by rw [HW2.out]; omega), HV2.out, HHL.out, HQ.out, HQL.out, HA.out, HD.out, HAD.out, HDW.out, HE.out, fun n => ([undef, undef, undef, undef, undef, undef, _, _, _, _, _, undef, undef, _, _, _, _, _, _, _, _, _, _, _, _, _, _, _, _, _, _, _, _, _, _, _, _, _, _, _, _, _, _, _, _, _, _, _, _, _, _, _, _, _, _, _, _, _, _, _, _, _, _, _, _, _, _, _, _, _, _, _, _, _] : List Value).getD n undef, rfl⟩, ?_⟩
        show 2 * n - (intOf (.int .i64 (s2 : Int))).toNat < 2 * n - (intOf (.int .i64 (s : Int))).toNat
        have := HP.out
        have := HW2.out
        simp only [intOf]
        omega
    · have hc' : ¬ (s : Int) < (n : Int) := by omega
      have HF : Hid (ans = (decide (q.length = 0) && decide (h = root))) := Lib.hid (HCS.out h q j (by rw [← hs]; omega) HV.out)
      clear hs HCN HCS
      by_cases hz : q.length = 0
      · have hz' : (q.length : Int) = 0 := by omega
        obtain ⟨e, he⟩ : ∃ e, e = decide (h = root) := ⟨_, rfl⟩
        have HF : Hid (ans = e) := Lib.hid (by rw [HF.out, decide_eq_true hz, Bool.true_and, he])
        have HDE := Lib.hid he.symm
        clear he
        go_wp2_with (first | (refine wpList_eql (by rfl) _ _ _ _ _ _ 32 _ h root e rfl (Or.inl ⟨rfl, HDE.out⟩) Tryd.underlying26 Tryd.underlying5 num_info num_cells num_guard rfl rfl HHL.out HRL0.out ?_) | (refine wpList_load_w (by rfl) _ _ rfl D rfl _ _ _ _ HD.out Tryd.underlying26 HIH.out ?_) | (refine wpList_load_w (by rfl) _ _ rfl A rfl _ _ _ _ HA.out Tryd.underlying26 HIR.out ?_))
        simp only [Exit.jump]
        go_ret
        exact ⟨by rw [HF.out]; rfl, HE.out⟩
      · have hz' : ¬ (q.length : Int) = 0 := by omega
        have HF : Hid (ans = false) := Lib.hid (by rw [HF.out, decide_eq_false hz, Bool.false_and])
        go_wp2_with fail
        simp only [Exit.jump]
        go_ret
        exact ⟨by rw [HF.out]; rfl, HE.out⟩

set_option maxRecDepth 100000 in
set_option maxHeartbeats 4000000 in
theorem MCheck_num (root : List UInt8) (n i : Int) (b : List UInt8) (p : List (List UInt8)) (bv pv : Value) (w : World) (hr : root.length = 32) (hn1 : -9223372036854775808 ≤ n) (hn2 : n ≤ 9223372036854775807) (hi1 : -9223372036854775808 ≤ i) (hi2 : i ≤ 9223372036854775807) (hbl : b.length ≤ 1000000) (hpl : p.length ≤ 1000000) (hb : Row1 w bv (b.map bval)) (hp : RowN w pv p) (hG : GlobR w) :
    Calls Tryd.prog 16 #[.agg (root.map bval).toArray, .int .i64 n, .int .i64 i, bv, pv] w fun e w' => e = .returned (.bool (merC root n i b p)) ∧ Below w.heap.size w w' := by
  by_cases hin : 0 ≤ i ∧ i < n ∧ n ≤ 1048576
  · obtain ⟨j, rfl⟩ : ∃ j : Nat, i = (j : Int) := ⟨i.toNat, by omega⟩
    obtain ⟨m, rfl⟩ : ∃ m : Nat, n = (m : Int) := ⟨n.toNat, by omega⟩
    exact mCheck_in root m j b p bv pv w hr (by omega) (by omega) hbl hpl hb hp hG
  · have HF := Lib.hid (merC_out (root := root) (b := b) (p := p) hin)
    generalize merC root n i b p = ans at *
    have HE0 := Lib.hid (Ext.alloc w (.cells (root.map bval).toArray 26))
    clear hb hp hG hr
    by_cases c1 : i < 0
    · clear hin
      go_enter Tryd.func16, Tryd.ntmps16
      go_upto_region 1 with (fail)
      refine wp_scope_back0 0 (fun _ _ => False) (fun _ _ => 0) rfl ?_ (fun _ _ h => h.elim)
      intro _
      go_wp2_with fail
      simp only [Exit.jump]
      go_ret
      exact ⟨by rw [HF.out]; rfl, HE0.out⟩
    · by_cases c2 : n ≤ i
      · clear hin
        go_enter Tryd.func16, Tryd.ntmps16
        go_upto_region 1 with (fail)
        refine wp_scope_back0 0 (fun _ _ => False) (fun _ _ => 0) rfl ?_ (fun _ _ h => h.elim)
        intro _
        go_wp2_with fail
        simp only [Exit.jump]
        go_ret
        exact ⟨by rw [HF.out]; rfl, HE0.out⟩
      · have c3 : 1048576 < n := by omega
        clear hin
        go_enter Tryd.func16, Tryd.ntmps16
        go_upto_region 1 with (fail)
        refine wp_scope_back0 0 (fun _ _ => False) (fun _ _ => 0) rfl ?_ (fun _ _ h => h.elim)
        intro _
        go_wp2_with fail
        simp only [Exit.jump]
        go_ret
        exact ⟨by rw [HF.out]; rfl, HE0.out⟩

end Go.Proofs.YtcadfccijeodbaaDoor

/- THE CONTRACTS of package merkle, as the laws of chapter 15 take them: of the program's own text. Each theorem names its own conditions. -/
namespace Go.Proofs.YtcadfccijeodbaaDoor
open Go.RowKit
set_option linter.unusedVariables false

/-- What the code asks of the world. -/
def MG (w : World) : Prop := GlobR w
theorem MG.ext {w w' : World} (h : MG w) (hb : Ext w w') : MG w' := GlobR.ext h hb
theorem MRoot_num (ls : List (List UInt8)) (v : Value) (w : World) (hb : ∀ l ∈ ls, l.length ≤ 1000000) (hl : ls.length ≤ 1000000) (hv : RowB w v ls) (hG : MG w) :
    Calls Tryd.prog 11 #[v] w fun e w' => e = .returned (.agg ((merR ls).map bval).toArray) ∧ Below w.heap.size w w' := mRoot_any ls v w hb hl hv hG

end Go.Proofs.YtcadfccijeodbaaDoor

/- The walk of what every law of chapter 15 begins with: alive. Laid by wip/gen/gmerl.py. Each theorem names its own conditions. -/
namespace Go.Proofs.YtcadfccijeodbaaDoor
open Go.RowKit
set_option linter.unusedVariables false
set_option linter.unusedSimpArgs false

theorem mer_num (w : World) : (Instr.build 26 #[]).run Tryd.prog w = .ok (.agg (zer.map bval).toArray) w := by
  simp [Instr.build, Tryd.zeroValue26]
  rfl
theorem mer_size_alloc (w : World) (o : Obj) : (w.alloc o).heap.size = w.heap.size + 1 := by simp
theorem mer_x : merR [[120]] ≠ zer := by decide +kernel
theorem merC_x1 : merC (merR [[120]]) 1 0 [120] [] = true := by
  have h := merC_in (root := merR [[120]]) (n := 1) (i := 0) [120] [] (by omega) (by omega)
  exact h.trans (decide_eq_true rfl)
theorem merC_x2 : merC (merR [[120]]) 2 0 [120] [] = false := by
  have h := merC_in (root := merR [[120]]) (n := 2) (i := 0) [120] [] (by omega) (by omega)
  exact h.trans (decide_eq_false (by rw [merU_none 0 [120] (by omega) rfl]; exact fun e => by cases e))

set_option maxRecDepth 100000 in
set_option maxHeartbeats 8000000 in
theorem alive_any15 (w : World) (hG : MG w) : Calls Tryd.prog 9 #[] w fun e w' => e = .returned (.bool true) ∧ Below w.heap.size w w' := by
  have HG := Lib.hid hG
  clear hG
  have kc := fun (w : World) (C : Array Value) (n c : Nat) => Lib.run_convert_bytes_const (P := Tryd.prog) w 34 5 C n c Tryd.underlying34 Tryd.underlying5
  go_enter Tryd.func9, Tryd.ntmps9
  go_upto_region 2 with (fail)
  have hx0 : Row1 (w.alloc (.cells #[.int .u8 120] 5 (1, 2))) (.slice (some ⟨w.heap.size, 0, none⟩) 1 1) (([120] : List UInt8).map bval) := Row1.made_mark w _ _ _ _ _ _ rfl rfl rfl (by unfold maxLen; omega)
  obtain ⟨w1, hw1⟩ : ∃ w1, w1 = w.alloc (.cells #[.int .u8 120] 5 (1, 2)) := ⟨_, rfl⟩
  have HE1 : Hid (Ext w w1) := Lib.hid (by rw [hw1]; exact Ext.alloc _ _)
  have hs1 : w1.heap.size = w.heap.size + 1 := by rw [hw1]; exact mer_size_alloc _ _
  rw [← hw1] at hx0
  have hv0 : RowB (w1.alloc (.cells #[.slice (some ⟨w.heap.size, 0, none⟩) 1 1] 34)) (.slice (some ⟨w1.heap.size, 0, none⟩) 1 1) [[120]] := rowB1 (Row1.made w1 _ _ _ _ [.slice (some ⟨w.heap.size, 0, none⟩) 1 1] rfl rfl rfl (by unfold maxLen; omega)) (hx0.below (Ext.alloc _ _))
  have HEV : Hid (Ext w1 (w1.alloc (.cells #[.slice (some ⟨w.heap.size, 0, none⟩) 1 1] 34))) := Lib.hid (Ext.alloc _ _)
  have hc0 : (w1.alloc (.cells #[.slice (some ⟨w.heap.size, 0, none⟩) 1 1] 34)).cell? ⟨w1.heap.size, 0, none⟩ = some (.slice (some ⟨w.heap.size, 0, none⟩) 1 1) := by
    rw [World.cell?_alloc_at _ _ _ _ rfl]
    rfl
  try rw [← hw1]
  try rw [← hs1]
  generalize w1.alloc (.cells #[.slice (some ⟨w.heap.size, 0, none⟩) 1 1] 34) = w2 at *
  generalize w1.heap.size = L at *
  have HE := Lib.hid (HE1.out.trans HEV.out)
  have HV := Lib.hid hv0
  have HC0 := Lib.hid hc0
  have HX := Lib.hid ((hx0.below HEV.out))
  clear hx0 hv0 hc0 hw1 hs1 HE1 HEV kc
  have HPI : Hid (merPI [[120]] 0 = []) := Lib.hid rfl
  go_wp2_with fail
  refine (MPath_num [[120]] _ 0 w2 (by decide) (by decide) (by decide) (by decide) HV.out (HG.out.ext HE.out)).mono ?_
  rintro e w3 ⟨x3, rfl, hr3, hb⟩
  rw [HPI.out] at hr3
  obtain ⟨a3, c3, rfl, _⟩ := hr3.form
  have HW := Lib.hid (show Ext w2 w3 from hb)
  clear hr3 hb HPI
  have hd : decide ((0 : Int) ≤ 0 ∧ (0 : Int) < (([[120]] : List (List UInt8)).length : Int)) = true := by decide
  rw [hd]
  have hl0 : ([] : List (List UInt8)).length = 0 := rfl
  rw [hl0]
  clear hd hl0
  go_wp2_with fail
  refine (MRoot_num [[120]] _ w3 (by decide) (by decide) (HV.out.below HW.out) (HG.out.ext (HE.out.trans HW.out))).mono ?_
  rintro e w4 ⟨rfl, hb⟩
  have HW := Lib.hid (HW.out.trans hb)
  have HRL : Hid ((merR [[120]]).length = 32) := Lib.hid (merR_length _)
  have HNZ := Lib.hid mer_x
  have HM1 := Lib.hid merC_x1
  have HM2 := Lib.hid merC_x2
  generalize merR [[120]] = r at *
  have HIR := Lib.hid (num_size HRL.out)
  have HLR : Hid ((r.map bval).length = (ints .u8 (List.replicate 32 0)).length) := Lib.hid (by rw [List.length_map, HRL.out, ints_length, List.length_replicate])
  have HZ := Lib.hid (Blk.made w4 (ints .u8 (List.replicate 32 0)) 26)
  have HEA := Lib.hid (Ext.alloc w4 (.cells (ints .u8 (List.replicate 32 0)).toArray 26))
  clear hb
  go_upto_region 4 with (refine wpList_store_blk rfl _ _ _ rfl w4.heap.size (r.map bval) rfl rfl _ _ HZ.out HLR.out HIR.out (bval_one _) ?_; intro w5 hb2 hg2)
  have HX5 := Lib.hid (ext_grown HEA.out hg2 (Nat.le_refl _))
  have HW := Lib.hid (HW.out.trans HX5.out)
  have HD := Lib.hid hb2
  generalize w4.heap.size = D at *
  clear hb2 hg2 HZ HEA HX5
  have HE := Lib.hid (HE.out.trans HW.out)
  have HXB := Lib.hid (HX.out.below HW.out)
  have HC5 : Hid (w5.cell? ⟨L, 0, none⟩ = some (.slice (some ⟨w.heap.size, 0, none⟩) 1 1)) := Lib.hid ((HW.out.cell (World.block_lt_of_cell? w2 _ HC0.out)).trans HC0.out)
  generalize w.heap.size = X at *
  have HK1 := Lib.hid (fun (wx : World) (hx : Ext w5 wx) => MCheck_num r 1 0 [120] [] _ (.slice none 0 0) wx HRL.out (by decide) (by decide) (by decide) (by decide) (by decide) (by decide) (HXB.out.below hx) (RowN.nil wx) (HG.out.ext (HE.out.trans hx)))
  have HK2 := Lib.hid (fun (wx : World) (hx : Ext w5 wx) => MCheck_num r 2 0 [120] [] _ (.slice none 0 0) wx HRL.out (by decide) (by decide) (by decide) (by decide) (by decide) (by decide) (HXB.out.below hx) (RowN.nil wx) (HG.out.ext (HE.out.trans hx)))
  rw [HM1.out] at HK1
  rw [HM2.out] at HK2
  have B0 : Ext w5 w5.drew := Ext.drew _
  refine wp_region_held_drew (S := fun w' => Ext w5 w') (by kernel_rfl) B0 (fun hHeld => ?_)
  refine wpAnyH_take (i := 0) (v := .bool true) rfl (by kernel_rfl) (by kernel_rfl) (by kernel_rfl) (fun _ _ _ h => h) (yi_move _ (.bool true) (by rfl) rfl rfl) hHeld ?_
  simp only [Act.put, List.getElem_toArray, List.getElem_cons_zero, List.getElem_cons_succ, List.setIfInBounds_toArray, List.set_cons_zero, List.set_cons_succ]
  refine wpAnyH_take (i := 1) (v := .bool true) rfl (by kernel_rfl) (by kernel_rfl) (by kernel_rfl) (fun _ _ _ h => h) (yi_move _ (.bool true) (by rfl) rfl rfl) hHeld ?_
  simp only [Act.put, List.getElem_toArray, List.getElem_cons_zero, List.getElem_cons_succ, List.setIfInBounds_toArray, List.set_cons_zero, List.set_cons_succ]
  refine wpAnyH_take (i := 2) (v := .slice a3 0 c3) rfl (by kernel_rfl) (by kernel_rfl) (by kernel_rfl) (fun _ _ _ h => h) (yi_move _ (.slice a3 0 c3) (by rfl) rfl rfl) hHeld ?_
  simp only [Act.put, List.getElem_toArray, List.getElem_cons_zero, List.getElem_cons_succ, List.setIfInBounds_toArray, List.set_cons_zero, List.set_cons_succ]
  refine wpAnyH_take (i := 3) (v := .int .i64 ((0 : Nat) : Int)) rfl (by kernel_rfl) (by kernel_rfl) (by kernel_rfl) (fun _ _ _ h => h) (yi_len _ _ _ _ _ _ Tryd.underlying28 (by rfl) rfl rfl) hHeld ?_
  simp only [Act.put, List.getElem_toArray, List.getElem_cons_zero, List.getElem_cons_succ, List.setIfInBounds_toArray, List.set_cons_zero, List.set_cons_succ]
  refine wpAnyH_take (i := 4) (v := .bool true) rfl (by kernel_rfl) (by kernel_rfl) (by kernel_rfl) (fun _ _ _ h => h) (yi_eqi .i64 _ _ _ _ _ _ true (decide_eq_true (rfl)) (by rfl) rfl rfl rfl) hHeld ?_
  simp only [Act.put, List.getElem_toArray, List.getElem_cons_zero, List.getElem_cons_succ, List.setIfInBounds_toArray, List.set_cons_zero, List.set_cons_succ]
  refine wpAnyH_take (i := 5) (v := .bool true) rfl (by kernel_rfl) (by kernel_rfl) (by kernel_rfl) (fun _ _ _ h => h) (yi_pick _ _ _ true _ (by rfl) rfl rfl rfl) hHeld ?_
  simp only [Act.put, List.getElem_toArray, List.getElem_cons_zero, List.getElem_cons_succ, List.setIfInBounds_toArray, List.set_cons_zero, List.set_cons_succ]
  refine wpAnyH_take (i := 6) (v := .bool true) rfl (by kernel_rfl) (by kernel_rfl) (by kernel_rfl) (fun _ _ _ h => h) (yi_move _ (.bool true) (by rfl) rfl rfl) hHeld ?_
  simp only [Act.put, List.getElem_toArray, List.getElem_cons_zero, List.getElem_cons_succ, List.setIfInBounds_toArray, List.set_cons_zero, List.set_cons_succ]
  refine wpAnyH_take (i := 7) (v := .agg ((r).map bval).toArray) rfl (by kernel_rfl) (by kernel_rfl) (by kernel_rfl) (fun _ _ _ h => h) (yieldsIf_load_mid (by rfl) _ _ rfl D 0 rfl _ _ (fun w h => bl_range HD.out h) Tryd.underlying26 rfl HIR.out) hHeld ?_
  simp only [Act.put, List.getElem_toArray, List.getElem_cons_zero, List.getElem_cons_succ, List.setIfInBounds_toArray, List.set_cons_zero, List.set_cons_succ]
  refine wpAnyH_take (i := 8) (v := .slice (some ⟨L, 0, none⟩) 1 1) rfl (by kernel_rfl) (by kernel_rfl) (by kernel_rfl) (fun _ _ _ h => h) (yi_move _ (.slice (some ⟨L, 0, none⟩) 1 1) (by rfl) rfl rfl) hHeld ?_
  simp only [Act.put, List.getElem_toArray, List.getElem_cons_zero, List.getElem_cons_succ, List.setIfInBounds_toArray, List.set_cons_zero, List.set_cons_succ]
  refine wpAnyH_take (i := 9) (v := .pointer (some ⟨L, 0, none⟩)) rfl (by kernel_rfl) (by kernel_rfl) (by kernel_rfl) (fun _ _ _ h => h) (yi_val (.pointer (some ⟨L, 0, none⟩)) (by rfl) (fun w _ => by go_simp)) hHeld ?_
  simp only [Act.put, List.getElem_toArray, List.getElem_cons_zero, List.getElem_cons_succ, List.setIfInBounds_toArray, List.set_cons_zero, List.set_cons_succ]
  refine wpAnyH_take (i := 10) (v := .slice (some ⟨X, 0, none⟩) 1 1) rfl (by kernel_rfl) (by kernel_rfl) (by kernel_rfl) (fun _ _ _ h => h) (yi_val (.slice (some ⟨X, 0, none⟩) 1 1) (by rfl) (fun w h => by have hc := (Below.cell h (World.block_lt_of_cell? w5 _ HC5.out)).trans HC5.out; go_simp)) hHeld ?_
  simp only [Act.put, List.getElem_toArray, List.getElem_cons_zero, List.getElem_cons_succ, List.setIfInBounds_toArray, List.set_cons_zero, List.set_cons_succ]
  refine wpAnyH_ready (rs := [11]) (by kernel_rfl) (by simp) (AllReadyH.cons rfl (fun K hK => ?_) AllReadyH.nil)
  go_simp
  refine (HK1.out w5.drew B0).mono ?_
  rintro e m1 ⟨rfl, b1⟩
  have N1 : Ext w5 m1 := B0.trans b1
  refine hK.out _ _ N1 (fun hHeld => ?_)
  clear hK K
  try simp only [Act.put, List.getElem_toArray, List.getElem_cons_zero, List.getElem_cons_succ, List.setIfInBounds_toArray, List.set_cons_zero, List.set_cons_succ]
  refine wpAnyH_take (i := 12) (v := .bool true) rfl (by kernel_rfl) (by kernel_rfl) (by kernel_rfl) (fun _ _ _ h => h) (yi_pick _ _ _ true _ (by rfl) rfl rfl rfl) hHeld ?_
  simp only [Act.put, List.getElem_toArray, List.getElem_cons_zero, List.getElem_cons_succ, List.setIfInBounds_toArray, List.set_cons_zero, List.set_cons_succ]
  refine wpAnyH_take (i := 13) (v := .bool true) rfl (by kernel_rfl) (by kernel_rfl) (by kernel_rfl) (fun _ _ _ h => h) (yi_move _ (.bool true) (by rfl) rfl rfl) hHeld ?_
  simp only [Act.put, List.getElem_toArray, List.getElem_cons_zero, List.getElem_cons_succ, List.setIfInBounds_toArray, List.set_cons_zero, List.set_cons_succ]
  refine wpAnyH_take (i := 14) (v := .agg ((r).map bval).toArray) rfl (by kernel_rfl) (by kernel_rfl) (by kernel_rfl) (fun _ _ _ h => h) (yieldsIf_load_mid (by rfl) _ _ rfl D 0 rfl _ _ (fun w h => bl_range HD.out h) Tryd.underlying26 rfl HIR.out) hHeld ?_
  simp only [Act.put, List.getElem_toArray, List.getElem_cons_zero, List.getElem_cons_succ, List.setIfInBounds_toArray, List.set_cons_zero, List.set_cons_succ]
  refine wpAnyH_take (i := 15) (v := .slice (some ⟨L, 0, none⟩) 1 1) rfl (by kernel_rfl) (by kernel_rfl) (by kernel_rfl) (fun _ _ _ h => h) (yi_move _ (.slice (some ⟨L, 0, none⟩) 1 1) (by rfl) rfl rfl) hHeld ?_
  simp only [Act.put, List.getElem_toArray, List.getElem_cons_zero, List.getElem_cons_succ, List.setIfInBounds_toArray, List.set_cons_zero, List.set_cons_succ]
  refine wpAnyH_take (i := 16) (v := .pointer (some ⟨L, 0, none⟩)) rfl (by kernel_rfl) (by kernel_rfl) (by kernel_rfl) (fun _ _ _ h => h) (yi_val (.pointer (some ⟨L, 0, none⟩)) (by rfl) (fun w _ => by go_simp)) hHeld ?_
  simp only [Act.put, List.getElem_toArray, List.getElem_cons_zero, List.getElem_cons_succ, List.setIfInBounds_toArray, List.set_cons_zero, List.set_cons_succ]
  refine wpAnyH_take (i := 17) (v := .slice (some ⟨X, 0, none⟩) 1 1) rfl (by kernel_rfl) (by kernel_rfl) (by kernel_rfl) (fun _ _ _ h => h) (yi_val (.slice (some ⟨X, 0, none⟩) 1 1) (by rfl) (fun w h => by have hc := (Below.cell h (World.block_lt_of_cell? w5 _ HC5.out)).trans HC5.out; go_simp)) hHeld ?_
  simp only [Act.put, List.getElem_toArray, List.getElem_cons_zero, List.getElem_cons_succ, List.setIfInBounds_toArray, List.set_cons_zero, List.set_cons_succ]
  refine wpAnyH_ready (rs := [18]) (by kernel_rfl) (by simp) (AllReadyH.cons rfl (fun K hK => ?_) AllReadyH.nil)
  go_simp
  refine (HK2.out m1 N1).mono ?_
  rintro e m2 ⟨rfl, b2⟩
  have N2 : Ext w5 m2 := N1.trans b2
  refine hK.out _ _ N2 (fun hHeld => ?_)
  clear hK K
  try simp only [Act.put, List.getElem_toArray, List.getElem_cons_zero, List.getElem_cons_succ, List.setIfInBounds_toArray, List.set_cons_zero, List.set_cons_succ]
  refine wpAnyH_take (i := 19) (v := .bool true) rfl (by kernel_rfl) (by kernel_rfl) (by kernel_rfl) (fun _ _ _ h => h) (yi_not _ _ false (by rfl) rfl rfl) hHeld ?_
  simp only [Act.put, List.getElem_toArray, List.getElem_cons_zero, List.getElem_cons_succ, List.setIfInBounds_toArray, List.set_cons_zero, List.set_cons_succ]
  refine wpAnyH_take (i := 20) (v := .bool true) rfl (by kernel_rfl) (by kernel_rfl) (by kernel_rfl) (fun _ _ _ h => h) (yi_pick _ _ _ true _ (by rfl) rfl rfl rfl) hHeld ?_
  simp only [Act.put, List.getElem_toArray, List.getElem_cons_zero, List.getElem_cons_succ, List.setIfInBounds_toArray, List.set_cons_zero, List.set_cons_succ]
  refine wpAnyH_take (i := 21) (v := .bool true) rfl (by kernel_rfl) (by kernel_rfl) (by kernel_rfl) (fun _ _ _ h => h) (yi_move _ (.bool true) (by rfl) rfl rfl) hHeld ?_
  simp only [Act.put, List.getElem_toArray, List.getElem_cons_zero, List.getElem_cons_succ, List.setIfInBounds_toArray, List.set_cons_zero, List.set_cons_succ]
  refine wpAnyH_take (i := 22) (v := .agg ((r).map bval).toArray) rfl (by kernel_rfl) (by kernel_rfl) (by kernel_rfl) (fun _ _ _ h => h) (yieldsIf_load_mid (by rfl) _ _ rfl D 0 rfl _ _ (fun w h => bl_range HD.out h) Tryd.underlying26 rfl HIR.out) hHeld ?_
  simp only [Act.put, List.getElem_toArray, List.getElem_cons_zero, List.getElem_cons_succ, List.setIfInBounds_toArray, List.set_cons_zero, List.set_cons_succ]
  refine wpAnyH_take (i := 23) (v := .agg ((zer).map bval).toArray) rfl (by kernel_rfl) (by kernel_rfl) (by kernel_rfl) (fun _ _ _ h => h) (yi_build _ _ _ _ mer_num (by rfl) rfl (by simp)) hHeld ?_
  simp only [Act.put, List.getElem_toArray, List.getElem_cons_zero, List.getElem_cons_succ, List.setIfInBounds_toArray, List.set_cons_zero, List.set_cons_succ]
  refine wpAnyH_take (i := 24) (v := .bool true) rfl (by kernel_rfl) (by kernel_rfl) (by kernel_rfl) (fun _ _ _ h => h) (yi_neqB _ _ _ _ _ 32 _ (r) (zer) true (by rfl) rfl (decide_eq_false HNZ.out) Tryd.underlying26 Tryd.underlying5 num_info num_cells num_guard rfl rfl (HRL.out) (zer_length)) hHeld ?_
  simp only [Act.put, List.getElem_toArray, List.getElem_cons_zero, List.getElem_cons_succ, List.setIfInBounds_toArray, List.set_cons_zero, List.set_cons_succ]
  refine wpAnyH_take (i := 25) (v := .bool true) rfl (by kernel_rfl) (by kernel_rfl) (by kernel_rfl) (fun _ _ _ h => h) (yi_pick _ _ _ true _ (by rfl) rfl rfl rfl) hHeld ?_
  simp only [Act.put, List.getElem_toArray, List.getElem_cons_zero, List.getElem_cons_succ, List.setIfInBounds_toArray, List.set_cons_zero, List.set_cons_succ]
  refine wpAnyH_ready (rs := [26]) (by kernel_rfl) (by simp) (AllReadyH.cons rfl (fun K hK => ?_) AllReadyH.nil)
  go_simp
  refine hK.out _ _ N2 (fun hHeld => ?_)
  clear hK K
  try simp only [Act.put, List.getElem_toArray, List.getElem_cons_zero, List.getElem_cons_succ, List.setIfInBounds_toArray, List.set_cons_zero, List.set_cons_succ]
  refine wpAnyH_done (by kernel_rfl) ?_ _
  have HN := Lib.hid (HE.out.trans N2)
  go_wp2_with fail
  go_ret
  exact ⟨rfl, HN.out⟩

end Go.Proofs.YtcadfccijeodbaaDoor

/- The walk of what the laws of lists of bytes ask first: are they too many, or too long. Each theorem names its own conditions. -/
namespace Go.Proofs.YtcadfccijeodbaaDoor
open Go.RowKit
set_option linter.unusedVariables false
set_option linter.unusedSimpArgs false

/-- Are lists too many, or one too long? -/
def bigB (ls : List (List UInt8)) : Bool := decide (30 < ls.length) || ls.any fun x => decide (1000 < x.length)
theorem big_many {ls : List (List UInt8)} (h : 30 < ls.length) : bigB ls = true := by simp [bigB, h]
theorem big_one {ls : List (List UInt8)} {k : Nat} {l : List UInt8} (h : ls[k]? = some l) (hl : 1000 < l.length) : bigB ls = true := by
  unfold bigB
  rw [Bool.or_eq_true]
  right
  rw [List.any_eq_true]
  refine ⟨l, ?_, by simpa using hl⟩
  exact List.mem_of_getElem? h
theorem big_none {ls : List (List UInt8)} (h : ls.length ≤ 30) (hs : ∀ (j : Nat) (l : List UInt8), ls[j]? = some l → l.length ≤ 1000) : bigB ls = false := by
  unfold bigB
  rw [Bool.or_eq_false_iff]
  refine ⟨by simpa using h, ?_⟩
  rw [List.any_eq_false]
  intro x hx
  obtain ⟨j, hj, rfl⟩ := List.getElem_of_mem hx
  have := hs j _ (List.getElem?_eq_getElem hj)
  simpa using this
theorem flat_bound : ∀ (ls : List (List UInt8)), (∀ l ∈ ls, l.length ≤ 1000) → ls.flatten.length ≤ 1000 * ls.length
  | [], _ => by simp
  | l :: r, h => by
    have h1 := h l (List.mem_cons_self ..)
    have h2 := flat_bound r (fun x hx => h x (List.mem_cons_of_mem _ hx))
    simp only [List.flatten_cons, List.length_append, List.length_cons]
    omega
theorem small_flat {ls : List (List UInt8)} (h : bigB ls = false) : ls.flatten.length ≤ 30000 := by
  unfold bigB at h
  rw [Bool.or_eq_false_iff] at h
  have h1 : ls.length ≤ 30 := by simpa using h.1
  have h2 := h.2
  rw [List.any_eq_false] at h2
  have := flat_bound ls (fun l hl => by simpa using h2 l hl)
  omega
theorem small_len {ls : List (List UInt8)} (h : bigB ls = false) : ls.length ≤ 30 := by
  unfold bigB at h
  rw [Bool.or_eq_false_iff] at h
  simpa using h.1

set_option maxRecDepth 100000 in
set_option maxHeartbeats 4000000 in
theorem big_any (v : Value) (ls : List (List UInt8)) (w : World) (hv : RowB w v ls) : Calls Tryd.prog 10 #[v] w fun e w' => e = .returned (.bool (bigB ls)) ∧ w = w' := by
  obtain ⟨vals, hr, hlen, hx⟩ := hv
  obtain ⟨a, cap, rfl, r1, r2, r3, r4⟩ := id hr
  unfold maxLen at r2
  rw [hlen] at r1 ⊢
  have HX := Lib.hid hx
  have HC := Lib.hid r4
  have HLN := Lib.hid hlen
  clear hr hx r3 r4 hlen
  by_cases h30 : 30 < ls.length
  · have h31 : 30 < (ls.length : Int) := by omega
    rw [big_many h30]
    go_enter Tryd.func10, Tryd.ntmps10
    go_wp2_with fail
    go_ret
    exact ⟨rfl, rfl⟩
  · have h31 : (ls.length : Int) ≤ 30 := by omega
    have H30 : Hid (ls.length ≤ 30) := Lib.hid (by omega)
    obtain ⟨bb, hbb⟩ : ∃ b, b = bigB ls := ⟨_, rfl⟩
    have HBB := Lib.hid hbb
    rw [← hbb]
    clear h30 hbb
    go_enter Tryd.func10, Tryd.ntmps10
    go_wp2_with fail
    go_loop [3] (fun iv => ∃ k : Nat, k ≤ ls.length ∧ iv = .int .i64 (k : Int) ∧ ∀ (j : Nat) (l : List UInt8), j < k → ls[j]? = some l → l.length ≤ 1000) (fun iv => ls.length - (intOf iv).toNat)
    case atStart => exact ⟨0, Nat.zero_le _, rfl, fun j l hj => by omega⟩
    case round =>
      obtain ⟨k, hk, rfl, hall⟩ := hrel
      have HA := Lib.hid hall
      have k0 : (0 : Int) ≤ (k : Int) := Int.natCast_nonneg _
      clear hall
      by_cases hlk : k < ls.length
      · have k1 : (k : Int) < (ls.length : Int) := by omega
        obtain ⟨b', off, rfl, hbs, hcell⟩ := HC.out (by intro e; have h := congrArg List.length e; rw [HLN.out] at h; simp only [List.length_nil] at h; omega)
        obtain ⟨xv, hxv⟩ : ∃ x, vals[k]? = some x := ⟨_, List.getElem?_eq_getElem (by rw [HLN.out]; exact hlk)⟩
        obtain ⟨lk, hlk2⟩ : ∃ x, ls[k]? = some x := ⟨_, List.getElem?_eq_getElem hlk⟩
        have c0 : w.cell? ⟨b', off + k, none⟩ = some xv := by
          have h := hcell k (by rw [HLN.out]; exact hlk)
          rw [hxv] at h
          exact h
        obtain ⟨a2, cap2, rfl, s1, s2, s3, s4⟩ := HX.out k xv lk hxv hlk2
        rw [List.length_map] at s1 c0
        unfold maxLen at s2
        have HLK := Lib.hid hlk2
        clear hcell hxv hlk2 s3 s4
        by_cases hbig : 1000 < lk.length
        · have hbig2 : 1000 < (lk.length : Int) := by omega
          have HBT : Hid (bb = true) := Lib.hid (by rw [HBB.out]; exact big_one HLK.out hbig)
          go_wp2_with fail
          go_ret
          exact ⟨by rw [HBT.out]; rfl, rfl⟩
        · have hbig2 : (lk.length : Int) ≤ 1000 := by omega
          go_wp2_with fail
          go_round
          case rel =>
            refine ⟨k + 1, by omega, by go_num, fun j l hj hl => ?_⟩
            by_cases hjk : j = k
            · subst hjk
              have h := HLK.out
              rw [hl] at h
              cases h
              omega
            · exact HA.out j l (by omega) hl
          case measure => simp [intOf]; omega
      · have hk2 : (ls.length : Int) ≤ (k : Int) := by omega
        have HBF : Hid (bb = false) := Lib.hid (by
          rw [HBB.out]
          refine big_none H30.out (fun j l hl => HA.out j l ?_ hl)
          rcases Nat.lt_or_ge j ls.length with h | h
          · omega
          · rw [List.getElem?_eq_none h] at hl; cases hl)
        go_wp2_with fail
        go_ret
        exact ⟨by rw [HBF.out]; rfl, rfl⟩

end Go.Proofs.YtcadfccijeodbaaDoor

/- MerkleMade walks to true. Laid by wip/gen/gmerl.py. Each theorem names its own conditions. -/
namespace Go.Proofs.YtcadfccijeodbaaDoor
open Go.RowKit
set_option linter.unusedVariables false
set_option linter.unusedSimpArgs false

theorem mer_small {ls : List (List UInt8)} (h : bigB ls = false) {l : List UInt8} (hl : l ∈ ls) : l.length ≤ 1000 := by
  unfold bigB at h
  rw [Bool.or_eq_false_iff] at h
  have h2 := h.2
  rw [List.any_eq_false] at h2
  simpa using h2 l hl
set_option maxRecDepth 100000 in
set_option maxHeartbeats 8000000 in
theorem merkleMade_any (ls : List (List UInt8)) (v : Value) (w : World) (hv : RowB w v ls) (hG : MG w) (hR : GlobR w) :
    Calls Tryd.prog 7 #[v] w fun e w' => e = .returned (.bool true) ∧ Below w.heap.size w w' := by
  obtain ⟨i0, hi, hz0, hz1, hz2⟩ := info_parts Tryd.info5
  obtain ⟨iq, hq0, hq1, hq2⟩ := info_two (P := Tryd.prog) (t := 34) (z := .slice none 0 0) (n := 1) (by kernel_rfl)
  have HI0 := Lib.hid hi
  have HZ0 := Lib.hid hz0
  have HZ1 := Lib.hid hz1
  have HZ2 := Lib.hid hz2
  have HQ0 := Lib.hid hq0
  have HQ1 := Lib.hid hq1
  have HQ2 := Lib.hid hq2
  have HG := Lib.hid hG
  have HR := Lib.hid hR
  obtain ⟨a, cap, rfl, r1, r2⟩ := mer_form hv
  unfold maxLen at r2
  have HV0 := Lib.hid hv
  have l0 : (0 : Int) ≤ (ls.length : Int) := Int.natCast_nonneg _
  clear hG hR hv hi hz0 hz1 hz2 hq0 hq1 hq2
  go_enter Tryd.func7, Tryd.ntmps7
  go_wp2_with fail
  refine (alive_any15 w HG.out).mono ?_
  rintro e wb ⟨rfl, hb⟩
  have HE : Hid (Ext w wb) := Lib.hid hb
  have HV := Lib.hid (HV0.out.below hb)
  clear hb HV0
  go_wp2_with fail
  refine (big_any _ ls wb HV.out).mono ?_
  rintro e wq ⟨rfl, rfl⟩
  by_cases hbig : bigB ls = true
  · rw [hbig]
    go_wp2_with fail
    go_ret
    exact ⟨rfl, HE.out⟩
  · have hbig : bigB ls = false := by simpa using hbig
    have H30 := Lib.hid (small_len hbig)
    have HSM : Hid (∀ l ∈ ls, l.length ≤ 1000) := Lib.hid (fun l hl => mer_small hbig hl)
    rw [hbig]
    clear hbig
    by_cases h0 : ls.length = 0
    · have h0' : (ls.length : Int) < 1 := by omega
      go_wp2_with fail
      go_ret
      exact ⟨rfl, HE.out⟩
    · have h0' : ¬ (ls.length : Int) < 1 := by omega
      have HRT := Lib.hid (fun (wx : World) (hx : Ext wb wx) => MRoot_num ls _ wx (fun l hl => by have := HSM.out l hl; omega) (by have := H30.out; omega) (HV.out.below hx) (HG.out.ext (HE.out.trans hx)))
      have HRL : Hid ((merR ls).length = 32) := Lib.hid (merR_length ls)
      by_cases h1 : ls.length = 1
      · have h1' : (ls.length : Int) = 1 := by omega
        obtain ⟨b, off, rfl, hel⟩ := rowB_elem HV.out (by omega)
        obtain ⟨a2, c2, hc, hr⟩ := hel 0 (by omega)
        have HXL : Hid ((ls.getD 0 []).length ≤ 1000) := Lib.hid (HSM.out _ (by
          rw [List.getD_eq_getElem?_getD, List.getElem?_eq_getElem (by omega)]
          exact List.getElem_mem _))
        have HQ : Hid (sha256 (0 :: ls.getD 0 []) = merR ls) := Lib.hid (by
          rw [merR_one' h1]
          cases ls with
          | nil => simp at h1
          | cons x t => rfl)
        generalize ls.getD 0 [] = x at *
        generalize merR ls = r at *
        rw [Nat.add_zero] at hc
        have HC := Lib.hid hc
        have HX := Lib.hid hr
        have h10 : (0 : Int) < (ls.length : Int) := by omega
        rw [h1] at HRT ⊢
        clear hc hr hel h1 h1' h0 h0' l0 r1 h10
        go_upto_region 6 with (fail)
        have B0 : Ext wb wb.drew := Ext.drew _
        refine wp_region_held_drew (S := fun w' => Ext wb w') (by kernel_rfl) B0 (fun hHeld => ?_)
        refine wpAnyH_take (i := 0) (v := .slice (some ⟨b, off, none⟩) 1 cap) rfl (by kernel_rfl) (by kernel_rfl) (by kernel_rfl) (fun _ _ _ h => h) (yi_move _ (.slice (some ⟨b, off, none⟩) 1 cap) (by rfl) rfl rfl) hHeld ?_
        simp only [Act.put, List.getElem_toArray, List.getElem_cons_zero, List.getElem_cons_succ, List.setIfInBounds_toArray, List.set_cons_zero, List.set_cons_succ]
        refine wpAnyH_take (i := 3) (v := .slice (some ⟨b, off, none⟩) 1 cap) rfl (by kernel_rfl) (by kernel_rfl) (by kernel_rfl) (fun _ _ _ h => h) (yi_move _ (.slice (some ⟨b, off, none⟩) 1 cap) (by rfl) rfl rfl) hHeld ?_
        simp only [Act.put, List.getElem_toArray, List.getElem_cons_zero, List.getElem_cons_succ, List.setIfInBounds_toArray, List.set_cons_zero, List.set_cons_succ]
        refine wpAnyH_take (i := 4) (v := .pointer (some ⟨b, off, none⟩)) rfl (by kernel_rfl) (by kernel_rfl) (by kernel_rfl) (fun _ _ _ h => h) (yi_val (.pointer (some ⟨b, off, none⟩)) (by rfl) (fun w _ => by go_simp)) hHeld ?_
        simp only [Act.put, List.getElem_toArray, List.getElem_cons_zero, List.getElem_cons_succ, List.setIfInBounds_toArray, List.set_cons_zero, List.set_cons_succ]
        refine wpAnyH_take (i := 5) (v := .slice a2 x.length c2) rfl (by kernel_rfl) (by kernel_rfl) (by kernel_rfl) (fun _ _ _ h => h) (yi_val (.slice a2 x.length c2) (by rfl) (fun w h => by have hc := (Below.cell h (World.block_lt_of_cell? wb _ HC.out)).trans HC.out; go_simp)) hHeld ?_
        simp only [Act.put, List.getElem_toArray, List.getElem_cons_zero, List.getElem_cons_succ, List.setIfInBounds_toArray, List.set_cons_zero, List.set_cons_succ]
        refine wpAnyH_ready (rs := [1, 2]) (by kernel_rfl) (by simp) (AllReadyH.cons rfl (fun K hK => ?_) (AllReadyH.cons rfl (fun K hK => ?_) AllReadyH.nil))
        · go_simp
          refine (HRT.out wb.drew B0).mono ?_
          rintro e m1 ⟨rfl, b1⟩
          have N1 : Ext wb m1 := B0.trans b1
          refine hK.out _ _ N1 (fun hHeld => ?_)
          clear hK K
          try simp only [Act.put, List.getElem_toArray, List.getElem_cons_zero, List.getElem_cons_succ, List.setIfInBounds_toArray, List.set_cons_zero, List.set_cons_succ]
          refine wpAnyH_ready (rs := [2]) (by kernel_rfl) (by simp) (AllReadyH.cons rfl (fun K hK => ?_) AllReadyH.nil)
          refine step_wp (by rfl) ?_
          refine wp_buildSlice_d (some 27) _ _ _ _ rfl rfl #[.int .u8 0] i0 (.int .u8 0) Tryd.underlying34 HI0.out HZ0.out (by rw [HZ1.out]; decide) (by rw [HZ1.out]; decide) (by rw [HZ1.out]; kernel_rfl) ?_
          obtain ⟨m2, hm2⟩ : ∃ wNew, wNew = World.alloc m1 (.cells #[.int .u8 0] 5) := ⟨_, rfl⟩
          rw [← hm2]
          have b2 : Ext m1 m2 := by rw [hm2]; exact Ext.alloc _ _
          obtain ⟨g2, hg2⟩ : ∃ gNew, gNew = (m1).heap.size := ⟨_, rfl⟩
          rw [← hg2]
          have r2 : Row1 m2 (.slice (some ⟨g2, 0, none⟩) 1 1) (([0] : List UInt8).map bval) := by rw [hm2, hg2]; exact Row1.made _ _ _ _ _ _ rfl rfl rfl (by unfold maxLen; omega)
          have o2 : World.ownsRow m2 (wb).heap.size 5 1 (.slice (some ⟨g2, 0, none⟩) 1 1) 1 (([0] : List UInt8).map bval) := by rw [hm2, hg2]; exact own_made _ _ _ _ _ _ rfl rfl (by unfold maxLen; omega) N1.size
          clear hm2 hg2
          have N2 : Ext wb m2 := N1.trans b2
          refine hK.out _ _ N2 (fun hHeld => ?_)
          clear hK K
          try simp only [Act.put, List.getElem_toArray, List.getElem_cons_zero, List.getElem_cons_succ, List.setIfInBounds_toArray, List.set_cons_zero, List.set_cons_succ]
          refine wpAnyH_ready (rs := [6]) (by kernel_rfl) (by simp) (AllReadyH.cons rfl (fun K hK => ?_) AllReadyH.nil)
          refine step_wp (by rfl) ?_
          refine wp_buildSlice_d (some 31) _ _ _ _ rfl rfl #[.slice (some ⟨g2, 0, none⟩) 1 1, .slice a2 x.length c2] iq (.slice none 0 0) Tryd.underlying22 HQ0.out HQ1.out (by rw [HQ2.out]; decide) (by rw [HQ2.out]; decide) (by rw [HQ2.out]; kernel_rfl) ?_
          obtain ⟨m3, hm3⟩ : ∃ wNew, wNew = World.alloc m2 (.cells #[.slice (some ⟨g2, 0, none⟩) 1 1, .slice a2 x.length c2] 34) := ⟨_, rfl⟩
          rw [← hm3]
          have b3 : Ext m2 m3 := by rw [hm3]; exact Ext.alloc _ _
          obtain ⟨g3, hg3⟩ : ∃ gNew, gNew = (m2).heap.size := ⟨_, rfl⟩
          rw [← hg3]
          have r2 := r2.below b3
          have o2 := own_below o2 b3
          have r3 : Row1 m3 (.slice (some ⟨g3, 0, none⟩) 2 2) [.slice (some ⟨g2, 0, none⟩) 1 1, .slice a2 x.length c2] := by rw [hm3, hg3]; exact Row1.made _ _ _ _ _ _ rfl rfl rfl (by unfold maxLen; omega)
          clear hm3 hg3
          have N3 : Ext wb m3 := N2.trans b3
          refine hK.out _ _ N3 (fun hHeld => ?_)
          clear hK K
          try simp only [Act.put, List.getElem_toArray, List.getElem_cons_zero, List.getElem_cons_succ, List.setIfInBounds_toArray, List.set_cons_zero, List.set_cons_succ]
          refine wpAnyH_ready (rs := [7]) (by kernel_rfl) (by simp) (AllReadyH.cons rfl (fun K hK => ?_) AllReadyH.nil)
          go_simp
          refine (mer_sum r [[0], x] _ m3 (by simpa using HQ.out) (rowB2 r3 r2 ((HX.out).below N3)) (by have := HXL.out; simp; omega) (HR.out.ext (HE.out.trans N3))).mono ?_
          rintro e m4 ⟨rfl, b4⟩
          have r2 := r2.below b4
          have r3 := r3.below b4
          have o2 := own_below o2 b4
          have N4 : Ext wb m4 := N3.trans b4
          refine hK.out _ _ N4 (fun hHeld => ?_)
          clear hK K
          try simp only [Act.put, List.getElem_toArray, List.getElem_cons_zero, List.getElem_cons_succ, List.setIfInBounds_toArray, List.set_cons_zero, List.set_cons_succ]
          refine wpAnyH_take (i := 8) (v := .bool true) rfl (by kernel_rfl) (by kernel_rfl) (by kernel_rfl) (fun _ _ _ h => h) (yi_eql _ _ _ _ _ 32 _ (r) (r) true (by rfl) rfl (decide_eq_true (rfl)) Tryd.underlying26 Tryd.underlying5 num_info num_cells num_guard rfl rfl (HRL.out) (HRL.out)) hHeld ?_
          simp only [Act.put, List.getElem_toArray, List.getElem_cons_zero, List.getElem_cons_succ, List.setIfInBounds_toArray, List.set_cons_zero, List.set_cons_succ]
          refine wpAnyH_ready (rs := [9]) (by kernel_rfl) (by simp) (AllReadyH.cons rfl (fun K hK => ?_) AllReadyH.nil)
          go_simp
          refine hK.out _ _ N4 (fun hHeld => ?_)
          clear hK K
          try simp only [Act.put, List.getElem_toArray, List.getElem_cons_zero, List.getElem_cons_succ, List.setIfInBounds_toArray, List.set_cons_zero, List.set_cons_succ]
          refine wpAnyH_done (by kernel_rfl) ?_ _
          have HN := Lib.hid (HE.out.trans N4)
          go_wp2_with fail
          go_ret
          exact ⟨rfl, HN.out⟩
        · refine step_wp (by rfl) ?_
          refine wp_buildSlice_d (some 27) _ _ _ _ rfl rfl #[.int .u8 0] i0 (.int .u8 0) Tryd.underlying34 HI0.out HZ0.out (by rw [HZ1.out]; decide) (by rw [HZ1.out]; decide) (by rw [HZ1.out]; kernel_rfl) ?_
          obtain ⟨m1, hm1⟩ : ∃ wNew, wNew = World.alloc wb.drew (.cells #[.int .u8 0] 5) := ⟨_, rfl⟩
          rw [← hm1]
          have b1 : Ext wb.drew m1 := by rw [hm1]; exact Ext.alloc _ _
          obtain ⟨g1, hg1⟩ : ∃ gNew, gNew = (wb.drew).heap.size := ⟨_, rfl⟩
          rw [← hg1]
          have r1 : Row1 m1 (.slice (some ⟨g1, 0, none⟩) 1 1) (([0] : List UInt8).map bval) := by rw [hm1, hg1]; exact Row1.made _ _ _ _ _ _ rfl rfl rfl (by unfold maxLen; omega)
          have o1 : World.ownsRow m1 (wb).heap.size 5 1 (.slice (some ⟨g1, 0, none⟩) 1 1) 1 (([0] : List UInt8).map bval) := by rw [hm1, hg1]; exact own_made _ _ _ _ _ _ rfl rfl (by unfold maxLen; omega) B0.size
          clear hm1 hg1
          have N1 : Ext wb m1 := B0.trans b1
          refine hK.out _ _ N1 (fun hHeld => ?_)
          clear hK K
          try simp only [Act.put, List.getElem_toArray, List.getElem_cons_zero, List.getElem_cons_succ, List.setIfInBounds_toArray, List.set_cons_zero, List.set_cons_succ]
          refine wpAnyH_ready (rs := [1, 6]) (by kernel_rfl) (by simp) (AllReadyH.cons rfl (fun K hK => ?_) (AllReadyH.cons rfl (fun K hK => ?_) AllReadyH.nil))
          · go_simp
            refine (HRT.out m1 N1).mono ?_
            rintro e m2 ⟨rfl, b2⟩
            have r1 := r1.below b2
            have o1 := own_below o1 b2
            have N2 : Ext wb m2 := N1.trans b2
            refine hK.out _ _ N2 (fun hHeld => ?_)
            clear hK K
            try simp only [Act.put, List.getElem_toArray, List.getElem_cons_zero, List.getElem_cons_succ, List.setIfInBounds_toArray, List.set_cons_zero, List.set_cons_succ]
            refine wpAnyH_ready (rs := [6]) (by kernel_rfl) (by simp) (AllReadyH.cons rfl (fun K hK => ?_) AllReadyH.nil)
            refine step_wp (by rfl) ?_
            refine wp_buildSlice_d (some 31) _ _ _ _ rfl rfl #[.slice (some ⟨g1, 0, none⟩) 1 1, .slice a2 x.length c2] iq (.slice none 0 0) Tryd.underlying22 HQ0.out HQ1.out (by rw [HQ2.out]; decide) (by rw [HQ2.out]; decide) (by rw [HQ2.out]; kernel_rfl) ?_
            obtain ⟨m3, hm3⟩ : ∃ wNew, wNew = World.alloc m2 (.cells #[.slice (some ⟨g1, 0, none⟩) 1 1, .slice a2 x.length c2] 34) := ⟨_, rfl⟩
            rw [← hm3]
            have b3 : Ext m2 m3 := by rw [hm3]; exact Ext.alloc _ _
            obtain ⟨g3, hg3⟩ : ∃ gNew, gNew = (m2).heap.size := ⟨_, rfl⟩
            rw [← hg3]
            have r1 := r1.below b3
            have o1 := own_below o1 b3
            have r3 : Row1 m3 (.slice (some ⟨g3, 0, none⟩) 2 2) [.slice (some ⟨g1, 0, none⟩) 1 1, .slice a2 x.length c2] := by rw [hm3, hg3]; exact Row1.made _ _ _ _ _ _ rfl rfl rfl (by unfold maxLen; omega)
            clear hm3 hg3
            have N3 : Ext wb m3 := N2.trans b3
            refine hK.out _ _ N3 (fun hHeld => ?_)
            clear hK K
            try simp only [Act.put, List.getElem_toArray, List.getElem_cons_zero, List.getElem_cons_succ, List.setIfInBounds_toArray, List.set_cons_zero, List.set_cons_succ]
            refine wpAnyH_ready (rs := [7]) (by kernel_rfl) (by simp) (AllReadyH.cons rfl (fun K hK => ?_) AllReadyH.nil)
            go_simp
            refine (mer_sum r [[0], x] _ m3 (by simpa using HQ.out) (rowB2 r3 r1 ((HX.out).below N3)) (by have := HXL.out; simp; omega) (HR.out.ext (HE.out.trans N3))).mono ?_
            rintro e m4 ⟨rfl, b4⟩
            have r1 := r1.below b4
            have r3 := r3.below b4
            have o1 := own_below o1 b4
            have N4 : Ext wb m4 := N3.trans b4
            refine hK.out _ _ N4 (fun hHeld => ?_)
            clear hK K
            try simp only [Act.put, List.getElem_toArray, List.getElem_cons_zero, List.getElem_cons_succ, List.setIfInBounds_toArray, List.set_cons_zero, List.set_cons_succ]
            refine wpAnyH_take (i := 8) (v := .bool true) rfl (by kernel_rfl) (by kernel_rfl) (by kernel_rfl) (fun _ _ _ h => h) (yi_eql _ _ _ _ _ 32 _ (r) (r) true (by rfl) rfl (decide_eq_true (rfl)) Tryd.underlying26 Tryd.underlying5 num_info num_cells num_guard rfl rfl (HRL.out) (HRL.out)) hHeld ?_
            simp only [Act.put, List.getElem_toArray, List.getElem_cons_zero, List.getElem_cons_succ, List.setIfInBounds_toArray, List.set_cons_zero, List.set_cons_succ]
            refine wpAnyH_ready (rs := [9]) (by kernel_rfl) (by simp) (AllReadyH.cons rfl (fun K hK => ?_) AllReadyH.nil)
            go_simp
            refine hK.out _ _ N4 (fun hHeld => ?_)
            clear hK K
            try simp only [Act.put, List.getElem_toArray, List.getElem_cons_zero, List.getElem_cons_succ, List.setIfInBounds_toArray, List.set_cons_zero, List.set_cons_succ]
            refine wpAnyH_done (by kernel_rfl) ?_ _
            have HN := Lib.hid (HE.out.trans N4)
            go_wp2_with fail
            go_ret
            exact ⟨rfl, HN.out⟩
          · refine step_wp (by rfl) ?_
            refine wp_buildSlice_d (some 31) _ _ _ _ rfl rfl #[.slice (some ⟨g1, 0, none⟩) 1 1, .slice a2 x.length c2] iq (.slice none 0 0) Tryd.underlying22 HQ0.out HQ1.out (by rw [HQ2.out]; decide) (by rw [HQ2.out]; decide) (by rw [HQ2.out]; kernel_rfl) ?_
            obtain ⟨m2, hm2⟩ : ∃ wNew, wNew = World.alloc m1 (.cells #[.slice (some ⟨g1, 0, none⟩) 1 1, .slice a2 x.length c2] 34) := ⟨_, rfl⟩
            rw [← hm2]
            have b2 : Ext m1 m2 := by rw [hm2]; exact Ext.alloc _ _
            obtain ⟨g2, hg2⟩ : ∃ gNew, gNew = (m1).heap.size := ⟨_, rfl⟩
            rw [← hg2]
            have r1 := r1.below b2
            have o1 := own_below o1 b2
            have r2 : Row1 m2 (.slice (some ⟨g2, 0, none⟩) 2 2) [.slice (some ⟨g1, 0, none⟩) 1 1, .slice a2 x.length c2] := by rw [hm2, hg2]; exact Row1.made _ _ _ _ _ _ rfl rfl rfl (by unfold maxLen; omega)
            clear hm2 hg2
            have N2 : Ext wb m2 := N1.trans b2
            refine hK.out _ _ N2 (fun hHeld => ?_)
            clear hK K
            try simp only [Act.put, List.getElem_toArray, List.getElem_cons_zero, List.getElem_cons_succ, List.setIfInBounds_toArray, List.set_cons_zero, List.set_cons_succ]
            refine wpAnyH_ready (rs := [1]) (by kernel_rfl) (by simp) (AllReadyH.cons rfl (fun K hK => ?_) AllReadyH.nil)
            go_simp
            refine (HRT.out m2 N2).mono ?_
            rintro e m3 ⟨rfl, b3⟩
            have r1 := r1.below b3
            have r2 := r2.below b3
            have o1 := own_below o1 b3
            have N3 : Ext wb m3 := N2.trans b3
            refine hK.out _ _ N3 (fun hHeld => ?_)
            clear hK K
            try simp only [Act.put, List.getElem_toArray, List.getElem_cons_zero, List.getElem_cons_succ, List.setIfInBounds_toArray, List.set_cons_zero, List.set_cons_succ]
            refine wpAnyH_ready (rs := [7]) (by kernel_rfl) (by simp) (AllReadyH.cons rfl (fun K hK => ?_) AllReadyH.nil)
            go_simp
            refine (mer_sum r [[0], x] _ m3 (by simpa using HQ.out) (rowB2 r2 r1 ((HX.out).below N3)) (by have := HXL.out; simp; omega) (HR.out.ext (HE.out.trans N3))).mono ?_
            rintro e m4 ⟨rfl, b4⟩
            have r1 := r1.below b4
            have r2 := r2.below b4
            have o1 := own_below o1 b4
            have N4 : Ext wb m4 := N3.trans b4
            refine hK.out _ _ N4 (fun hHeld => ?_)
            clear hK K
            try simp only [Act.put, List.getElem_toArray, List.getElem_cons_zero, List.getElem_cons_succ, List.setIfInBounds_toArray, List.set_cons_zero, List.set_cons_succ]
            refine wpAnyH_take (i := 8) (v := .bool true) rfl (by kernel_rfl) (by kernel_rfl) (by kernel_rfl) (fun _ _ _ h => h) (yi_eql _ _ _ _ _ 32 _ (r) (r) true (by rfl) rfl (decide_eq_true (rfl)) Tryd.underlying26 Tryd.underlying5 num_info num_cells num_guard rfl rfl (HRL.out) (HRL.out)) hHeld ?_
            simp only [Act.put, List.getElem_toArray, List.getElem_cons_zero, List.getElem_cons_succ, List.setIfInBounds_toArray, List.set_cons_zero, List.set_cons_succ]
            refine wpAnyH_ready (rs := [9]) (by kernel_rfl) (by simp) (AllReadyH.cons rfl (fun K hK => ?_) AllReadyH.nil)
            go_simp
            refine hK.out _ _ N4 (fun hHeld => ?_)
            clear hK K
            try simp only [Act.put, List.getElem_toArray, List.getElem_cons_zero, List.getElem_cons_succ, List.setIfInBounds_toArray, List.set_cons_zero, List.set_cons_succ]
            refine wpAnyH_done (by kernel_rfl) ?_ _
            have HN := Lib.hid (HE.out.trans N4)
            go_wp2_with fail
            go_ret
            exact ⟨rfl, HN.out⟩
      · have h1' : ¬ (ls.length : Int) = 1 := by omega
        have h2 : 2 ≤ ls.length := by omega
        have k30 : (ls.length : Int) ≤ 30 := by have := H30.out; omega
        go_wp2_with fail
        go_loop [5] (fun iv => ∃ (j k : Nat), k = 2 ^ j ∧ k < ls.length ∧ iv = .int .i64 (k : Int)) (fun iv => ls.length - (intOf iv).toNat)
        case atStart => exact ⟨0, 1, rfl, by omega, rfl⟩
        case round =>
          obtain ⟨j, k, hj, hk, rfl⟩ := hrel
          have HJ := Lib.hid hj
          have k0 : (0 : Int) ≤ (k : Int) := Int.natCast_nonneg _
          have k1 : (k : Int) ≤ (ls.length : Int) := by omega
          have HP : Hid (0 < k) := Lib.hid (by rw [hj]; exact Nat.pow_pos (by omega))
          clear hj
          by_cases hlt : 2 * k < ls.length
          · have hlt2 : 2 * (k : Int) < (ls.length : Int) := by omega
            go_wp2_with fail
            go_round
            case rel => exact ⟨j + 1, 2 * k, by rw [HJ.out, Nat.pow_succ, Nat.mul_comm], hlt, by go_num⟩
            case measure =>
              have := HP.out
              simp [intOf]
              omega
          · have hlt2 : ¬ 2 * (k : Int) < (ls.length : Int) := by omega
            have HK : Hid (merK ls.length = k) := Lib.hid (by rw [HJ.out]; exact merK_of h2 (by have := HJ.out; omega) (by have := HJ.out; omega))
            have HM := Lib.hid (merR_two h2)
            rw [HK.out] at HM
            have k2 : (k : Int) ≤ (cap : Int) := by omega
            obtain ⟨v1, hv1, hs1⟩ := rowB_upto Tryd.underlying22 Tryd.sizeOf34 HV.out k (by omega)
            obtain ⟨v2, hv2, hs2⟩ := rowB_cut Tryd.underlying22 Tryd.sizeOf34 HV.out k (by omega)
            obtain ⟨a1, c1, rfl, _⟩ := mer_form hv1
            obtain ⟨a2, c2, rfl, _⟩ := mer_form hv2
            have HC1 := Lib.hid (fun (wx : World) (hx : Ext wb wx) => MRoot_num (ls.take k) _ wx (fun l hl => by have := HSM.out l (List.mem_of_mem_take hl); omega) (by have := H30.out; rw [List.length_take]; omega) (hv1.below hx) (HG.out.ext (HE.out.trans hx)))
            have HC2 := Lib.hid (fun (wx : World) (hx : Ext wb wx) => MRoot_num (ls.drop k) _ wx (fun l hl => by have := HSM.out l (List.mem_of_mem_drop hl); omega) (by have := H30.out; rw [List.length_drop]; omega) (hv2.below hx) (HG.out.ext (HE.out.trans hx)))
            have HaL : Hid ((merR (ls.take k)).length = 32) := Lib.hid (merR_length _)
            have HbL : Hid ((merR (ls.drop k)).length = 32) := Lib.hid (merR_length _)
            generalize merR (ls.take k) = ra at *
            generalize merR (ls.drop k) = rb at *
            generalize (ls.take k).length = n1 at *
            generalize (ls.drop k).length = n2 at *
            have HQ : Hid (sha256 (1 :: (ra ++ rb)) = merR ls) := Lib.hid HM.out.symm
            generalize merR ls = r at *
            have HIa := Lib.hid (num_size HaL.out)
            have HIb := Lib.hid (num_size HbL.out)
            have HLa : Hid ((ra.map bval).length = (ints .u8 (List.replicate 32 0)).length) := Lib.hid (by rw [List.length_map, HaL.out, ints_length, List.length_replicate])
            have HLb : Hid ((rb.map bval).length = (ints .u8 (List.replicate 32 0)).length) := Lib.hid (by rw [List.length_map, HbL.out, ints_length, List.length_replicate])
            clear hv1 hv2 HM HK HJ
            go_wp2_with fail
            refine (HC1.out wb (Ext.refl _)).mono ?_
            rintro e w1 ⟨rfl, hb⟩
            have HW : Hid (Ext wb w1) := Lib.hid hb
            have HZ := Lib.hid (Blk.made w1 (ints .u8 (List.replicate 32 0)) 26)
            have HEA := Lib.hid (Ext.alloc w1 (.cells (ints .u8 (List.replicate 32 0)).toArray 26))
            clear hb
            go_upto_region 11 with (refine wpList_store_blk rfl _ _ _ rfl w1.heap.size (ra.map bval) rfl rfl _ _ HZ.out HLa.out HIa.out (bval_one _) ?_; intro w2 hb2 hg2)
            have HX := Lib.hid (ext_grown HEA.out hg2 (Nat.le_refl _))
            have HW := Lib.hid (HW.out.trans HX.out)
            have H4 := Lib.hid hb2
            generalize w1.heap.size = B4 at *
            clear hb2 hg2 HZ HEA HX HC1
            go_wp2_with fail
            refine (HC2.out w2 HW.out).mono ?_
            rintro e w3 ⟨rfl, hb⟩
            have H4 := Lib.hid (ext_blk H4.out hb)
            have HW := Lib.hid (HW.out.trans hb)
            have HZ := Lib.hid (Blk.made w3 (ints .u8 (List.replicate 32 0)) 26)
            have HEA := Lib.hid (Ext.alloc w3 (.cells (ints .u8 (List.replicate 32 0)).toArray 26))
            clear hb
            go_upto_region 12 with (refine wpList_store_blk rfl _ _ _ rfl w3.heap.size (rb.map bval) rfl rfl _ _ HZ.out HLb.out HIb.out (bval_one _) ?_; intro w4 hb4 hg4)
            have HX := Lib.hid (ext_grown HEA.out hg4 (Nat.le_refl _))
            have H4 := Lib.hid (ext_blk H4.out HX.out)
            have HW := Lib.hid (HW.out.trans HX.out)
            have H5 := Lib.hid hb4
            generalize w3.heap.size = B5 at *
            generalize ls.length = n at *
            clear hb4 hg4 HZ HEA HX HC2 hs1 hs2
            have B0 : Ext w4 w4.drew := Ext.drew _
            refine wp_region_held_drew (S := fun w' => Ext w4 w') (by kernel_rfl) B0 (fun hHeld => ?_)
            refine wpAnyH_take (i := 0) (v := .slice a n cap) rfl (by kernel_rfl) (by kernel_rfl) (by kernel_rfl) (fun _ _ _ h => h) (yi_move _ (.slice a n cap) (by rfl) rfl rfl) hHeld ?_
            simp only [Act.put, List.getElem_toArray, List.getElem_cons_zero, List.getElem_cons_succ, List.setIfInBounds_toArray, List.set_cons_zero, List.set_cons_succ]
            refine wpAnyH_take (i := 3) (v := .slice (some ⟨B4, 0, none⟩) 32 32) rfl (by kernel_rfl) (by kernel_rfl) (by kernel_rfl) (fun _ _ _ h => h) (yi_slice _ _ _ _ (.pointer (some ⟨B4, 0, none⟩)) (.slice (some ⟨B4, 0, none⟩) 32 32) none none (by rfl) rfl rfl rfl rfl (fun w => cut_whole Tryd.underlying26 Tryd.sizeOf5 (by omega) _ w)) hHeld ?_
            simp only [Act.put, List.getElem_toArray, List.getElem_cons_zero, List.getElem_cons_succ, List.setIfInBounds_toArray, List.set_cons_zero, List.set_cons_succ]
            refine wpAnyH_take (i := 4) (v := .slice (some ⟨B5, 0, none⟩) 32 32) rfl (by kernel_rfl) (by kernel_rfl) (by kernel_rfl) (fun _ _ _ h => h) (yi_slice _ _ _ _ (.pointer (some ⟨B5, 0, none⟩)) (.slice (some ⟨B5, 0, none⟩) 32 32) none none (by rfl) rfl rfl rfl rfl (fun w => cut_whole Tryd.underlying26 Tryd.sizeOf5 (by omega) _ w)) hHeld ?_
            simp only [Act.put, List.getElem_toArray, List.getElem_cons_zero, List.getElem_cons_succ, List.setIfInBounds_toArray, List.set_cons_zero, List.set_cons_succ]
            refine wpAnyH_ready (rs := [1, 2]) (by kernel_rfl) (by simp) (AllReadyH.cons rfl (fun K hK => ?_) (AllReadyH.cons rfl (fun K hK => ?_) AllReadyH.nil))
            · go_simp
              refine (HRT.out w4.drew (HW.out.trans B0)).mono ?_
              rintro e m1 ⟨rfl, b1⟩
              have N1 : Ext w4 m1 := B0.trans b1
              refine hK.out _ _ N1 (fun hHeld => ?_)
              clear hK K
              try simp only [Act.put, List.getElem_toArray, List.getElem_cons_zero, List.getElem_cons_succ, List.setIfInBounds_toArray, List.set_cons_zero, List.set_cons_succ]
              refine wpAnyH_ready (rs := [2]) (by kernel_rfl) (by simp) (AllReadyH.cons rfl (fun K hK => ?_) AllReadyH.nil)
              refine step_wp (by rfl) ?_
              refine wp_buildSlice_d (some 51) _ _ _ _ rfl rfl #[.int .u8 1] i0 (.int .u8 0) Tryd.underlying34 HI0.out HZ0.out (by rw [HZ1.out]; decide) (by rw [HZ1.out]; decide) (by rw [HZ1.out]; kernel_rfl) ?_
              obtain ⟨m2, hm2⟩ : ∃ wNew, wNew = World.alloc m1 (.cells #[.int .u8 1] 5) := ⟨_, rfl⟩
              rw [← hm2]
              have b2 : Ext m1 m2 := by rw [hm2]; exact Ext.alloc _ _
              obtain ⟨g2, hg2⟩ : ∃ gNew, gNew = (m1).heap.size := ⟨_, rfl⟩
              rw [← hg2]
              have r2 : Row1 m2 (.slice (some ⟨g2, 0, none⟩) 1 1) (([1] : List UInt8).map bval) := by rw [hm2, hg2]; exact Row1.made _ _ _ _ _ _ rfl rfl rfl (by unfold maxLen; omega)
              have o2 : World.ownsRow m2 (w4).heap.size 5 1 (.slice (some ⟨g2, 0, none⟩) 1 1) 1 (([1] : List UInt8).map bval) := by rw [hm2, hg2]; exact own_made _ _ _ _ _ _ rfl rfl (by unfold maxLen; omega) N1.size
              clear hm2 hg2
              have N2 : Ext w4 m2 := N1.trans b2
              refine hK.out _ _ N2 (fun hHeld => ?_)
              clear hK K
              try simp only [Act.put, List.getElem_toArray, List.getElem_cons_zero, List.getElem_cons_succ, List.setIfInBounds_toArray, List.set_cons_zero, List.set_cons_succ]
              refine wpAnyH_ready (rs := [5]) (by kernel_rfl) (by simp) (AllReadyH.cons rfl (fun K hK => ?_) AllReadyH.nil)
              refine step_wp (by rfl) ?_
              refine wp_buildSlice_d (some 54) _ _ _ _ rfl rfl #[.slice (some ⟨g2, 0, none⟩) 1 1, .slice (some ⟨B4, 0, none⟩) 32 32, .slice (some ⟨B5, 0, none⟩) 32 32] iq (.slice none 0 0) Tryd.underlying22 HQ0.out HQ1.out (by rw [HQ2.out]; decide) (by rw [HQ2.out]; decide) (by rw [HQ2.out]; kernel_rfl) ?_
              obtain ⟨m3, hm3⟩ : ∃ wNew, wNew = World.alloc m2 (.cells #[.slice (some ⟨g2, 0, none⟩) 1 1, .slice (some ⟨B4, 0, none⟩) 32 32, .slice (some ⟨B5, 0, none⟩) 32 32] 34) := ⟨_, rfl⟩
              rw [← hm3]
              have b3 : Ext m2 m3 := by rw [hm3]; exact Ext.alloc _ _
              obtain ⟨g3, hg3⟩ : ∃ gNew, gNew = (m2).heap.size := ⟨_, rfl⟩
              rw [← hg3]
              have r2 := r2.below b3
              have o2 := own_below o2 b3
              have r3 : Row1 m3 (.slice (some ⟨g3, 0, none⟩) 3 3) [.slice (some ⟨g2, 0, none⟩) 1 1, .slice (some ⟨B4, 0, none⟩) 32 32, .slice (some ⟨B5, 0, none⟩) 32 32] := by rw [hm3, hg3]; exact Row1.made _ _ _ _ _ _ rfl rfl rfl (by unfold maxLen; omega)
              clear hm3 hg3
              have N3 : Ext w4 m3 := N2.trans b3
              refine hK.out _ _ N3 (fun hHeld => ?_)
              clear hK K
              try simp only [Act.put, List.getElem_toArray, List.getElem_cons_zero, List.getElem_cons_succ, List.setIfInBounds_toArray, List.set_cons_zero, List.set_cons_succ]
              refine wpAnyH_ready (rs := [6]) (by kernel_rfl) (by simp) (AllReadyH.cons rfl (fun K hK => ?_) AllReadyH.nil)
              go_simp
              refine (mer_sum r [[1], ra, rb] _ m3 (by simpa using HQ.out) (rowB3 r3 r2 ((blk_row (n := 32) H4.out (by rw [List.length_map]; exact HaL.out) (by unfold maxLen; omega)).below N3) ((blk_row (n := 32) H5.out (by rw [List.length_map]; exact HbL.out) (by unfold maxLen; omega)).below N3)) (by have := HaL.out; have := HbL.out; simp; omega) (HR.out.ext (HE.out.trans (HW.out.trans N3)))).mono ?_
              rintro e m4 ⟨rfl, b4⟩
              have r2 := r2.below b4
              have r3 := r3.below b4
              have o2 := own_below o2 b4
              have N4 : Ext w4 m4 := N3.trans b4
              refine hK.out _ _ N4 (fun hHeld => ?_)
              clear hK K
              try simp only [Act.put, List.getElem_toArray, List.getElem_cons_zero, List.getElem_cons_succ, List.setIfInBounds_toArray, List.set_cons_zero, List.set_cons_succ]
              refine wpAnyH_take (i := 7) (v := .bool true) rfl (by kernel_rfl) (by kernel_rfl) (by kernel_rfl) (fun _ _ _ h => h) (yi_eql _ _ _ _ _ 32 _ (r) (r) true (by rfl) rfl (decide_eq_true (rfl)) Tryd.underlying26 Tryd.underlying5 num_info num_cells num_guard rfl rfl (HRL.out) (HRL.out)) hHeld ?_
              simp only [Act.put, List.getElem_toArray, List.getElem_cons_zero, List.getElem_cons_succ, List.setIfInBounds_toArray, List.set_cons_zero, List.set_cons_succ]
              refine wpAnyH_ready (rs := [8]) (by kernel_rfl) (by simp) (AllReadyH.cons rfl (fun K hK => ?_) AllReadyH.nil)
              go_simp
              refine hK.out _ _ N4 (fun hHeld => ?_)
              clear hK K
              try simp only [Act.put, List.getElem_toArray, List.getElem_cons_zero, List.getElem_cons_succ, List.setIfInBounds_toArray, List.set_cons_zero, List.set_cons_succ]
              refine wpAnyH_done (by kernel_rfl) ?_ _
              have HN := Lib.hid (HE.out.trans (HW.out.trans N4))
              go_wp2_with fail
              go_ret
              exact ⟨rfl, HN.out⟩
            · refine step_wp (by rfl) ?_
              refine wp_buildSlice_d (some 51) _ _ _ _ rfl rfl #[.int .u8 1] i0 (.int .u8 0) Tryd.underlying34 HI0.out HZ0.out (by rw [HZ1.out]; decide) (by rw [HZ1.out]; decide) (by rw [HZ1.out]; kernel_rfl) ?_
              obtain ⟨m1, hm1⟩ : ∃ wNew, wNew = World.alloc w4.drew (.cells #[.int .u8 1] 5) := ⟨_, rfl⟩
              rw [← hm1]
              have b1 : Ext w4.drew m1 := by rw [hm1]; exact Ext.alloc _ _
              obtain ⟨g1, hg1⟩ : ∃ gNew, gNew = (w4.drew).heap.size := ⟨_, rfl⟩
              rw [← hg1]
              have r1 : Row1 m1 (.slice (some ⟨g1, 0, none⟩) 1 1) (([1] : List UInt8).map bval) := by rw [hm1, hg1]; exact Row1.made _ _ _ _ _ _ rfl rfl rfl (by unfold maxLen; omega)
              have o1 : World.ownsRow m1 (w4).heap.size 5 1 (.slice (some ⟨g1, 0, none⟩) 1 1) 1 (([1] : List UInt8).map bval) := by rw [hm1, hg1]; exact own_made _ _ _ _ _ _ rfl rfl (by unfold maxLen; omega) B0.size
              clear hm1 hg1
              have N1 : Ext w4 m1 := B0.trans b1
              refine hK.out _ _ N1 (fun hHeld => ?_)
              clear hK K
              try simp only [Act.put, List.getElem_toArray, List.getElem_cons_zero, List.getElem_cons_succ, List.setIfInBounds_toArray, List.set_cons_zero, List.set_cons_succ]
              refine wpAnyH_ready (rs := [1, 5]) (by kernel_rfl) (by simp) (AllReadyH.cons rfl (fun K hK => ?_) (AllReadyH.cons rfl (fun K hK => ?_) AllReadyH.nil))
              · go_simp
                refine (HRT.out m1 (HW.out.trans N1)).mono ?_
                rintro e m2 ⟨rfl, b2⟩
                have r1 := r1.below b2
                have o1 := own_below o1 b2
                have N2 : Ext w4 m2 := N1.trans b2
                refine hK.out _ _ N2 (fun hHeld => ?_)
                clear hK K
                try simp only [Act.put, List.getElem_toArray, List.getElem_cons_zero, List.getElem_cons_succ, List.setIfInBounds_toArray, List.set_cons_zero, List.set_cons_succ]
                refine wpAnyH_ready (rs := [5]) (by kernel_rfl) (by simp) (AllReadyH.cons rfl (fun K hK => ?_) AllReadyH.nil)
                refine step_wp (by rfl) ?_
                refine wp_buildSlice_d (some 54) _ _ _ _ rfl rfl #[.slice (some ⟨g1, 0, none⟩) 1 1, .slice (some ⟨B4, 0, none⟩) 32 32, .slice (some ⟨B5, 0, none⟩) 32 32] iq (.slice none 0 0) Tryd.underlying22 HQ0.out HQ1.out (by rw [HQ2.out]; decide) (by rw [HQ2.out]; decide) (by rw [HQ2.out]; kernel_rfl) ?_
                obtain ⟨m3, hm3⟩ : ∃ wNew, wNew = World.alloc m2 (.cells #[.slice (some ⟨g1, 0, none⟩) 1 1, .slice (some ⟨B4, 0, none⟩) 32 32, .slice (some ⟨B5, 0, none⟩) 32 32] 34) := ⟨_, rfl⟩
                rw [← hm3]
                have b3 : Ext m2 m3 := by rw [hm3]; exact Ext.alloc _ _
                obtain ⟨g3, hg3⟩ : ∃ gNew, gNew = (m2).heap.size := ⟨_, rfl⟩
                rw [← hg3]
                have r1 := r1.below b3
                have o1 := own_below o1 b3
                have r3 : Row1 m3 (.slice (some ⟨g3, 0, none⟩) 3 3) [.slice (some ⟨g1, 0, none⟩) 1 1, .slice (some ⟨B4, 0, none⟩) 32 32, .slice (some ⟨B5, 0, none⟩) 32 32] := by rw [hm3, hg3]; exact Row1.made _ _ _ _ _ _ rfl rfl rfl (by unfold maxLen; omega)
                clear hm3 hg3
                have N3 : Ext w4 m3 := N2.trans b3
                refine hK.out _ _ N3 (fun hHeld => ?_)
                clear hK K
                try simp only [Act.put, List.getElem_toArray, List.getElem_cons_zero, List.getElem_cons_succ, List.setIfInBounds_toArray, List.set_cons_zero, List.set_cons_succ]
                refine wpAnyH_ready (rs := [6]) (by kernel_rfl) (by simp) (AllReadyH.cons rfl (fun K hK => ?_) AllReadyH.nil)
                go_simp
                refine (mer_sum r [[1], ra, rb] _ m3 (by simpa using HQ.out) (rowB3 r3 r1 ((blk_row (n := 32) H4.out (by rw [List.length_map]; exact HaL.out) (by unfold maxLen; omega)).below N3) ((blk_row (n := 32) H5.out (by rw [List.length_map]; exact HbL.out) (by unfold maxLen; omega)).below N3)) (by have := HaL.out; have := HbL.out; simp; omega) (HR.out.ext (HE.out.trans (HW.out.trans N3)))).mono ?_
                rintro e m4 ⟨rfl, b4⟩
                have r1 := r1.below b4
                have r3 := r3.below b4
                have o1 := own_below o1 b4
                have N4 : Ext w4 m4 := N3.trans b4
                refine hK.out _ _ N4 (fun hHeld => ?_)
                clear hK K
                try simp only [Act.put, List.getElem_toArray, List.getElem_cons_zero, List.getElem_cons_succ, List.setIfInBounds_toArray, List.set_cons_zero, List.set_cons_succ]
                refine wpAnyH_take (i := 7) (v := .bool true) rfl (by kernel_rfl) (by kernel_rfl) (by kernel_rfl) (fun _ _ _ h => h) (yi_eql _ _ _ _ _ 32 _ (r) (r) true (by rfl) rfl (decide_eq_true (rfl)) Tryd.underlying26 Tryd.underlying5 num_info num_cells num_guard rfl rfl (HRL.out) (HRL.out)) hHeld ?_
                simp only [Act.put, List.getElem_toArray, List.getElem_cons_zero, List.getElem_cons_succ, List.setIfInBounds_toArray, List.set_cons_zero, List.set_cons_succ]
                refine wpAnyH_ready (rs := [8]) (by kernel_rfl) (by simp) (AllReadyH.cons rfl (fun K hK => ?_) AllReadyH.nil)
                go_simp
                refine hK.out _ _ N4 (fun hHeld => ?_)
                clear hK K
                try simp only [Act.put, List.getElem_toArray, List.getElem_cons_zero, List.getElem_cons_succ, List.setIfInBounds_toArray, List.set_cons_zero, List.set_cons_succ]
                refine wpAnyH_done (by kernel_rfl) ?_ _
                have HN := Lib.hid (HE.out.trans (HW.out.trans N4))
                go_wp2_with fail
                go_ret
                exact ⟨rfl, HN.out⟩
              · refine step_wp (by rfl) ?_
                refine wp_buildSlice_d (some 54) _ _ _ _ rfl rfl #[.slice (some ⟨g1, 0, none⟩) 1 1, .slice (some ⟨B4, 0, none⟩) 32 32, .slice (some ⟨B5, 0, none⟩) 32 32] iq (.slice none 0 0) Tryd.underlying22 HQ0.out HQ1.out (by rw [HQ2.out]; decide) (by rw [HQ2.out]; decide) (by rw [HQ2.out]; kernel_rfl) ?_
                obtain ⟨m2, hm2⟩ : ∃ wNew, wNew = World.alloc m1 (.cells #[.slice (some ⟨g1, 0, none⟩) 1 1, .slice (some ⟨B4, 0, none⟩) 32 32, .slice (some ⟨B5, 0, none⟩) 32 32] 34) := ⟨_, rfl⟩
                rw [← hm2]
                have b2 : Ext m1 m2 := by rw [hm2]; exact Ext.alloc _ _
                obtain ⟨g2, hg2⟩ : ∃ gNew, gNew = (m1).heap.size := ⟨_, rfl⟩
                rw [← hg2]
                have r1 := r1.below b2
                have o1 := own_below o1 b2
                have r2 : Row1 m2 (.slice (some ⟨g2, 0, none⟩) 3 3) [.slice (some ⟨g1, 0, none⟩) 1 1, .slice (some ⟨B4, 0, none⟩) 32 32, .slice (some ⟨B5, 0, none⟩) 32 32] := by rw [hm2, hg2]; exact Row1.made _ _ _ _ _ _ rfl rfl rfl (by unfold maxLen; omega)
                clear hm2 hg2
                have N2 : Ext w4 m2 := N1.trans b2
                refine hK.out _ _ N2 (fun hHeld => ?_)
                clear hK K
                try simp only [Act.put, List.getElem_toArray, List.getElem_cons_zero, List.getElem_cons_succ, List.setIfInBounds_toArray, List.set_cons_zero, List.set_cons_succ]
                refine wpAnyH_ready (rs := [1]) (by kernel_rfl) (by simp) (AllReadyH.cons rfl (fun K hK => ?_) AllReadyH.nil)
                go_simp
                refine (HRT.out m2 (HW.out.trans N2)).mono ?_
                rintro e m3 ⟨rfl, b3⟩
                have r1 := r1.below b3
                have r2 := r2.below b3
                have o1 := own_below o1 b3
                have N3 : Ext w4 m3 := N2.trans b3
                refine hK.out _ _ N3 (fun hHeld => ?_)
                clear hK K
                try simp only [Act.put, List.getElem_toArray, List.getElem_cons_zero, List.getElem_cons_succ, List.setIfInBounds_toArray, List.set_cons_zero, List.set_cons_succ]
                refine wpAnyH_ready (rs := [6]) (by kernel_rfl) (by simp) (AllReadyH.cons rfl (fun K hK => ?_) AllReadyH.nil)
                go_simp
                refine (mer_sum r [[1], ra, rb] _ m3 (by simpa using HQ.out) (rowB3 r2 r1 ((blk_row (n := 32) H4.out (by rw [List.length_map]; exact HaL.out) (by unfold maxLen; omega)).below N3) ((blk_row (n := 32) H5.out (by rw [List.length_map]; exact HbL.out) (by unfold maxLen; omega)).below N3)) (by have := HaL.out; have := HbL.out; simp; omega) (HR.out.ext (HE.out.trans (HW.out.trans N3)))).mono ?_
                rintro e m4 ⟨rfl, b4⟩
                have r1 := r1.below b4
                have r2 := r2.below b4
                have o1 := own_below o1 b4
                have N4 : Ext w4 m4 := N3.trans b4
                refine hK.out _ _ N4 (fun hHeld => ?_)
                clear hK K
                try simp only [Act.put, List.getElem_toArray, List.getElem_cons_zero, List.getElem_cons_succ, List.setIfInBounds_toArray, List.set_cons_zero, List.set_cons_succ]
                refine wpAnyH_take (i := 7) (v := .bool true) rfl (by kernel_rfl) (by kernel_rfl) (by kernel_rfl) (fun _ _ _ h => h) (yi_eql _ _ _ _ _ 32 _ (r) (r) true (by rfl) rfl (decide_eq_true (rfl)) Tryd.underlying26 Tryd.underlying5 num_info num_cells num_guard rfl rfl (HRL.out) (HRL.out)) hHeld ?_
                simp only [Act.put, List.getElem_toArray, List.getElem_cons_zero, List.getElem_cons_succ, List.setIfInBounds_toArray, List.set_cons_zero, List.set_cons_succ]
                refine wpAnyH_ready (rs := [8]) (by kernel_rfl) (by simp) (AllReadyH.cons rfl (fun K hK => ?_) AllReadyH.nil)
                go_simp
                refine hK.out _ _ N4 (fun hHeld => ?_)
                clear hK K
                try simp only [Act.put, List.getElem_toArray, List.getElem_cons_zero, List.getElem_cons_succ, List.setIfInBounds_toArray, List.set_cons_zero, List.set_cons_succ]
                refine wpAnyH_done (by kernel_rfl) ?_ _
                have HN := Lib.hid (HE.out.trans (HW.out.trans N4))
                go_wp2_with fail
                go_ret
                exact ⟨rfl, HN.out⟩
end Go.Proofs.YtcadfccijeodbaaDoor
