/- Texts that belong together, one behind the other. -/
import Derived.Test.YtimmnieopifcbaaGreatDoorQz05
namespace Go.Proofs.YtimmnieopifcbaaGreatDoor
set_option linter.unusedVariables false
set_option maxRecDepth 100000
set_option maxHeartbeats 32000000
set_option linter.unusedSimpArgs false
open Go.RowKit
def MsgSt (w0 w : World) (M : Nat) (r : List UInt8) : Prop :=
 ∃ (ov bv : Value) (o : List UInt8) (ls : List (List UInt8)), Blk w M [ov, bv] 108 ∧ Row1 w0 ov (o.map bval) ∧ RowB w0 bv ls ∧ r = o ++ ls.flatten
theorem MsgSt.same {w0 w w' : World} {M : Nat} {r : List UInt8} (h : MsgSt w0 w M r) (hb : w'.heap[M]? = w.heap[M]?) : MsgSt w0 w' M r := by
 obtain ⟨ov, bv, o, ls, h1, h2⟩ := h
 exact ⟨ov, bv, o, ls, h1.same hb, h2⟩
theorem MsgSt.lt {w0 w : World} {M : Nat} {r : List UInt8} (h : MsgSt w0 w M r) : M < w.heap.size := by
 obtain ⟨ov, bv, o, ls, h1, h2⟩ := h
 exact h1.lt
theorem rowB_tail {w : World} {v : Value} {l : List UInt8} {ls : List (List UInt8)} (h : RowB w v (l :: ls)) :
  ∃ (b off cap : Nat) (x v' : Value), v = .slice (some ⟨b, off, none⟩) (ls.length + 1) cap ∧ cap ≤ maxLen ∧ b < w.heap.size ∧ w.cell? ⟨b, off, none⟩ = some x ∧ Row1 w x (l.map bval) ∧ RowB w v' ls ∧
   ∀ w', (Instr.sliceAt 57 v (some (.int .i64 1)) none none).run Tryz.prog w' = .ok v' w' := by
 obtain ⟨vals, hr, hlen, hx⟩ := h
 match vals, hlen with
 | x :: vals, hlen =>
  obtain ⟨v', hv', hrun⟩ := row_cut Tryz.underlying57 Tryz.sizeOf25 hr 1 (by simp)
  obtain ⟨a, cap, rfl, h1, h2, h3, h4⟩ := hr
  obtain ⟨b, off, rfl, h5, h6⟩ := h4 (by simp)
  have hl : vals.length = ls.length := by simpa using hlen
  refine ⟨b, off, cap, x, v', by rw [List.length_cons, hl], h2, h5, by simpa using h6 0 (by simp), hx 0 x l rfl rfl, ⟨vals, hv', hl, fun i y k hy hk => hx (i + 1) y k (by simpa using hy) (by simpa using hk)⟩, hrun⟩
theorem rowB_form {w : World} {v : Value} {ls : List (List UInt8)} (h : RowB w v ls) : ∃ a cap, v = .slice a ls.length cap ∧ cap ≤ maxLen ∧ ls.length ≤ cap := by
 obtain ⟨vals, hr, hlen, hx⟩ := h
 obtain ⟨a, cap, rfl, h1, h2, _⟩ := hr
 exact ⟨a, cap, by rw [hlen], h2, by omega⟩
theorem row_slice {w : World} {v : Value} {l : List Value} (h : Row1 w v l) : ∃ a n cap, v = .slice a n cap := by
 obtain ⟨a, cap, rfl, _⟩ := h
 exact ⟨_, _, _, rfl⟩
def behindAt (w : World) (M : Nat) : Nat := ((w.cell? ⟨M, 1, none⟩).map lenV).getD 0
theorem cut_row (w : World) (Bo p K C : Nat) (hp : p < K) (hKC : K ≤ C) : (Instr.sliceAt 25 (.slice (some ⟨Bo, 0, none⟩) K C) (some (.int .i64 (p : Int))) none none).run Tryz.prog w = .ok (.slice (some ⟨Bo, p, none⟩) (K - p) (C - p)) w := by
 have e2 : Tryz.prog.elem 25 = 5 := by unfold Program.elem; rw [Tryz.underlying25]
 have ht2 : Tryz.prog.underlying 25 = some (.slice (Tryz.prog.elem 25)) := by rw [e2]; exact Tryz.underlying25
 rw [run_sliceAt_slice w 25 _ _ _ _ ht2, run_slice_l (ht := ht2) (kl := .i64) (l := (p : Int)) (h0 := by omega) (h1 := by omega), e2, Tryz.sizeOf5]
 simp [sliced, WideShapes.add_plain, show ¬ C = p by omega]
def FillSaid (w0 w w' : World) (M Bo K : Nat) (r l : List UInt8) (T : TypeId) (e : Ending) : Prop :=
 ∃ c, c = r.take K ∧ e = .returned (.int .i64 (c.length : Int)) ∧ MsgSt w0 w' M (r.drop K) ∧ Blk w' Bo ((c ++ l.drop c.length).map bval) T ∧ Below M w w'
theorem fill_next {r c l1 : List UInt8} {ls : List (List UInt8)} {c2 : List UInt8} {K : Nat} (h : r = c ++ ([] ++ (l1 :: ls).flatten)) (hc : c.length ≤ K) (h2 : c2 = l1.take (K - c.length)) :
  r = (c ++ c2) ++ (l1.drop c2.length ++ ls.flatten) ∧ (c ++ c2).length ≤ K ∧ ((c ++ c2).length < K → l1.drop c2.length = []) := by
 refine ⟨?_, ?_, ?_⟩
 ·rw [h, List.nil_append, List.flatten_cons, List.append_assoc]
  congr 1
  rw [← List.append_assoc]
  congr 1
  rw [h2]
  rcases Nat.le_total (K - c.length) l1.length with h | h
  ·rw [List.length_take, Nat.min_eq_left h, List.take_append_drop]
  ·rw [List.take_of_length_le h, List.drop_length, List.append_nil]
 ·rw [List.length_append, h2, List.length_take]; omega
 ·intro h3
  rw [List.length_append, h2, List.length_take] at h3
  refine List.drop_eq_nil_of_le ?_
  rw [h2, List.length_take]
  omega
theorem fill_row (c c2 l : List UInt8) : ((c ++ l.drop c.length).take c.length ++ c2 ++ (c ++ l.drop c.length).drop (c.length + c2.length)) = (c ++ c2) ++ l.drop (c ++ c2).length := by
 rw [List.take_append_of_le_length (Nat.le_refl _), List.take_length, List.length_append]
 congr 1
 rw [List.drop_append, List.drop_eq_nil_of_le (by omega), List.nil_append, List.drop_drop]
 congr 1
 omega
theorem fill_cap (w0 w : World) (M Bo K C : Nat) (r l : List UInt8) (T : TypeId) (hS : MsgSt w0 w M r) (hl : Blk w Bo (l.map bval) T) (hlen : l.length = C) (hK0 : 0 < K) (hKC : K ≤ C) (hK : C ≤ 128)
  (he : Ext w0 w) (h0 : w0.heap.size ≤ M) (hMB : M < Bo) :
  Calls Tryz.prog 105 #[.pointer (some ⟨M, 0, none⟩), .slice (some ⟨Bo, 0, none⟩) K C] w fun e w' => FillSaid w0 w w' M Bo K r l T e ∧ But M Bo w w' := by
 obtain ⟨ov, bv, o, ls, hM, ho, hb, hr⟩ := hS
 have hmv := move_cap w0 w M Bo 0 K C ov bv o l T hM ho hl hlen hK0 hKC hK he h0 hMB
 rw [Nat.sub_zero, Nat.sub_zero] at hmv
 have HMV := jh hmv
 have HB := jh hb
 have HR := jh hr
 have HE0 := jh he
 have HL := jh hlen
 clear hmv hb hr hM ho hl he hlen
 go_enter Tryz.func105, Tryz.ntmps105
 go_wp2_with fail
 refine HMV.out.mono ?_
 rintro e w1 ⟨ov1, c, hc, rfl, hM, ho, hB, hbel, hbut⟩
 have HU1 := jh hbut
 have HM1 := jh hM
 have HO1 := jh ho
 have HB1 : Hid (Blk w1 Bo ((c ++ l.drop c.length).map bval) T) := jh (by simpa using hB)
 have HE1 := jh hbel
 have HC := jh hc
 clear hM ho hB hbel hc HMV hbut
 have HREL : Hid (r = c ++ (o.drop c.length ++ ls.flatten) ∧ c.length ≤ K ∧ (c.length < K → o.drop c.length = [])) := jh (by
  refine ⟨?_, ?_, ?_⟩
  ·rw [HR.out, HC.out]
   rcases Nat.le_total K o.length with h | h
   ·rw [List.length_take, Nat.min_eq_left h, ← List.append_assoc, List.take_append_drop]
   ·rw [List.take_of_length_le h, List.drop_length, List.nil_append]
  ·rw [HC.out, List.length_take]; exact Nat.min_le_left _ _
  ·intro h
   rw [HC.out, List.length_take] at h
   refine List.drop_eq_nil_of_le ?_
   rw [HC.out, List.length_take]
   show o.length ≤ min K o.length
   omega)
 go_wp2_with fail
 go_loopw [5] (fun i5 wr => ∃ (c o : List UInt8) (ls : List (List UInt8)) (ov bv : Value), i5 = .int .i64 (c.length : Int) ∧ (r = c ++ (o ++ ls.flatten) ∧ c.length ≤ K ∧ (c.length < K → o = [])) ∧ Blk wr M [ov, bv] 108 ∧ Row1 w0 ov (o.map bval) ∧ RowB w0 bv ls ∧ Blk wr Bo ((c ++ l.drop c.length).map bval) T ∧ Below M w wr ∧ But M Bo w wr) (fun _ wr => behindAt wr M)
 case atStart => exact ⟨c, o.drop c.length, ls, ov1, bv, rfl, HREL.out, HM1.out, HO1.out, HB.out, HB1.out, HE1.out, HU1.out⟩
 case round =>
  clear HREL HM1 HO1 HB HB1 HE1 HC HR HU1
  obtain ⟨c, o, ls, ov, bv, rfl, ⟨hr, hcK, hco⟩, hM, ho, hb, hB, hbel, hbut⟩ := hrel
  have HBU := jh hbut
  clear hbut
  have c0 := hM.cell 0
  have c1 := hM.cell 1
  have f0 := hM.free 0
  have f1 := hM.free 1
  simp only [List.getElem?_cons_zero, List.getElem?_cons_succ] at c0 c1
  by_cases hlt : c.length < K
  ·have ho2 := hco hlt
   subst ho2
   have k1 : (c.length : Int) < (K : Int) := by omega
   cases ls with
   | nil =>
    obtain ⟨ab, capb, rfl, g1, g2⟩ := rowB_form hb
    have HF : Hid (MsgSt w0 wr M (r.drop K)) := jh ⟨ov, _, [], [], hM, ho, hb, by rw [hr]; simpa using Nat.le_of_lt hlt⟩
    have HBX := jh hB
    have HBL := jh hbel
    have HT : Hid (c = r.take K) := jh (by rw [hr]; simp only [List.flatten_nil, List.append_nil]; exact (List.take_of_length_le hcK).symm)
    clear hM ho hb hB hbel hr hco
    simp only [List.length_nil] at c1
    go_wp2_with fail
    go_ret
    unfold FillSaid
    exact ⟨⟨c, HT.out, rfl, HF.out, HBX.out, HBL.out⟩, HBU.out⟩
   | cons l1 ls =>
    obtain ⟨b', off', capb, xv, bv', rfl, g1, g2, g3, g4, g5, g6⟩ := rowB_tail hb
    obtain ⟨xa, xn, xcap, hxe⟩ := row_slice g4
    subst hxe
    obtain ⟨ba, bcap, hbe, g7, g8⟩ := rowB_form g5
    subst hbe
    have cx : wr.cell? ⟨b', off', none⟩ = some (.slice xa xn xcap) := by
     rw [← g3]
     exact (Below.trans HE0.out (hbel.mono h0)).cell (p := ⟨b', off', none⟩) g2
    have hcut := cut_row wr Bo c.length K C hlt hKC
    have n0 : (0 : Int) ≤ (ls.length : Int) := Int.natCast_nonneg _
    have n1 : (0 : Int) < (ls.length : Int) + 1 := by omega
    have n2 : (0 : Int) < ((ls.length + 1 : Nat) : Int) := by omega
    have n3 : (1 : Int) ≤ ((ls.length + 1 : Nat) : Int) := by omega
    have HFT := jh (show behindAt wr M = ls.length + 1 by unfold behindAt; rw [c1]; rfl)
    have HR := jh hr
    have HM := jh hM
    have HBX := jh hB
    have HBL := jh hbel
    have HX := jh g4
    have HBV := jh g5
    unfold maxLen at g1 g7
    clear hM ho hb hB hbel hr hco g2 g3 g4 g5
    go_upto_region 3 with (fail)
    go_region
    have HM2 : Hid (Blk ((wr.setCell ⟨M, 0, none⟩ (.slice xa xn xcap)).setCell ⟨M, 1, none⟩ (.slice ba ls.length bcap)).drew M [.slice xa xn xcap, .slice ba ls.length bcap] 108) := jh (((HM.out.set 0 _).set 1 _).drewN 1)
    have HBX2 : Hid (Blk ((wr.setCell ⟨M, 0, none⟩ (.slice xa xn xcap)).setCell ⟨M, 1, none⟩ (.slice ba ls.length bcap)).drew Bo ((c ++ l.drop c.length).map bval) T) := jh (((HBX.out.far (by simp; omega) _).far (by simp; omega) _).drewN 1)
    have HBL2 : Hid (Below M w ((wr.setCell ⟨M, 0, none⟩ (.slice xa xn xcap)).setCell ⟨M, 1, none⟩ (.slice ba ls.length bcap)).drew) := jh ((Below.setCell (Below.setCell HBL.out (by simp) _) (by simp) _).drew)
    have HBU2 : Hid (But M Bo w ((wr.setCell ⟨M, 0, none⟩ (.slice xa xn xcap)).setCell ⟨M, 1, none⟩ (.slice ba ls.length bcap)).drew) := jh ((HBU.out.set rfl _).set rfl _).drew
    generalize ((wr.setCell ⟨M, 0, none⟩ (.slice xa xn xcap)).setCell ⟨M, 1, none⟩ (.slice ba ls.length bcap)).drew = w2 at *
    clear HM HBX HBL c0 c1 f0 f1 cx
    have HMV := jh (move_cap w0 w2 M Bo c.length K C _ _ l1 (c ++ l.drop c.length) T HM2.out HX.out HBX2.out (by simp [HL.out]; omega) hlt hKC hK (Below.trans HE0.out (HBL2.out.mono h0)) h0 hMB)
    have hcut := cut_row w2 Bo c.length K C hlt hKC
    go_wp2_with fail
    refine HMV.out.mono ?_
    rintro e w3 ⟨ov', c2, hc2, rfl, hM, ho, hB, hbel, hbut⟩
    have HBU3 := jh (HBU2.out.trans hbut)
    rw [fill_row] at hB
    have HN := jh (fill_next HR.out hcK hc2)
    have HM3 := jh hM
    have HO3 := jh ho
    have HB3 := jh hB
    have HBL3 := jh (Below.trans HBL2.out hbel)
    have hc2l : (c2.length : Int) ≤ 128 := by have := HN.out.2.1; rw [List.length_append] at this; omega
    have hc20 : (0 : Int) ≤ (c2.length : Int) := Int.natCast_nonneg _
    have c1 := HM3.out.cell 1
    simp only [List.getElem?_cons_zero, List.getElem?_cons_succ] at c1
    have HMS := jh (show behindAt w3 M = ls.length by unfold behindAt; rw [c1]; rfl)
    clear hM ho hB hbel hbut hc2 HMV HM2 HBX2 HBL2 c1
    go_wp2_with fail
    go_roundw
    case rel => exact ⟨c ++ c2, _, ls, _, _, by rw [List.length_append]; go_num, HN.out, HM3.out, HO3.out, HBV.out, HB3.out, HBL3.out, HBU3.out⟩
    case measure => rw [HMS.out, HFT.out]; omega
  ·have hcK2 : c.length = K := by omega
   have hlt2 : ¬ (c.length : Int) < (K : Int) := by omega
   have hd2 : decide ((c.length : Int) < (K : Int)) = false := decide_eq_false hlt2
   have HF : Hid (MsgSt w0 wr M (r.drop K)) := jh ⟨ov, bv, o, ls, hM, ho, hb, by rw [hr, List.drop_append_of_le_length (by omega), List.drop_of_length_le (by omega), List.nil_append]⟩
   have HBX := jh hB
   have HBL := jh hbel
   have HT : Hid (c = r.take K) := jh (by rw [hr, List.take_append_of_le_length (by omega), List.take_of_length_le (by omega)])
   clear hM ho hb hB hbel hr hco hcK2
   go_wp2_with fail
   go_ret
   unfold FillSaid
   exact ⟨⟨c, HT.out, rfl, HF.out, HBX.out, HBL.out⟩, HBU.out⟩
theorem fill_any (w0 w : World) (M Bo K : Nat) (r l : List UInt8) (T : TypeId) (hS : MsgSt w0 w M r) (hl : Blk w Bo (l.map bval) T) (hlen : l.length = K) (hK0 : 0 < K) (hK : K ≤ 128)
  (he : Ext w0 w) (h0 : w0.heap.size ≤ M) (hMB : M < Bo) :
  Calls Tryz.prog 105 #[.pointer (some ⟨M, 0, none⟩), .slice (some ⟨Bo, 0, none⟩) K K] w fun e w' => FillSaid w0 w w' M Bo K r l T e :=
 (fill_cap w0 w M Bo K K r l T hS hl hlen hK0 (Nat.le_refl _) hK he h0 hMB).mono fun _ _ h => h.1
theorem msg_size : (Tryz.prog.info? 108).map (·.size) = some (#[Value.slice none 0 0, Value.slice none 0 0]).size := by kernel_rfl
theorem of_any (a : Option Addr) (n cap : Nat) (w : World) :
  Calls Tryz.prog 74 #[.slice a n cap] w fun e w' => e = .returned (.agg #[.slice none 0 0, .slice a n cap]) ∧ Below w.heap.size w w' := by
 go_enter Tryz.func74, Tryz.ntmps74
 go_wp2_with fail
 refine bodyPost_ret (results_cell_row rfl _ _ w.heap.size _ _ _ _ rfl (Blk.made w [.slice none 0 0, .slice a n cap] 108) Tryz.underlying108 rfl msg_size) rfl ?_
 exact ⟨rfl, Ext.alloc w (.cells #[.slice none 0 0, .slice a n cap] 108)⟩
theorem hRun_next (m x : List UInt8) (n : Nat) (hx : x = (m.drop (64 * n)).take 64) : mixF (hRun m n) x = hRun m (n + 1) := by rw [hRun_mix, hx]
theorem last_top {c l d : List UInt8} {n : Nat} (h : c = d.take 64) (hn : c.length = n) (hd : n < 64) : (c ++ l.drop c.length).take n = d := by
 have hl : d.length = n := by
  rw [h, List.length_take] at hn
  omega
 rw [← hn, List.take_append_of_le_length (Nat.le_refl _), List.take_length, h, List.take_of_length_le (by omega)]
theorem filled_length {c l d : List UInt8} (h : c = d.take 64) (hl : l.length = 64) : (c ++ l.drop c.length).length = 64 := by
 have : c.length ≤ 64 := by rw [h, List.length_take]; omega
 simp
 omega
structure ShaSt (w0 w : World) (Bh Bm Bo : Nat) (m : List UInt8) (n : Nat) (c l : List UInt8) : Prop where
 all : l.length = 64
 few : 64 * n + c.length ≤ m.length
 piece : c = (m.drop (64 * n)).take 64
 blkH : Blk w Bh (ints .u32 (ws (hRun m n))) 141
 msg : MsgSt w0 w Bm ((m.drop (64 * n)).drop 64)
 blkO : Blk w Bo ((c ++ l.drop c.length).map bval) 143
theorem Sum_num (v : Value) (ls : List (List UInt8)) (w : World) (hv : RowB w v ls) (hb : ls.flatten.length ≤ 1099511627776) (hG : GlobR w) :
  Calls Tryz.prog 83 #[v] w fun e w' => e = .returned (.agg ((sha256 ls.flatten).map bval).toArray) ∧ Below w.heap.size w w' := by
 obtain ⟨a, cap, rfl, r1, r2⟩ := rowB_form hv
 obtain ⟨m, hm⟩ : ∃ m, m = ls.flatten := ⟨_, rfl⟩
 rw [← hm] at hb ⊢
 have HMD := jh hm
 clear hm
 have HRB := jh hv
 have HG := jh hG
 have HB := jh hb
 have HZ := jh (Blk.made w (ints .u8 (List.replicate 32 0)) 23)
 have HE := jh (Ext.alloc w (.cells (ints .u8 (List.replicate 32 0)).toArray 23))
 unfold maxLen at r1
 clear hv hG hb
 go_enter Tryz.func83, Tryz.ntmps83
 go_wp2_with fail
 change Calls _ _ _ (w.alloc (.cells (ints .u8 (List.replicate 32 0)).toArray 23)) _
 generalize w.alloc (.cells (ints .u8 (List.replicate 32 0)).toArray 23) = w1 at *
 obtain ⟨A, hA⟩ : ∃ A, A = w.heap.size := ⟨_, rfl⟩
 have HZ := HZ.out
 rw [← hA] at HZ ⊢
 have hA2 : w.heap.size ≤ A := by omega
 have HZ := jh HZ
 clear hA
 refine (start_any w1).mono ?_
 rintro e w2 ⟨rfl, hb⟩
 have HZ := jh (zaa HZ.out hb)
 have HE := jh (HE.out.trans hb)
 clear hb
 have HZL := jh HZ.out.lt
 have HH := jh (Blk.made w2 (ints .u32 (List.replicate 8 0)) 141)
 have HZ := jh (HZ.out.alloc (.cells (ints .u32 (List.replicate 8 0)).toArray 141))
 have HS := jh HE.out.size
 have HE := jh (HE.out.trans (Ext.alloc w2 (.cells (ints .u32 (List.replicate 8 0)).toArray 141)))
 go_upto_region 2 with (refine zac rfl _ _ _ rfl w2.heap.size (ints .u32 (ws H256)) rfl rfl _ _ HH.out rfl Tryz.arr141 (zai _ _) ?_; intro w3 hb3 hg3)
 have HZ := jh (HZ.out.grown hg3 (by have := HZL.out; simp; omega))
 have HE := jh (zae HE.out hg3 HS.out)
 have HH := jh hb3
 have HAB : Hid (A < w2.heap.size) := HZL
 generalize w2.heap.size = Bh at *
 clear hb3 hg3 HZL HS
 go_wp2_with fail
 refine (of_any a ls.length cap w3).mono ?_
 rintro e w4 ⟨rfl, hb⟩
 have HZ := jh (zaa HZ.out hb)
 have HHL := jh (Nat.lt_of_lt_of_le HH.out.lt hb.size)
 have HH := jh (zaa HH.out hb)
 have HE := jh (HE.out.trans hb)
 clear hb
 go_upto_region 3 with (fail)
 have HM := jh (Blk.made w4 [.slice none 0 0, .slice a ls.length cap] 108)
 have HH := jh (HH.out.alloc (.cells #[.slice none 0 0, .slice a ls.length cap] 108))
 have HZ := jh (HZ.out.alloc (.cells #[.slice none 0 0, .slice a ls.length cap] 108))
 have HS4 := jh HE.out.size
 have HE := jh (HE.out.trans (Ext.alloc w4 (.cells #[.slice none 0 0, .slice a ls.length cap] 108)))
 have HML : Hid (w4.heap.size < (w4.alloc (.cells #[.slice none 0 0, .slice a ls.length cap] 108)).heap.size) := jh (by simp)
 have HM : Hid (MsgSt w (w4.alloc (.cells #[.slice none 0 0, .slice a ls.length cap] 108)) w4.heap.size m) := jh ⟨_, _, [], ls, HM.out, Row1.nil w, HRB.out, by rw [HMD.out]; simp⟩
 generalize w4.alloc (.cells #[.slice none 0 0, .slice a ls.length cap] 108) = w5 at *
 have HBM : Hid (Bh < w4.heap.size) := HHL
 have hS4 : w.heap.size ≤ w4.heap.size := HS4.out
 generalize w4.heap.size = Bm at *
 clear HHL HS4
 have HO : Hid (Blk (w5.alloc (.cells (ints .u8 (List.replicate 64 0)).toArray 143)) w5.heap.size ((List.replicate 64 (0 : UInt8)).map bval) 143) := jh (Blk.made w5 (ints .u8 (List.replicate 64 0)) 143)
 have HM : Hid (MsgSt w (w5.alloc (.cells (ints .u8 (List.replicate 64 0)).toArray 143)) Bm m) := jh (HM.out.same (heap_alloc_old w5 _ HML.out))
 have HH := jh (HH.out.alloc (.cells (ints .u8 (List.replicate 64 0)).toArray 143))
 have HZ := jh (HZ.out.alloc (.cells (ints .u8 (List.replicate 64 0)).toArray 143))
 have HE := jh (HE.out.trans (Ext.alloc w5 (.cells (ints .u8 (List.replicate 64 0)).toArray 143)))
 go_upto_region 4 with (fail)
 change Code.wp _ _ _ _ (w5.alloc (.cells (ints .u8 (List.replicate 64 0)).toArray 143))
 generalize w5.alloc (.cells (ints .u8 (List.replicate 64 0)).toArray 143) = w6 at *
 generalize w5.heap.size = Bo at *
 have HF := jh (fill_any w w6 Bm Bo 64 m (List.replicate 64 0) 143 HM.out HO.out rfl (by omega) (by omega) HE.out hS4 HML.out)
 clear HM HO
 go_wp2_with fail
 refine HF.out.mono ?_
 intro e w7 hf
 unfold FillSaid at hf
 obtain ⟨c, hc, rfl, hM, hO, hbel⟩ := hf
 have HH := jh (HH.out.same (hbel.block Bh HBM.out))
 have HZ := jh (HZ.out.same (hbel.block A (Nat.lt_trans HAB.out HBM.out)))
 have HE : Hid (Ext w w7) := jh (Below.trans HE.out (hbel.mono hS4))
 have HST : Hid (ShaSt w w7 Bh Bm Bo m 0 c (List.replicate 64 0)) := jh ⟨rfl, by rw [hc, List.length_take]; omega, by rw [hc]; rfl, HH.out, hM, hO⟩
 clear HH hc hM hO hbel HF HRB
 go_wp2_with fail
 go_loopw [4, 7] (fun i4 i7 wr => ∃ (n : Nat) (c l : List UInt8), i4 = .int .i64 (64 * (n : Int)) ∧ i7 = .int .i64 (c.length : Int) ∧ ShaSt w wr Bh Bm Bo m n c l ∧ Blk wr A (ints .u8 (List.replicate 32 0)) 23 ∧ Ext w wr) (fun i4 _ _ => m.length - (intOf i4).toNat)
 case atStart => exact ⟨0, c, List.replicate 64 0, rfl, rfl, HST.out, HZ.out, HE.out⟩
 case round =>
  clear HST HZ HE
  obtain ⟨n, c, l, rfl, rfl, hst, hz, hbel⟩ := hrel
  have n0 : (0 : Int) ≤ (n : Int) := Int.natCast_nonneg _
  have c0 : (0 : Int) ≤ (c.length : Int) := Int.natCast_nonneg _
  have hc64 : c.length ≤ 64 := by rw [hst.piece, List.length_take]; omega
  have hcl := hst.few
  have hn40 : 64 * (n : Int) + (c.length : Int) ≤ 1099511627776 := by have := HB.out; omega
  have HJ := jh (filled_length (c := c) (l := l) hst.piece hst.all)
  have HR8 := jh (zcu m n)
  have HI1 : Hid ((Tryz.prog.info? 141).map (·.size) = some (ints .u32 (ws (hRun m n))).length) := jh (by rw [zad, zar, zcu]; exact Tryz.arr141)
  have HI2 : Hid ((Tryz.prog.info? 143).map (·.size) = some ((c ++ l.drop c.length).map bval).length) := jh (by rw [List.length_map, HJ.out]; exact Tryz.arr143)
  have HH := jh hst.blkH
  have HO := jh hst.blkO
  have HMS := jh hst.msg
  have HP := jh hst.piece
  have HA := jh hst.all
  have HZ := jh hz
  have HE := jh hbel
  have HFW := jh hcl
  clear hz hbel hst hcl
  by_cases h64 : c.length = 64
  ·have t64 : ((c.length : Int) == 64) = true := by simp; omega
   have HC := jh h64
   have HX : Hid (c ++ l.drop c.length = (m.drop (64 * n)).take 64) := jh (by rw [h64, List.drop_eq_nil_of_le (by rw [HA.out]; omega), List.append_nil]; exact HP.out)
   have hn41 : 64 * (n : Int) + 64 ≤ 1099511627776 := by omega
   have HMX := jh (mixed_any (hRun m n) (c ++ l.drop c.length) wr HR8.out HJ.out (HG.out.ext HE.out))
   rw [hRun_next m _ n HX.out] at HMX
   have HJ2 := HJ
   generalize c ++ l.drop c.length = l2 at *
   have HI3 : Hid ((Tryz.prog.info? 141).map (·.size) = some (ints .u32 (ws (hRun m (n + 1)))).length) := jh (by rw [zad, zar, zcu]; exact Tryz.arr141)
   have HI4 : Hid ((ints .u32 (ws (hRun m (n + 1)))).length = (ints .u32 (ws (hRun m n))).length) := jh (by rw [zad, zar, zcu, zad, zar, zcu])
   clear h64 hc64
   generalize hRun m n = h0 at *
   obtain ⟨h1, hh1⟩ : ∃ h1, h1 = hRun m (n + 1) := ⟨_, rfl⟩
   rw [← hh1] at HMX HI3 HI4
   have HH1 := jh hh1
   clear hh1
   go_wp2_with (first | (refine zab rfl _ _ rfl Bh rfl _ _ _ _ HH.out Tryz.underlying141 HI1.out ?_) | (refine zab rfl _ _ rfl Bo rfl _ _ _ _ HO.out Tryz.underlying143 HI2.out ?_))
   refine HMX.out.mono ?_
   rintro e w8 ⟨rfl, hb⟩
   have HZ := jh (zaa HZ.out hb)
   have HH := jh (zaa HH.out hb)
   have HO := jh (zaa HO.out hb)
   have HMS := jh (HMS.out.same (hb.block Bm HMS.out.lt))
   have HE := jh (HE.out.trans hb)
   clear hb HMX
   go_upto_region 7 with (refine zac rfl _ _ _ rfl Bh (ints .u32 (ws h1)) rfl rfl _ _ HH.out HI4.out HI3.out (zai _ _) ?_; intro w9 hb9 hg9)
   have HZ := jh (HZ.out.grown hg9 (by have := HAB.out; simp; omega))
   have HO := jh (HO.out.grown hg9 (by have := HBM.out; have := HML.out; simp; omega))
   have HMS := jh (HMS.out.same (hg9.block Bm HMS.out.lt (by have := HBM.out; simp; omega)))
   have HE := jh (zae HE.out hg9 (by have := HAB.out; omega))
   have HH := jh hb9
   clear hb9 hg9
   have HF := jh (fill_any w w9 Bm Bo 64 _ l2 143 HMS.out HO.out HJ2.out (by omega) (by omega) HE.out hS4 HML.out)
   clear HMS HO
   go_wp2_with fail
   refine HF.out.mono ?_
   intro e w10 hf
   unfold FillSaid at hf
   obtain ⟨c2, hc2, rfl, hM, hO, hbel⟩ := hf
   have HH := jh (HH.out.same (hbel.block Bh HBM.out))
   have HZ := jh (HZ.out.same (hbel.block A (Nat.lt_trans HAB.out HBM.out)))
   have HE : Hid (Ext w w10) := jh (Below.trans HE.out (hbel.mono hS4))
   have e64 : (m.drop (64 * n)).drop 64 = m.drop (64 * (n + 1)) := by rw [List.drop_drop, show 64 * n + 64 = 64 * (n + 1) from by omega]
   rw [e64] at hc2 hM
   have HST : Hid (ShaSt w w10 Bh Bm Bo m (n + 1) c2 l2) := jh ⟨HJ2.out, by rw [hc2, List.length_take, List.length_drop]; have := HFW.out; have := HC.out; omega, hc2, by rw [← HH1.out]; exact HH.out, hM, hO⟩
   have HFN : Hid (64 * (n + 1) ≤ m.length) := jh (by have := HFW.out; have := HC.out; omega)
   clear HH hc2 hM hO hbel HF e64 t64
   go_wp2_with fail
   go_roundw
   case rel => exact ⟨n + 1, c2, l2, by go_num, rfl, HST.out, HZ.out, HE.out⟩
   case measure => have := HFN.out; simp [intOf]; omega
  ·have t64 : ((c.length : Int) == 64) = false := by simp; omega
   have hpl : m.length = 64 * n + c.length := by
    have h := congrArg List.length HP.out
    rw [List.length_take, List.length_drop] at h
    have := HFW.out
    omega
   have hpi : 64 * (n : Int) + (c.length : Int) = (m.length : Int) := by omega
   have HTP := jh (last_top (l := l) HP.out rfl (by omega))
   have HCA := jh (closed_any m (c ++ l.drop c.length) n c.length wr hpl (by omega) HJ.out HTP.out HB.out (HG.out.ext HE.out))
   clear h64 hpl hc64
   generalize c ++ l.drop c.length = l2 at *
   go_wp2_with (first | (refine zab rfl _ _ rfl Bh rfl _ _ _ _ HH.out Tryz.underlying141 HI1.out ?_) | (refine zab rfl _ _ rfl Bo rfl _ _ _ _ HO.out Tryz.underlying143 HI2.out ?_))
   refine HCA.out.mono ?_
   rintro e w5 ⟨rfl, hb⟩
   have HZ := jh (zaa HZ.out hb)
   have HE := jh (HE.out.trans hb)
   clear hb HCA
   have HSH : Hid (outB (hRun (padded m) ((m.length + 72) / 64)) = sha256 m) := jh rfl
   have HL8 := jh (zcu (padded m) ((m.length + 72) / 64))
   generalize hRun (padded m) ((m.length + 72) / 64) = R at *
   go_wp2_with fail
   refine (sha_numOf_any R HL8.out w5).mono ?_
   rintro e w6 ⟨rfl, hb⟩
   have HZ := jh (zaa HZ.out hb)
   have HE := jh (HE.out.trans hb)
   clear hb
   obtain ⟨o, ho⟩ : ∃ o, o = sha256 m := ⟨_, rfl⟩
   rw [HSH.out, ← ho]
   have HOL : Hid (o.length = 32) := jh (by rw [ho, zcb])
   have HOO := jh ho
   clear ho
   have HIo : Hid ((Tryz.prog.info? 23).map (·.size) = some (o.map bval).length) := jh (zaf HOL.out)
   have HLo : Hid ((o.map bval).length = (ints .u8 (List.replicate 32 0)).length) := jh (by rw [List.length_map, HOL.out, zad, List.length_replicate])
   go_wp2_with (refine zac rfl _ _ _ rfl A (o.map bval) rfl rfl _ _ HZ.out HLo.out HIo.out (zag _) ?_; intro w7 hb7 hg7)
   refine bodyPost_ret (zap rfl _ A _ _ _ _ rfl hb7 Tryz.underlying23 HIo.out) rfl ?_
   exact ⟨by rw [HOO.out], zae HE.out hg7 (by omega)⟩
theorem Sum_one (x : Value) (l : List UInt8) (w : World) (hx : Row1 w x (l.map bval)) (hl : l.length ≤ 1099511627776) (hG : GlobR w) :
  Calls Tryz.prog 83 #[.slice (some ⟨w.heap.size, 0, none⟩) 1 1] (w.alloc (.cells #[x] 25)) fun e w' => e = .returned (.agg ((sha256 l).map bval).toArray) ∧ Ext w w' := by
 have he := Ext.alloc w (.cells #[x] 25)
 have h := Sum_num _ [l] _ (rowB1 (Row1.made w #[x] 25 _ 1 [x] rfl rfl rfl (by unfold maxLen; omega)) (hx.below he)) (by simpa using hl) (hG.ext he)
 refine h.mono fun e w' hh => ⟨?_, he.trans hh.2⟩
 rw [hh.1]
 simp
theorem Tryz.arr115 : (Tryz.prog.info? 115).map (·.size) = some 64 := by kernel_rfl
theorem mblock_size {l : List UInt8} (h : l.length = 64) : (Tryz.prog.info? 115).map (·.size) = some (l.map bval).length := by rw [List.length_map, h]; exact Tryz.arr115
def zero64 : List Value := ints .u8 (List.replicate 64 0)
theorem zero64_bytes : zero64 = (zB 64).map bval := by
 unfold zero64 ints zB
 rw [List.map_replicate, List.map_replicate]
 rfl
theorem masked_any (l : List UInt8) (c : UInt8) (w : World) (hl : l.length = 64) :
  Calls Tryz.prog 82 #[.agg (l.map bval).toArray, .int .u8 (c.toNat : Int)] w fun e w' => e = .returned (.agg ((l.map (· ^^^ c)).map bval).toArray) ∧ Below w.heap.size w w' := by
 have HL := jh hl
 have HB := jh (boxes2 w (l.map bval) (ints .u8 (List.replicate 64 0)) 115 115)
 have HIr : Hid ((Tryz.prog.info? 115).map (·.size) = some (l.map bval).length) := jh (mblock_size hl)
 clear hl
 go_enter Tryz.func82, Tryz.ntmps82
 go_upto_region 1 with (fail)
 obtain ⟨H1, H2, HE⟩ := HB.out
 change Code.wp _ _ _ _ ((w.alloc (.cells (l.map bval).toArray 115)).alloc (.cells (ints .u8 (List.replicate 64 0)).toArray 115))
 generalize (w.alloc (.cells (l.map bval).toArray 115)).alloc (.cells (ints .u8 (List.replicate 64 0)).toArray 115) = w2 at *
 obtain ⟨A, hA⟩ : ∃ A, A = w.heap.size := ⟨_, rfl⟩
 have HAW : Hid (w.heap.size ≤ A) := jh (by omega)
 rw [← hA] at H1 H2 ⊢
 have H1 := jh H1
 have H2 := jh H2
 have HE : Hid (Ext w w2) := jh HE
 clear hA HB
 go_wp2_with fail
 go_loopw [6] (fun iv wr => ∃ (j : Nat), j ≤ 64 ∧ iv = .int .i64 (j : Int) ∧ Blk wr A ((xTo l c j).map bval) 115 ∧ Blk wr (A + 1) (ints .u8 (List.replicate 64 0)) 115 ∧ Ext w wr) (fun iv _ => 64 - (intOf iv).toNat)
 case atStart => exact ⟨0, by omega, rfl, by rw [xTo_zero]; exact H1.out, H2.out, HE.out⟩
 case round =>
  clear H1 H2 HE
  obtain ⟨j, hj, rfl, hb1, hb2, hbel⟩ := hrel
  have k0 : (0 : Int) ≤ (j : Int) := Int.natCast_nonneg _
  by_cases hlj : j < 64
  ·have k1 : (j : Int) < 64 := by omega
   have hjp : j < l.length := by rw [HL.out]; exact hlj
   have c1 := hb1.cell j
   rw [zbb (by rw [xTo_length]; exact hjp), xTo_getD l _ j hjp] at c1
   have f1 := hb1.free j
   have x1 := xor_u8 (l.getD j 0) c
   have HX1 := jh (xTo_set l c j hjp)
   have B1 := jh hb1
   have B2 := jh hb2
   have HE := jh hbel
   generalize hy1 : l.getD j 0 ^^^ c = y1 at *
   clear hb1 hb2 hbel hy1
   obtain ⟨y, hy⟩ : ∃ y, y = l.getD j 0 := ⟨_, rfl⟩
   rw [← hy] at x1 c1
   clear hy
   go_wp2_with fail
   go_roundw
   case rel =>
    refine ⟨j + 1, by omega, by go_num, ?_, B2.out.far (by simp) _, Below.setCell HE.out (by have := HAW.out; simp; omega) _⟩
    rw [← HX1.out, List.map_set]
    exact B1.out.set j _
   case measure => simp [intOf]; omega
  ·have hj64 : j = 64 := by omega
   subst hj64
   rw [xTo_full c HL.out] at hb1
   have H1 := jh hb1
   have H2 := jh hb2
   have HE := jh hbel
   have HO : Hid ((l.map (· ^^^ c)).length = 64) := jh (by rw [List.length_map]; exact HL.out)
   clear hb1 hb2 hbel
   obtain ⟨o, ho⟩ : ∃ o, o = l.map (· ^^^ c) := ⟨_, rfl⟩
   rw [← ho] at H1 HO
   have HOO := jh ho
   clear ho
   have HIo : Hid ((Tryz.prog.info? 115).map (·.size) = some (o.map bval).length) := jh (mblock_size HO.out)
   have HLo : Hid ((o.map bval).length = (ints .u8 (List.replicate 64 0)).length) := jh (by rw [List.length_map, HO.out, zad, List.length_replicate])
   go_wp2_with (first | (refine zab rfl _ _ rfl A rfl _ _ _ _ H1.out Tryz.underlying115 HIo.out ?_) | (refine zac rfl _ _ _ rfl (A + 1) (o.map bval) rfl rfl _ _ H2.out HLo.out HIo.out (zag _) ?_; intro w4 hb4 hg4))
   refine bodyPost_ret (zap rfl _ (A + 1) _ _ _ _ rfl hb4 Tryz.underlying115 HIo.out) rfl ?_
   exact ⟨by rw [HOO.out], zae HE.out hg4 (by have := HAW.out; omega)⟩
theorem blockOf_any (kv : Value) (k : List UInt8) (w : World) (hk : Row1 w kv (k.map bval)) (hkl : k.length ≤ 1099511627776) (hG : GlobR w) :
  Calls Tryz.prog 81 #[kv] w fun e w' => e = .returned (.agg ((hPad (hKey k)).map bval).toArray) ∧ Below w.heap.size w w' := by
 have HK := jh hk
 have HG := jh hG
 have HKL := jh hkl
 obtain ⟨a, cap, rfl, r1, r2, r3, r4⟩ := id hk
 rw [List.length_map] at r1 HK ⊢
 unfold maxLen at r2
 have HB := jh (boxes2 w (ints .u8 (List.replicate 64 0)) (ints .u8 (List.replicate 64 0)) 115 115)
 clear hk hG hkl r3 r4
 go_enter Tryz.func81, Tryz.ntmps81
 go_upto_if 7 with (fail)
 obtain ⟨H1, H2, HE⟩ := HB.out
 change Code.wp _ _ _ _ ((w.alloc (.cells (ints .u8 (List.replicate 64 0)).toArray 115)).alloc (.cells (ints .u8 (List.replicate 64 0)).toArray 115))
 generalize (w.alloc (.cells (ints .u8 (List.replicate 64 0)).toArray 115)).alloc (.cells (ints .u8 (List.replicate 64 0)).toArray 115) = w1 at *
 obtain ⟨A, hA⟩ : ∃ A, A = w.heap.size := ⟨_, rfl⟩
 have HAW : Hid (w.heap.size ≤ A) := jh (by omega)
 rw [← hA] at H1 H2 ⊢
 have H1 := jh H1
 have H2 := jh H2
 have HE : Hid (Ext w w1) := jh HE
 clear hA HB
 go_cut [0, 4] from 5 to 11 (fun v u5 wc => ∃ (a' : Option Addr) (n cap' : Nat), v = .slice a' n cap' ∧ n = (hKey k).length ∧ Row1 wc (.slice a' n cap') ((hKey k).map bval) ∧ Blk wc A (ints .u8 (List.replicate 64 0)) 115 ∧ Blk wc (A + 1) (ints .u8 (List.replicate 64 0)) 115 ∧ Ext w wc)
 case first =>
  by_cases h64 : 64 < k.length
  ·have h64' : (64 : Int) < (k.length : Int) := by omega
   have hkk := hKey_long h64
   go_wp2_with fail
   refine (Sum_one _ k _ (HK.out.below HE.out) HKL.out (HG.out.ext HE.out)).mono ?_
   rintro e w2 ⟨rfl, hb⟩
   have HE2 := jh (HE.out.trans hb)
   have H12 := jh (H1.out.same (hb.block _ H1.out.lt))
   have H22 := jh (H2.out.same (hb.block _ H2.out.lt))
   clear hb H1 H2 HE
   have HHK := jh hkk
   have HL := jh (zcb k)
   clear hkk
   generalize sha256 k = o at *
   have HZ := jh (Blk.made w2 (ints .u8 (List.replicate 32 0)) 23)
   have HA := Ext.alloc w2 (.cells (ints .u8 (List.replicate 32 0)).toArray 23)
   have HE3 := jh (HE2.out.trans HA)
   have H13 := jh (H12.out.same (HA.block _ H12.out.lt))
   have H23 := jh (H22.out.same (HA.block _ H22.out.lt))
   have HIo : Hid ((Tryz.prog.info? 23).map (·.size) = some (o.map bval).length) := jh (zaf HL.out)
   have HLo : Hid ((o.map bval).length = (ints .u8 (List.replicate 32 0)).length) := jh (by rw [List.length_map, HL.out, zad, List.length_replicate])
   have HS2 := jh HE2.out.size
   have HLT := jh H22.out.lt
   clear HA
   go_wp2_with (refine zac rfl _ _ _ rfl w2.heap.size (o.map bval) rfl rfl _ _ HZ.out HLo.out HIo.out (zag _) ?_; intro w7 hb7 hg7)
   go_meet
   exact ⟨_, _, _, rfl, by rw [HHK.out, HL.out], by rw [HHK.out]; exact zbo (n := 32) hb7 (by rw [List.length_map, HL.out]) (by unfold maxLen; omega), H13.out.grown hg7 (fun e => by have h := Option.some.inj e; have := HLT.out; omega), H23.out.grown hg7 (fun e => by have h := Option.some.inj e; have := HLT.out; omega), zae HE3.out hg7 HS2.out⟩
  ·have h64' : ¬ (64 : Int) < (k.length : Int) := by omega
   have hkk := hKey_small (k := k) (by omega)
   go_wp2_with fail
   go_meet
   exact ⟨_, _, _, rfl, by rw [hkk], by rw [hkk]; exact HK.out.below HE.out, H1.out, H2.out, HE.out⟩
 case rest =>
  obtain ⟨a', n, cap', rfl, hn, hrow, hb1, hb2, hE⟩ := hcut
  clear HK H1 H2 HE r1 r2 HKL
  have hkl := hKey_length k
  have hpl := hPad_length hkl
  have hsp := zdb 64 (hKey k)
  have hpp : (hKey k) ++ List.replicate (64 - (hKey k).length) 0 = hPad (hKey k) := rfl
  rw [hpp] at hsp
  clear hpp
  obtain ⟨p, hp⟩ : ∃ p, p = hPad (hKey k) := ⟨_, rfl⟩
  have HP := jh hp
  rw [← hp] at hsp hpl
  clear hp
  obtain ⟨q, hq⟩ : ∃ q, q = hKey k := ⟨_, rfl⟩
  rw [← hq] at hsp hkl hrow hn
  clear hq
  subst hn
  rw [show (ints .u8 (List.replicate 64 0)) = (zB 64).map bval from zero64_bytes] at hb2
  have HSP := jh hsp
  have HPL := jh hpl
  have HQL := jh hkl
  have HR := jh hrow
  have H1 := jh hb1
  have H2 := jh hb2
  have HE := jh hE
  have HSI := jh (row_src hrow q (by rw [List.take_length]) (Nat.le_refl _) (Ext.refl wc))
  have HN : Hid ((q.map bval).length = Nat.min q.length 64) := jh (by rw [List.length_map]; exact (Nat.min_eq_left HQL.out).symm)
  have HF : Hid (0 + (q.map bval).length ≤ ((zB 64).map bval).length) := jh (by rw [List.length_map, List.length_map, zch]; have := HQL.out; omega)
  clear hsp hpl hkl hrow hb1 hb2 hE
  go_upto_region 6 with (refine zcx rfl (.tmp 12) (.tmp 13) 25 25 rfl 5 Tryz.underlying25 one_u8 (some ⟨A + 1, 0, none⟩) a' 64 64 q.length cap' rfl rfl (A + 1) 0 ((zB 64).map bval) 115 H2.out (q.map bval) HN.out (fun h => ⟨rfl, HSI.out h⟩) HF.out (zag _) ?_; intro w3 hc3 hg3)
  simp only [Act.put, nrm]
  rw [HSP.out] at hc3
  have HE3 : Hid (Ext w w3) := jh (zae HE.out hg3 (by have := HAW.out; omega))
  have H13 := jh (H1.out.grown hg3 (fun e => by have h := Option.some.inj e; omega))
  have H23 : Hid (Blk w3 (A + 1) (p.map bval) 115) := jh hc3
  have HIo : Hid ((Tryz.prog.info? 115).map (·.size) = some (p.map bval).length) := jh (mblock_size HPL.out)
  have HLo : Hid ((p.map bval).length = (ints .u8 (List.replicate 64 0)).length) := jh (by rw [List.length_map, HPL.out, zad, List.length_replicate])
  clear hc3 hg3 H1 H2 HE HSI HF HN HSP HR
  go_wp2_with (first | (refine zab rfl _ _ rfl (A + 1) rfl _ _ _ _ H23.out Tryz.underlying115 HIo.out ?_) | (refine zac rfl _ _ _ rfl A (p.map bval) rfl rfl _ _ H13.out HLo.out HIo.out (zag _) ?_; intro w4 hb4 hg4))
  refine bodyPost_ret (zap rfl _ A _ _ _ _ rfl hb4 Tryz.underlying115 HIo.out) rfl ?_
  exact ⟨by rw [HP.out], zae HE3.out hg4 HAW.out⟩
theorem Sum_val (v : Value) (ls : List (List UInt8)) (l : List UInt8) (w : World) (hv : RowB w v ls) (hf : ls.flatten = l) (hl : l.length ≤ 1099511627776) (hG : GlobR w) :
  Calls Tryz.prog 83 #[v] w fun e w' => e = .returned (.agg ((sha256 l).map bval).toArray) ∧ Below w.heap.size w w' := by
 subst hf
 exact Sum_num v ls w hv hl hG
theorem masked_in (l : List UInt8) (w : World) (hl : l.length = 64) :
  Calls Tryz.prog 82 #[.agg (l.map bval).toArray, .int .u8 54] w fun e w' => e = .returned (.agg ((l.map (· ^^^ 0x36)).map bval).toArray) ∧ Below w.heap.size w w' := masked_any l 0x36 w hl
theorem masked_out (l : List UInt8) (w : World) (hl : l.length = 64) :
  Calls Tryz.prog 82 #[.agg (l.map bval).toArray, .int .u8 92] w fun e w' => e = .returned (.agg ((l.map (· ^^^ 0x5c)).map bval).toArray) ∧ Below w.heap.size w w' := masked_any l 0x5c w hl
theorem info_rows : (Tryz.prog.info? 25).map (fun i => (i.zero, i.size, i.bytes)) = some (some (.slice none 0 0), 1, 24) := by kernel_rfl
theorem info_three {P : Program} {t : TypeId} {z : Value} {n m : Nat} (h : (P.info? t).map (fun i => (i.zero, i.size, i.bytes)) = some (some z, n, m)) : ∃ i, P.info? t = some i ∧ i.zero = some z ∧ i.size = n ∧ i.bytes = m := by
 cases hp : P.info? t with
 | none => rw [hp] at h; cases h
 | some i =>
  rw [hp] at h
  simp only [Option.map_some, Option.some.injEq, Prod.mk.injEq] at h
  exact ⟨i, rfl, h.1, h.2.1, h.2.2⟩
theorem rowB_cons {w : World} {v x : Value} {vals : List Value} {l : List UInt8} {ls : List (List UInt8)} (h : Row1 w v ([x] ++ vals)) (hx : Row1 w x (l.map bval)) (hn : vals.length = ls.length)
  (hall : ∀ (i : Nat) (y : Value) (m : List UInt8), vals[i]? = some y → ls[i]? = some m → Row1 w y (m.map bval)) : RowB w v (l :: ls) := by
 refine ⟨x :: vals, h, by simp [hn], fun i y m hy hm => ?_⟩
 cases i with
 | zero =>
  simp only [List.getElem?_cons_zero, Option.some.injEq] at hy hm
  subst hy hm
  exact hx
 | succ i =>
  simp only [List.getElem?_cons_succ] at hy hm
  exact hall i y m hy hm
theorem rows_one {w : World} {vals : List Value} {ls : List (List UInt8)} (hn : vals.length = ls.length)
  (hall : ∀ (i : Nat) (y : Value) (m : List UInt8), vals[i]? = some y → ls[i]? = some m → Row1 w y (m.map bval)) : ∀ u ∈ vals, u.oneCell' = true := fun u hu => by
 obtain ⟨i, hi, rfl⟩ := List.mem_iff_getElem.1 hu
 obtain ⟨a, n, c, e⟩ := row_form (hall i vals[i] (ls[i]'(by omega)) (List.getElem?_eq_getElem hi) (List.getElem?_eq_getElem (by omega)))
 rw [e]
 rfl
theorem MacSum_num (kv v : Value) (k : List UInt8) (ls : List (List UInt8)) (w : World) (hk : Row1 w kv (k.map bval)) (hv : RowB w v ls) (hkl : k.length ≤ 1099511627776) (hl : ls.flatten.length ≤ 1099511627712) (hn : ls.length ≤ 1000000) (hG : GlobR w) :
  Calls Tryz.prog 46 #[kv, v] w fun e w' => e = .returned (.agg ((hmac k ls.flatten).map bval).toArray) ∧ Below w.heap.size w w' := by
 obtain ⟨iq, hq0, hq1, hq2, hq3⟩ := info_three info_rows
 have HQ0 := jh hq0
 have HQ1 := jh hq1
 have HQ2 := jh hq2
 have HQ3 := jh hq3
 have HK := jh hk
 have HV := jh hv
 have HL := jh hl
 have HN := jh hn
 have HKL := jh hkl
 have HG := jh hG
 have HB0 := jh (Blk.made w (ints .u8 (List.replicate 32 0)) 23)
 have HE0 := jh (Ext.alloc w (.cells (ints .u8 (List.replicate 32 0)).toArray 23))
 clear hk hv hkl hl hn hG hq0 hq1 hq2 hq3
 go_enter Tryz.func46, Tryz.ntmps46
 go_upto_region 1 with (fail)
 change Code.wp _ _ _ _ (w.alloc (.cells (ints .u8 (List.replicate 32 0)).toArray 23))
 generalize hw1 : w.alloc (.cells (ints .u8 (List.replicate 32 0)).toArray 23) = w1 at *
 clear hw1
 go_wp2_with fail
 refine (blockOf_any kv k _ (HK.out.below HE0.out) HKL.out (HG.out.ext HE0.out)).mono ?_
 rintro e w2 ⟨rfl, hb⟩
 have HE2 := jh (HE0.out.trans hb)
 have HB2 := jh (HB0.out.same (hb.block _ HB0.out.lt))
 have hmac1 : hmac k ls.flatten = sha256 ((hPad (hKey k)).map (· ^^^ 0x5c) ++ sha256 ((hPad (hKey k)).map (· ^^^ 0x36) ++ ls.flatten)) := rfl
 have HPL := jh (hPad_length (hKey_length k))
 have HFIN := jh hmac1
 clear hb HB0 HE0 hmac1
 generalize hPad (hKey k) = p at *
 have HZ := jh (Blk.made w2 (ints .u8 (List.replicate 64 0)) 115)
 have HA := Ext.alloc w2 (.cells (ints .u8 (List.replicate 64 0)).toArray 115)
 have HE3 := jh (HE2.out.trans HA)
 have HB3 := jh (HB2.out.same (HA.block _ HB2.out.lt))
 have HIp : Hid ((Tryz.prog.info? 115).map (·.size) = some (p.map bval).length) := jh (mblock_size HPL.out)
 have HLp : Hid ((p.map bval).length = (ints .u8 (List.replicate 64 0)).length) := jh (by rw [List.length_map, HPL.out, zad, List.length_replicate])
 have HS2 := jh HE2.out.size
 have HLT := jh HB2.out.lt
 clear HA HB2
 go_upto_region 2 with (refine zac rfl _ _ _ rfl w2.heap.size (p.map bval) rfl rfl _ _ HZ.out HLp.out HIp.out (zag _) ?_; intro w4 hb4 hg4)
 have HE4 := jh (zae HE3.out hg4 HS2.out)
 have HB4 := jh (HB3.out.grown hg4 (fun e => by have h := Option.some.inj e; have := HLT.out; omega))
 have HP4 := jh hb4
 obtain ⟨A, hA⟩ : ∃ A, A = w.heap.size := ⟨_, rfl⟩
 obtain ⟨K, hK⟩ : ∃ K, K = w2.heap.size := ⟨_, rfl⟩
 have HAW : Hid (w.heap.size ≤ A) := jh (by omega)
 rw [← hA] at HB4 ⊢
 rw [← hK] at HP4 ⊢
 clear hb4 hg4 HZ HE3 HB3 HLT HS2 HE2 hA hK HLp
 refine zal 4 4 6 rfl (by kernel_rfl) (by kernel_rfl) (fun d v c a w h => by cases d <;> exact h) (by kernel_rfl) ?_
 refine zbp 115 _ K (p.map bval) _ (by rfl) rfl rfl (fun w hw => zbl HP4.out hw) Tryz.underlying115 rfl HIp.out ?_
 simp only [Act.put, nrm]
 refine zaj _ _ _ [.agg (p.map bval).toArray, .int .u8 54] (.agg ((p.map (· ^^^ 0x36)).map bval).toArray) (by rfl) rfl Tryz.call82 rfl (fun w hw => masked_in p w HPL.out) ?_
 simp only [Act.put, nrm]
 refine zbp 115 _ K (p.map bval) _ (by rfl) rfl rfl (fun w hw => zbl HP4.out hw) Tryz.underlying115 rfl HIp.out ?_
 simp only [Act.put, nrm]
 refine zaj _ _ _ [.agg (p.map bval).toArray, .int .u8 92] (.agg ((p.map (· ^^^ 0x5c)).map bval).toArray) (by rfl) rfl Tryz.call82 rfl (fun w hw => masked_out p w HPL.out) ?_
 simp only [Act.put, nrm]
 have HQI : Hid ((p.map (· ^^^ 0x36)).length = 64) := jh (by rw [List.length_map]; exact HPL.out)
 have HQL : Hid ((p.map (· ^^^ 0x5c)).length = 64) := jh (by rw [List.length_map]; exact HPL.out)
 generalize p.map (· ^^^ 0x36) = pp at *
 generalize p.map (· ^^^ 0x5c) = qq at *
 have HLq : Hid ((qq.map bval).length = (ints .u8 (List.replicate 64 0)).length) := jh (by rw [List.length_map, HQL.out, zad, List.length_replicate])
 have HLi : Hid ((pp.map bval).length = (ints .u8 (List.replicate 64 0)).length) := jh (by rw [List.length_map, HQI.out, zad, List.length_replicate])
 refine zbg (end_var2 (k := 4) 115 6 7 (.tmp 12) (.tmp 14) (ints .u8 (List.replicate 64 0)) (pp.map bval) (qq.map bval) rfl rfl rfl rfl (by kernel_rfl) (by kernel_rfl) (by kernel_rfl) (by kernel_rfl) (by kernel_rfl) (by kernel_rfl) (by kernel_rfl) (by kernel_rfl) (by kernel_rfl) (by kernel_rfl) rfl rfl rfl rfl rfl rfl rfl rfl (by decide) (fun w => by rw [Tryz.zeroValue115]; rfl) rfl rfl rfl rfl (by simp) (by simp) (fun p q => rfl) (fun p q => rfl) HLi.out HLq.out (mblock_size HQI.out) (mblock_size HQL.out) (zag _) (zag _) ?_)
 intro P Q w5 hpq hp hq hb1 hb2 he1
 simp only [Act.put, nrm]
 have HB5 := jh (zaa HB4.out he1)
 have HE5 := jh (HE4.out.trans he1)
 have HI5 := jh hb1
 have HQ5 := jh hb2
 have HPQ := jh hpq
 clear hpq hp hq hb1 hb2 he1 HB4 HE4 HP4 HIp HLq HLi
 -- the inner one
 have HXA := Ext.alloc w5 (.cells #[.slice (some ⟨P, 0, none⟩) 64 64] 25)
 have HOW := jh (own_made w5 #[.slice (some ⟨P, 0, none⟩) 64 64] w5.heap.size 25 1 [.slice (some ⟨P, 0, none⟩) 64 64] rfl rfl (by unfold maxLen; omega) (Nat.le_refl _))
 have HB6 := jh (zaa HB5.out HXA)
 have HI6 := jh (zaa HI5.out HXA)
 have HQ6 := jh (zaa HQ5.out HXA)
 have HE6 := jh (HE5.out.trans HXA)
 obtain ⟨vals, v1, v2, v3⟩ := HV.out
 have HONE := jh (rows_one v2 v3)
 have HV1 := jh (v1.below HE6.out)
 have HV2 := jh v2
 have HV3 := jh v3
 have HVN : Hid (vals.length ≤ 1000000) := jh (by rw [v2]; exact HN.out)
 have HSZ : Hid (w5.heap.size ≤ (w5.alloc (.cells #[.slice (some ⟨P, 0, none⟩) 64 64] 25)).heap.size) := jh HXA.size
 have HSW := jh HE5.out.size
 have HL5 := jh HB5.out.lt
 have HLI5 := jh HI5.out.lt
 have HLQ5 := jh HQ5.out.lt
 clear v1 v2 v3 HXA HB5 HI5 HQ5 HE5 HV
 go_wp2_with (at_builtin; refine zas rfl _ _ 57 rfl w5.heap.size 25 iq (.slice none 0 0) 24 Tryz.underlying57 HQ0.out HQ1.out HQ2.out HQ3.out rfl _ 1 _ rfl HOW.out rfl HV1.out HONE.out (by have := HVN.out; unfold maxLen; omega) (by have := HVN.out; omega) HSZ.out ?_; intro x6 w6 hown6 hgrow6)
 have HR6 := Row1.of_own hown6
 have hgrow6 : (w5.alloc (.cells #[.slice (some ⟨P, 0, none⟩) 64 64] 25)).grownBy w6 (some w5.heap.size) := hgrow6
 have HFAR : ∀ {c : Nat} {cs : List Value} {t : TypeId}, Blk (w5.alloc (.cells #[.slice (some ⟨P, 0, none⟩) 64 64] 25)) c cs t → c < w5.heap.size → Blk w6 c cs t := fun h hc => h.grown hgrow6 (fun e => by have h := Option.some.inj e; omega)
 have HB7 := jh (HFAR HB6.out HL5.out)
 have HI7 := jh (HFAR HI6.out HLI5.out)
 have HQ7 := jh (HFAR HQ6.out HLQ5.out)
 have HE7 := jh (zck HE6.out HOW.out HSW.out hgrow6)
 have HRB : Hid (RowB w6 x6 (pp :: ls)) := jh (rowB_cons HR6 (zbo (n := 64) HI7.out (by rw [List.length_map]; exact HQI.out) (by unfold maxLen; omega)) HV2.out (fun i y m h1 h2 => (HV3.out i y m h1 h2).below HE7.out))
 clear HR6 hgrow6 hown6 HFAR HB6 HI6 HQ6 HE6 HOW HSZ HSW HL5 HLI5 HLQ5 HV1 HV2 HV3 HVN HONE HPQ
 refine (Sum_val x6 (pp :: ls) (pp ++ ls.flatten) w6 HRB.out (by simp) (by rw [List.length_append, HQI.out]; have := HL.out; omega) (HG.out.ext HE7.out)).mono ?_
 rintro e w7 ⟨rfl, hb⟩
 have HB9 := jh (zaa HB7.out hb)
 have HQ9 := jh (zaa HQ7.out hb)
 have HE9 := jh (HE7.out.trans hb)
 have HDL := jh (zcb (pp ++ ls.flatten))
 clear hb HB7 HQ7 HE7 HI7 HRB
 generalize sha256 (pp ++ ls.flatten) = dd at *
 have HZ := jh (Blk.made w7 (ints .u8 (List.replicate 32 0)) 23)
 have HXA := Ext.alloc w7 (.cells (ints .u8 (List.replicate 32 0)).toArray 23)
 have HB10 := jh (zaa HB9.out HXA)
 have HQ10 := jh (zaa HQ9.out HXA)
 have HE10 := jh (HE9.out.trans HXA)
 have HS7 := jh HE9.out.size
 have HLB := jh HB9.out.lt
 have HLQ := jh HQ9.out.lt
 have HId : Hid ((Tryz.prog.info? 23).map (·.size) = some (dd.map bval).length) := jh (zaf HDL.out)
 have HLd : Hid ((dd.map bval).length = (ints .u8 (List.replicate 32 0)).length) := jh (by rw [List.length_map, HDL.out, zad, List.length_replicate])
 clear HXA HB9 HQ9 HE9
 go_upto_region 4 with (refine zac rfl _ _ _ rfl w7.heap.size (dd.map bval) rfl rfl _ _ HZ.out HLd.out HId.out (zag _) ?_; intro w8 hb8 hg8)
 have HA8 := jh (HB10.out.grown hg8 (fun e => by have h := Option.some.inj e; have := HLB.out; omega))
 have HQ8 := jh (HQ10.out.grown hg8 (fun e => by have h := Option.some.inj e; have := HLQ.out; omega))
 have HE8 := jh (zae HE10.out hg8 HS7.out)
 have HD8 := jh hb8
 obtain ⟨D, hD⟩ : ∃ D, D = w7.heap.size := ⟨_, rfl⟩
 rw [← hD] at HD8 ⊢
 clear hb8 hg8 HZ HB10 HQ10 HE10 HS7 HLB HLQ HId HLd hD
 have hA := HA8.out
 have lA := HAW.out
 have B0 : Ext w w8.drew := (HE8.out).trans (Ext.drew _)
 refine wp_region_held_drew (S := fun w' => Ext w w') (by kernel_rfl) B0 (fun hHeld => ?_)
 have hA := hA.below (Ext.drew _)
 have rq := (zbo (n := 64) HQ8.out (by rw [List.length_map]; exact HQL.out) (by unfold maxLen; omega)).below (Ext.drew _)
 have rd := (zbo (n := 32) HD8.out (by rw [List.length_map]; exact HDL.out) (by unfold maxLen; omega)).below (Ext.drew _)
 refine tke 0 (.slice (some ⟨Q, 0, none⟩) 64 64) rfl (zbm _ _ _ _ (.pointer (some ⟨Q, 0, none⟩)) (.slice (some ⟨Q, 0, none⟩) 64 64) none none (by rfl) rfl rfl rfl rfl (fun w => zbw Tryz.underlying115 Tryz.sizeOf5 (by omega) _ w)) hHeld ?_
 simp only [Act.put, nrm]
 refine tke 1 (.slice (some ⟨D, 0, none⟩) 32 32) rfl (zbm _ _ _ _ (.pointer (some ⟨D, 0, none⟩)) (.slice (some ⟨D, 0, none⟩) 32 32) none none (by rfl) rfl rfl rfl rfl (fun w => zbw Tryz.underlying23 Tryz.sizeOf5 (by omega) _ w)) hHeld ?_
 simp only [Act.put, nrm]
 refine rdy 2 rfl fun K hK => ?_
 refine zaw (by rfl) ?_
 refine zcw (some 22) _ _ _ _ rfl rfl #[.slice (some ⟨Q, 0, none⟩) 64 64, .slice (some ⟨D, 0, none⟩) 32 32] iq (.slice none 0 0) Tryz.underlying57 HQ0.out HQ1.out (by rw [HQ2.out]; decide) (by rw [HQ2.out]; decide) (by rw [HQ2.out]; kernel_rfl) ?_
 obtain ⟨m1, hm1⟩ : ∃ wNew, wNew = World.alloc w8.drew (.cells #[.slice (some ⟨Q, 0, none⟩) 64 64, .slice (some ⟨D, 0, none⟩) 32 32] 25) := ⟨_, rfl⟩
 rw [← hm1]
 have b1 : Ext w8.drew m1 := by rw [hm1]; exact Ext.alloc _ _
 obtain ⟨g1, hg1⟩ : ∃ gNew, gNew = (w8.drew).heap.size := ⟨_, rfl⟩
 rw [← hg1]
 have rq := rq.below b1
 have rd := rd.below b1
 have hA := hA.below b1
 have r1 : Row1 m1 (.slice (some ⟨g1, 0, none⟩) 2 2) [.slice (some ⟨Q, 0, none⟩) 64 64, .slice (some ⟨D, 0, none⟩) 32 32] := by rw [hm1, hg1]; exact Row1.made _ _ _ _ _ _ rfl rfl rfl (by unfold maxLen; omega)
 clear hm1 hg1
 have N1 : Ext w m1 := B0.trans b1
 refine hK.out _ _ N1 (fun hHeld => ?_)
 clear hK K
 try simp only [Act.put, nrm]
 refine rdy 3 rfl fun K hK => ?_
 go_simp
 refine (Sum_val _ _ (qq ++ dd) _ (rowB2 r1 rq rd) (by simp) (by rw [List.length_append, HQL.out, HDL.out]; omega) (HG.out.ext N1)).mono ?_
 rintro e m2 ⟨rfl, b2⟩
 have rq := rq.below b2
 have rd := rd.below b2
 have r1 := r1.below b2
 have hA := hA.below b2
 have N2 : Ext w m2 := N1.trans b2
 refine hK.out _ _ N2 (fun hHeld => ?_)
 clear hK K
 try simp only [Act.put, nrm]
 refine rdy 4 rfl fun K hK => ?_
 refine zaw (by rfl) ?_
 refine zau _ _ _ rfl A ((sha256 (qq ++ dd)).map bval) rfl rfl _ _ hA (by rw [List.length_map, zcb _]; rfl) (zaf (zcb _)) (zag _) ?_
 intro m3 hb3 hg3
 have N3 : Ext w m3 := zae N2 hg3 lA
 refine hK.out _ _ N3 (fun hHeld => ?_)
 clear hK K
 try simp only [Act.put, nrm]
 refine dne ?_
 have hfin := hb3
 have hNN := N3
 generalize m3 = w11 at hfin hNN ⊢
 have HIo : Hid ((Tryz.prog.info? 23).map (·.size) = some ((sha256 (qq ++ dd)).map bval).length) := jh (zaf (zcb _))
 go_wp2_with fail
 refine bodyPost_ret (zap rfl _ A _ _ _ _ rfl hfin Tryz.underlying23 HIo.out) rfl ?_
 exact ⟨by rw [HFIN.out], hNN⟩
theorem MacSum_one (kv x : Value) (k l : List UInt8) (w : World) (hk : Row1 w kv (k.map bval)) (hx : Row1 w x (l.map bval)) (hkl : k.length ≤ 1099511627776) (hl : l.length ≤ 1099511627712) (hG : GlobR w) :
  Calls Tryz.prog 46 #[kv, .slice (some ⟨w.heap.size, 0, none⟩) 1 1] (w.alloc (.cells #[x] 25)) fun e w' => e = .returned (.agg ((hmac k l).map bval).toArray) ∧ Ext w w' := by
 have he := Ext.alloc w (.cells #[x] 25)
 have h := MacSum_num kv _ k [l] _ (hk.below he) (rowB1 (Row1.made w #[x] 25 _ 1 [x] rfl rfl rfl (by unfold maxLen; omega)) (hx.below he)) hkl (by simpa using hl) (by simp) (hG.ext he)
 refine h.mono fun e w' hh => ⟨?_, he.trans hh.2⟩
 rw [hh.1]
 simp
theorem MacSum_val (kv v : Value) (k : List UInt8) (ls : List (List UInt8)) (l : List UInt8) (w : World) (hk : Row1 w kv (k.map bval)) (hv : RowB w v ls) (hf : ls.flatten = l) (hkl : k.length ≤ 1099511627776) (hl : l.length ≤ 1099511627712) (hG : GlobR w) (hn : ls.length ≤ 1000000 := by simp) :
  Calls Tryz.prog 46 #[kv, v] w fun e w' => e = .returned (.agg ((hmac k l).map bval).toArray) ∧ Below w.heap.size w w' := by
 subst hf
 exact MacSum_num kv v k ls w hk hv hkl hl hn hG
def eB (k info : List UInt8) (n j : Nat) : List UInt8 := (hkAll k info j).take n ++ List.replicate (n - 32 * j) 0
theorem eB_length (k info : List UInt8) (n j : Nat) : (eB k info n j).length = n := by
 unfold eB
 rw [List.length_append, List.length_take, List.length_replicate, zcr]
 omega
theorem eB_zero (k info : List UInt8) (n : Nat) : eB k info n 0 = zB n := by
 simp [eB, hkAll, zB]
theorem eB_full (k info : List UInt8) {n j : Nat} (h : n ≤ 32 * j) : eB k info n j = hExpand k info n := by
 unfold eB
 rw [hkAll_take k info j (by omega), show n - 32 * j = 0 by omega, List.replicate_zero, List.append_nil]
theorem eB_step (k info : List UInt8) {n j : Nat} (h : 32 * j < n) :
  splice ((eB k info n j).map bval) (32 * j) (((hkT k info (j + 1)).take (n - 32 * j)).map bval) = (eB k info n (j + 1)).map bval := by
 have h1 := zcr k info j
 have h2 := hkT_length k info j
 have h3 : ((hkT k info (j + 1)).take (n - 32 * j)).length = min (n - 32 * j) 32 := by rw [List.length_take, h2]
 rw [splice_bytes]
 unfold eB
 rw [hkAll, h3, List.take_of_length_le (l := hkAll k info j) (by omega), List.take_append_of_le_length (by omega), List.take_of_length_le (l := hkAll k info j) (by omega), List.drop_append, List.drop_of_length_le (l := hkAll k info j) (by omega), List.nil_append, List.drop_replicate, List.take_append, List.take_of_length_le (l := hkAll k info j) (by omega), h1]
 congr 3
 omega
theorem cut_tail {P : Program} {t e : TypeId} (ht : P.underlying t = some (.slice e)) (hs : ∀ w, (sizeOf e).run P w = .ok 1 w) (M n i : Nat) (h : i < n) (w : World) :
  (Instr.sliceAt t (.slice (some ⟨M, 0, none⟩) n n) (some (.int .i64 (i : Int))) none none).run P w = .ok (.slice (some ⟨M, i, none⟩) (n - i) (n - i)) w := by
 have e2 : P.elem t = e := by unfold Program.elem; rw [ht]
 have ht2 : P.underlying t = some (.slice (P.elem t)) := by rw [e2]; exact ht
 rw [run_sliceAt_slice w t _ _ _ _ ht2, run_slice_l (ht := ht2) (kl := .i64) (l := (i : Int)) (h0 := by omega) (h1 := by omega), e2, hs]
 simp [sliced, Addr.add, show ¬ n = i by omega]
 omega
theorem MacSum_three (kv t v : Value) (k a b : List UInt8) (y : UInt8) (z : Int) (w : World) (hz : z = (y.toNat : Int)) (hk : Row1 w kv (k.map bval)) (ht : Row1 w t (a.map bval)) (hv : Row1 w v (b.map bval)) (hkl : k.length ≤ 1099511627776) (hal : a.length ≤ 32) (hbl : b.length ≤ 1099511627000) (hG : GlobR w) :
  Calls Tryz.prog 46 #[kv, .slice (some ⟨w.heap.size + 1, 0, none⟩) 3 3] ((w.alloc (.cells #[.int .u8 z] 5)).alloc (.cells #[t, v, .slice (some ⟨w.heap.size, 0, none⟩) 1 1] 25)) fun e w' => e = .returned (.agg ((hmac k (a ++ b ++ [y])).map bval).toArray) ∧ Ext w w' := by
 subst hz
 have e1 := Ext.alloc w (.cells #[.int .u8 (y.toNat : Int)] 5)
 have r1 : Row1 (w.alloc (.cells #[.int .u8 (y.toNat : Int)] 5)) (.slice (some ⟨w.heap.size, 0, none⟩) 1 1) ([y].map bval) := Row1.made w _ _ _ 1 _ rfl rfl rfl (by unfold maxLen; omega)
 have hs : (w.alloc (.cells #[.int .u8 (y.toNat : Int)] 5)).heap.size = w.heap.size + 1 := by simp
 have e2 := Ext.alloc (w.alloc (.cells #[.int .u8 (y.toNat : Int)] 5)) (.cells #[t, v, .slice (some ⟨w.heap.size, 0, none⟩) 1 1] 25)
 have e3 := e1.trans e2
 have h := MacSum_val kv (.slice (some ⟨w.heap.size + 1, 0, none⟩) 3 3) k [a, b, [y]] (a ++ b ++ [y]) _ (hk.below e3) (rowB3 (Row1.made _ #[t, v, .slice (some ⟨w.heap.size, 0, none⟩) 1 1] 25 _ 3 _ hs rfl rfl (by unfold maxLen; omega)) (ht.below e3) (hv.below e3) (r1.below e2)) (by simp) hkl (by simp only [List.length_append, List.length_cons, List.length_nil]; omega) (hG.ext e3)
 exact h.mono fun e w' hh => ⟨hh.1, e3.trans hh.2⟩
theorem DExtract_num (kv bv : Value) (k m : List UInt8) (w : World) (hk : Row1 w kv (k.map bval)) (hm : Row1 w bv (m.map bval)) (hkl : k.length ≤ 1099511627000) (hml : m.length ≤ 1099511627000) (hG : GlobR w) :
  Calls Tryz.prog 28 #[kv, bv] w fun e w' => e = .returned (.agg ((hmac k m).map bval).toArray) ∧ Below w.heap.size w w' := by
 obtain ⟨ab, cb, hmv, _, _, _, _⟩ := id hm
 rw [List.length_map] at hmv
 subst hmv
 have HK := jh hk
 have HM := jh hm
 have HG := jh hG
 have HB0 := jh (Blk.made w (ints .u8 (List.replicate 32 0)) 23)
 have HE0 := jh (Ext.alloc w (.cells (ints .u8 (List.replicate 32 0)).toArray 23))
 clear hk hm hG
 go_enter Tryz.func28, Tryz.ntmps28
 go_upto_region 1 with (fail)
 change Code.wp _ _ _ _ (w.alloc (.cells (ints .u8 (List.replicate 32 0)).toArray 23))
 generalize hw1 : w.alloc (.cells (ints .u8 (List.replicate 32 0)).toArray 23) = w1 at *
 clear hw1
 go_wp2_with fail
 refine (MacSum_one kv _ k m w1 (HK.out.below HE0.out) (HM.out.below HE0.out) (by omega) (by omega) (HG.out.ext HE0.out)).mono ?_
 rintro e w3 ⟨rfl, hb⟩
 have HE3 := jh (HE0.out.trans hb)
 have HB3 := jh (HB0.out.same (hb.block _ HB0.out.lt))
 obtain ⟨o2, ho2⟩ : ∃ o2, o2 = hmac k m := ⟨_, rfl⟩
 rw [← ho2]
 have HL : Hid (o2.length = 32) := jh (by rw [ho2]; exact zbr _ _)
 have HO2 := jh ho2
 clear ho2 hb
 have HIo : Hid ((Tryz.prog.info? 23).map (·.size) = some (o2.map bval).length) := jh (zaf HL.out)
 have HLo : Hid ((o2.map bval).length = (ints .u8 (List.replicate 32 0)).length) := jh (by rw [List.length_map, HL.out, zad, List.length_replicate])
 go_wp2_with (refine zac rfl _ _ _ rfl w.heap.size (o2.map bval) rfl rfl _ _ HB3.out HLo.out HIo.out (zag _) ?_; intro w10 hb10 hg10)
 refine bodyPost_ret (zap rfl _ w.heap.size _ _ _ _ rfl hb10 Tryz.underlying23 HIo.out) rfl ?_
 exact ⟨by rw [HO2.out], zae HE3.out hg10 (Nat.le_refl _)⟩
theorem DExpand_num (iv : Value) (kb info : List UInt8) (n : Int) (w : World) (hk : kb.length = 32) (hi : Row1 w iv (info.map bval)) (hil : info.length ≤ 1099511627000) (hn1 : -9223372036854775808 ≤ n) (hn2 : n ≤ 9223372036854775807) (hG : GlobR w) :
  Calls Tryz.prog 45 #[.agg (kb.map bval).toArray, iv, .int .i64 n] w fun e w' => ∃ x, e = .returned (.tuple #[x, .int .i64 (dErr n)]) ∧ Row1 w' x ((dOut kb info n).map bval) ∧ Below w.heap.size w w' := by
 obtain ⟨i0, hi0, hz0, hz1, hz2⟩ := info_parts Tryz.info5
 obtain ⟨ai, ci, hiv, _, _, _, _⟩ := id hi
 rw [List.length_map] at hiv
 subst hiv
 have HI0 := jh hi0
 have HZ0 := jh hz0
 have HZ1 := jh hz1
 have HZ2 := jh hz2
 have HI := jh hi
 have HIL := jh hil
 have HG := jh hG
 have HE0 := jh (Ext.alloc w (.cells (kb.map bval).toArray 23))
 have HKB := jh (Blk.made w (kb.map bval) 23)
 have HSZ : Hid ((w.alloc (.cells (kb.map bval).toArray 23)).heap.size = w.heap.size + 1) := jh (by simp)
 have HKL := jh hk
 clear hi hG hk hil hi0 hz0 hz1 hz2
 go_enter Tryz.func45, Tryz.ntmps45
 go_upto_region 1 with (fail)
 change Code.wp _ _ _ _ (w.alloc (.cells (kb.map bval).toArray 23))
 generalize hw1 : w.alloc (.cells (kb.map bval).toArray 23) = w1 at *
 clear hw1
 by_cases h0 : n < 0
 ·have hb : dBad n := Or.inl h0
  go_wp2_with fail
  go_ret2
  exact ⟨.slice none 0 0, by rw [dErr_bad hb]; rfl, by rw [dOut_bad _ _ hb]; exact Row1.nil _, HE0.out⟩
 ·by_cases h1 : 8160 < n
  ·have hb : dBad n := Or.inr h1
   have d0 : decide (n < 0) = false := decide_eq_false h0
   go_wp2_with fail
   go_ret2
   exact ⟨.slice none 0 0, by rw [dErr_bad hb]; rfl, by rw [dOut_bad _ _ hb]; exact Row1.nil _, HE0.out⟩
  ·obtain ⟨q, rfl⟩ : ∃ q : Nat, n = (q : Int) := ⟨n.toNat, by omega⟩
   have d0 : decide ((q : Int) < 0) = false := decide_eq_false h0
   have d1 : decide (8160 < (q : Int)) = false := decide_eq_false h1
   have HQ : Hid (q ≤ 8160) := jh (by omega)
   clear h0 h1 hn1 hn2
   have hmk := zdi w1 25 5 Tryz.underlying25 i0 HI0.out HZ0.out HZ1.out HZ2.out q (by have := HQ.out; omega)
   have HMA := jh (Blk.made w1 ((zB q).map bval) 5)
   have HEM := jh (Ext.alloc w1 (.cells ((zB q).map bval).toArray 5))
   go_upto_region 4 with (fail)
   change Code.wp _ _ _ _ (w1.alloc (.cells ((zB q).map bval).toArray 5))
   clear hmk
   generalize hw2 : w1.alloc (.cells ((zB q).map bval).toArray 5) = w2 at *
   clear hw2
   have hma := HMA.out
   rw [HSZ.out] at hma ⊢
   have HE2 := jh (HE0.out.trans HEM.out)
   have HKB2 := jh (HKB.out.below HEM.out)
   have HM2 := jh hma
   clear hma HMA HSZ HEM HKB
   obtain ⟨K, hK⟩ : ∃ K, K = w.heap.size := ⟨_, rfl⟩
   obtain ⟨M, hM⟩ : ∃ M, M = w.heap.size + 1 := ⟨_, rfl⟩
   have HMW : Hid (w.heap.size ≤ M) := jh (by omega)
   have HKM : Hid (K ≠ M) := jh (by omega)
   rw [← hM] at HM2 ⊢
   rw [← hK] at HKB2 ⊢
   clear hK hM
   obtain ⟨n, hn⟩ : ∃ n, n = q := ⟨_, rfl⟩
   rw [← hn] at HM2 HQ ⊢
   have HN := jh hn
   clear hn d0 d1
   go_wp2_with fail
   go_loopw [9, 10, 11] (fun tv dv iv' wr => ∃ (j : Nat), j ≤ 255 ∧ dv = .int .i64 ((min (32 * j) n : Nat) : Int) ∧ iv' = .int .u8 (((j + 1) % 256 : Nat) : Int) ∧ Row1 wr tv ((hkT kb info j).map bval) ∧ Blk wr M ((eB kb info n j).map bval) 5 ∧ Blk wr K (kb.map bval) 23 ∧ Ext w wr) (fun _ dv _ _ => n - (intOf dv).toNat)
   case atStart => exact ⟨0, by omega, by simp, rfl, by simpa [hkT] using Row1.nil _, by rw [eB_zero]; exact HM2.out, HKB2.out, HE2.out⟩
   case round =>
    clear HM2 HKB2 HE2
    obtain ⟨j, hj, rfl, rfl, ht, hm, hkb, hE⟩ := hrel
    obtain ⟨atv, ctv, htv, _, _, _, _⟩ := id ht
    rw [List.length_map] at htv
    subst htv
    have HE := jh hE
    have HT := jh ht
    have HM := jh hm
    have HKB := jh hkb
    clear hE ht hm hkb
    by_cases hlt : 32 * j < n
    ·have hmn : min (32 * j) n = 32 * j := by omega
     have hlt2 : ((32 * j : Nat) : Int) < (n : Int) := by omega
     rw [hmn]
     have HIN := jh (HI.out.below HE.out)
     have HTL := jh (hkT_le kb info j)
     have HJ := jh hj
     have HLT := jh hlt
     clear hj hmn hlt
     obtain ⟨i, hi⟩ : ∃ i, i = (j + 1) % 256 := ⟨_, rfl⟩
     rw [← hi]
     have HIJ := jh hi
     have HIB : Hid ((i : Int) = ((UInt8.ofNat i).toNat : Int)) := jh (by rw [UInt8.toNat_ofNat']; omega)
     have HKR := jh (zbo (n := 32) HKB.out (by rw [List.length_map]; exact HKL.out) (by unfold maxLen; omega))
     have hmc : hkT kb info (j + 1) = hmac kb (hkT kb info j ++ info ++ [UInt8.ofNat i]) := by rw [hi]; rfl
     have HMC := jh hmc
     clear hi hmc
     go_wp2_with fail
     refine (MacSum_three _ _ _ kb (hkT kb info j) info (UInt8.ofNat i) _ wr HIB.out HKR.out HT.out HIN.out (by rw [HKL.out]; omega) HTL.out HIL.out (HG.out.ext HE.out)).mono ?_
     rintro e w4 ⟨rfl, hb⟩
     rw [← HMC.out]
     have HE4 := jh (HE.out.trans hb)
     have HM4 := jh (HM.out.below hb)
     have HKB4 := jh (HKB.out.below hb)
     clear hb HT HIN HTL HKR HMC HM HKB
     obtain ⟨o, ho⟩ : ∃ o, o = hkT kb info (j + 1) := ⟨_, rfl⟩
     rw [← ho]
     have HO := jh ho
     have HOL : Hid (o.length = 32) := jh (by rw [ho]; exact hkT_length _ _ _)
     clear ho
     have HZ := jh (Blk.made w4 (ints .u8 (List.replicate 32 0)) 23)
     have HA := jh (Ext.alloc w4 (.cells (ints .u8 (List.replicate 32 0)).toArray 23))
     have HIo : Hid ((Tryz.prog.info? 23).map (·.size) = some (o.map bval).length) := jh (zaf HOL.out)
     have HLo : Hid ((o.map bval).length = (ints .u8 (List.replicate 32 0)).length) := jh (by rw [List.length_map, HOL.out, zad, List.length_replicate])
     have HLM := jh HM4.out.lt
     have HLK := jh HKB4.out.lt
     go_upto_region 9 with (refine zac rfl _ _ _ rfl w4.heap.size (o.map bval) rfl rfl _ _ HZ.out HLo.out HIo.out (zag _) ?_; intro w7 hb7 hg7)
     have HC := jh hb7
     have HM := jh ((HM4.out.below HA.out).grown hg7 (fun e => by have h := Option.some.inj e; have := HLM.out; omega))
     have HKB := jh ((HKB4.out.below HA.out).grown hg7 (fun e => by have h := Option.some.inj e; have := HLK.out; omega))
     have HE7 := jh (zae (HE4.out.trans HA.out) hg7 HE4.out.size)
     have HCM : Hid (w4.heap.size ≠ M) := jh (by have := HLM.out; omega)
     obtain ⟨C, hC⟩ : ∃ C, C = w4.heap.size := ⟨_, rfl⟩
     rw [← hC] at HC HCM ⊢
     clear hb7 hg7 hC HZ HA HLo HLM HLK HM4 HKB4 HE4
     have HRO := jh (zbo (n := 32) HC.out (by rw [List.length_map]; exact HOL.out) (by unfold maxLen; omega))
     have HTK : Hid (o.take (n - 32 * j) = o.take (o.take (n - 32 * j)).length) := jh (by rw [List.length_take]; exact (List.take_eq_take_iff.2 (by omega)))
     have HTL2 : Hid ((o.take (n - 32 * j)).length ≤ o.length) := jh (by rw [List.length_take]; omega)
     have HCL : Hid (((o.take (n - 32 * j)).map bval).length = Nat.min 32 (n - 32 * j)) := jh (by rw [List.length_map, List.length_take, HOL.out]; exact Nat.min_comm _ _)
     have HGI : Hid (goInt ((o.take (n - 32 * j)).map bval).length = .int .i64 ((min (n - 32 * j) 32 : Nat) : Int)) := jh (by rw [List.length_map, List.length_take, HOL.out]; rfl)
     have HFIT : Hid (32 * j + ((o.take (n - 32 * j)).map bval).length ≤ ((eB kb info n j).map bval).length) := jh (by rw [List.length_map, List.length_map, List.length_take, HOL.out, eB_length]; have := HLT.out; omega)
     have HADD : Hid (IntKind.i64.wrap (((32 * j : Nat) : Int) + ((min (n - 32 * j) 32 : Nat) : Int)) = ((min (32 * (j + 1)) n : Nat) : Int)) := jh (by have := HLT.out; have := HQ.out; rw [IntKind.wrap_i64]; omega)
     have HCUT : Hid (∀ wx, (Instr.sliceAt 25 (.slice (some ⟨M, 0, none⟩) n n) (some (.int .i64 ((32 * j : Nat) : Int))) none none).run Tryz.prog wx = .ok (.slice (some ⟨M, 32 * j, none⟩) (n - 32 * j) (n - 32 * j)) wx) := jh (fun wx => cut_tail Tryz.underlying25 Tryz.sizeOf5 M n (32 * j) HLT.out wx)
     have B0 : Ext w w7.drew := (HE7.out).trans (Ext.drew _)
     refine wp_region_held_drew (S := fun w' => Ext w w') (by kernel_rfl) B0 (fun hHeld => ?_)
     refine tke 0 (.int .i64 ((32 * j : Nat) : Int)) rfl (zbv _ (.int .i64 ((32 * j : Nat) : Int)) (by rfl) rfl rfl) hHeld ?_
     simp only [Act.put, nrm]
     refine tke 1 (.slice (some ⟨M, 0, none⟩) n n) rfl (zbv _ (.slice (some ⟨M, 0, none⟩) n n) (by rfl) rfl rfl) hHeld ?_
     simp only [Act.put, nrm]
     refine tke 2 (.int .i64 ((32 * j : Nat) : Int)) rfl (zbv _ (.int .i64 ((32 * j : Nat) : Int)) (by rfl) rfl rfl) hHeld ?_
     simp only [Act.put, nrm]
     refine tke 3 (.slice (some ⟨M, 32 * j, none⟩) (n - 32 * j) (n - 32 * j)) rfl (zbm _ _ _ _ (.slice (some ⟨M, 0, none⟩) n n) (.slice (some ⟨M, 32 * j, none⟩) (n - 32 * j) (n - 32 * j)) (some (.int .i64 ((32 * j : Nat) : Int))) none (by rfl) rfl rfl rfl rfl HCUT.out) hHeld ?_
     simp only [Act.put, nrm]
     refine tke 4 (.slice (some ⟨C, 0, none⟩) 32 32) rfl (zbm _ _ _ _ (.pointer (some ⟨C, 0, none⟩)) (.slice (some ⟨C, 0, none⟩) 32 32) none none (by rfl) rfl rfl rfl rfl (fun w => zbw Tryz.underlying23 Tryz.sizeOf5 (by omega) _ w)) hHeld ?_
     simp only [Act.put, nrm]
     refine rdy 5 rfl fun K hK => ?_
     refine zaw (by rfl) ?_
     refine zdl _ _ 25 25 rfl 5 Tryz.underlying25 one_u8 _ _ _ _ _ _ rfl rfl M (32 * j) _ _ (HM.out.below (Ext.drew _)) ((o.take (n - 32 * j)).map bval) HCL.out (fun h => ⟨rfl, row_src HRO.out (o.take (n - 32 * j)) HTK.out HTL2.out (Ext.drew _) h⟩) HFIT.out (zag _) ?_
     intro m1 hb1 hg1
     have N1 : Ext w m1 := zae B0 hg1 HMW.out
     rw [show goInt ((o.take (n - 32 * j)).map bval).length = .int .i64 ((min (n - 32 * j) 32 : Nat) : Int) from HGI.out]
     refine hK.out _ _ N1 (fun hHeld => ?_)
     clear hK K
     try simp only [Act.put, nrm]
     refine tke 6 (.int .i64 ((min (32 * (j + 1)) n : Nat) : Int)) rfl (yi_add .i64 _ _ _ _ _ _ _ HADD.out (by rfl) rfl rfl rfl) hHeld ?_
     simp only [Act.put, nrm]
     refine rdy 7 rfl fun K hK => ?_
     go_simp
     refine hK.out _ _ N1 (fun hHeld => ?_)
     clear hK K
     try simp only [Act.put, nrm]
     refine dne ?_
     have hb := hb1
     rw [HO.out, eB_step kb info HLT.out] at hb
     have HM1 := jh hb
     have HC1 := jh ((HC.out.below (Ext.drew _)).grown hg1 (fun e => by have h := Option.some.inj e; exact HCM.out h.symm))
     have HKB1 := jh ((HKB.out.below (Ext.drew _)).grown hg1 (fun e => by have h := Option.some.inj e; exact HKM.out h.symm))
     have HE1 := jh N1
     clear hb hb1 hg1 N1 B0 HC HM HKB HE7 HRO HTK HTL2 HCL HGI HFIT HADD HCUT
     go_wp2_with fail
     go_roundw
     case rel =>
      refine ⟨j + 1, by have := HLT.out; have := HQ.out; omega, rfl, ?_, ?_, HM1.out, HKB1.out, HE1.out⟩
      ·rw [HIJ.out]; congr 1; omega
      ·rw [← HO.out]; exact zbo (n := 32) HC1.out (by rw [List.length_map]; exact HOL.out) (by unfold maxLen; omega)
     case measure => have := HLT.out; simp [intOf]; omega
    ·have hmn : min (32 * j) n = n := by omega
     have hlt2 : ¬ ((n : Int) < (n : Int)) := by omega
     have hfin : eB kb info n j = hExpand kb info n := eB_full kb info (by omega)
     rw [hmn]
     have hb := HM.out
     rw [hfin] at hb
     have HB := jh (zbo (n := n) hb (by rw [List.length_map, zat]) (by have := HQ.out; unfold maxLen; omega))
     clear hb hfin HM hmn hlt
     go_wp2_with fail
     go_ret2
     have hq : n ≤ 8160 := HQ.out
     exact ⟨_, by rw [← HN.out, dErr_good hq]; rfl, by rw [← HN.out, dOut_good _ _ hq]; exact HB.out, HE.out⟩
theorem DKey_num (kb nm : List UInt8) (w : World) (hk : kb.length = 32) (hnl : nm.length ≤ 1099511627000) (hG : GlobR w) :
  Calls Tryz.prog 27 #[.agg (kb.map bval).toArray, .string ⟨nm.toArray⟩] w fun e w' => e = .returned (.agg ((hExpand kb nm 32).map bval).toArray) ∧ Below w.heap.size w w' := by
 have HG := jh hG
 have HNL := jh hnl
 have HBX := jh (boxes3 w (kb.map bval) ((zB 32).map bval) ((zB 32).map bval) 23 23 23)
 have HIK : Hid ((Tryz.prog.info? 23).map (·.size) = some (kb.map bval).length) := jh (zaf hk)
 have HKL := jh hk
 clear hG hk hnl
 go_enter Tryz.func27, Tryz.ntmps27
 go_upto_region 2 with (fail)
 change Code.wp _ _ _ _ (((w.alloc (.cells (kb.map bval).toArray 23)).alloc (.cells ((zB 32).map bval).toArray 23)).alloc (.cells ((zB 32).map bval).toArray 23))
 generalize ((w.alloc (.cells (kb.map bval).toArray 23)).alloc (.cells ((zB 32).map bval).toArray 23)).alloc (.cells ((zB 32).map bval).toArray 23) = w2 at *
 obtain ⟨b1, b2, b3, b4⟩ := HBX.out
 obtain ⟨K, hK⟩ : ∃ K, K = w.heap.size := ⟨_, rfl⟩
 obtain ⟨A5, hA5⟩ : ∃ A5, A5 = w.heap.size + 2 := ⟨_, rfl⟩
 obtain ⟨R4, hR4⟩ : ∃ R4, R4 = w.heap.size + 1 := ⟨_, rfl⟩
 have HKW : Hid (w.heap.size ≤ A5) := jh (by omega)
 have HRW : Hid (w.heap.size ≤ R4) := jh (by omega)
 have HRA : Hid (R4 ≠ A5) := jh (by omega)
 try rw [show w.heap.size + 1 + 1 = w.heap.size + 2 from rfl] at b3 ⊢
 rw [← hA5] at b3 ⊢
 rw [← hR4] at b2 ⊢
 rw [← hK] at b1 ⊢
 have HKB := jh b1
 have HRB := jh b2
 have HAB := jh b3
 have HE2 : Hid (Ext w w2) := jh b4
 clear hK hA5 hR4 b1 b2 b3 b4 HBX
 obtain ⟨a1, c1, m1, hcv1, r1, e1⟩ := run_bytes_row (P := Tryz.prog) w2 9 25 5 nm Tryz.underlying9 Tryz.underlying25 Tryz.underlying5 (by have := HNL.out; unfold maxLen; omega)
 have HR1 := jh r1
 have HE1 := jh (HE2.out.trans e1)
 have HRB1 := jh (HRB.out.below e1)
 have HAB1 := jh (HAB.out.below e1)
 clear r1 e1
 go_wp2_with (refine zab rfl _ _ rfl K rfl _ _ _ _ HKB.out Tryz.underlying23 HIK.out ?_)
 refine (DExpand_num _ kb nm 32 m1 HKL.out HR1.out HNL.out (by decide) (by decide) (HG.out.ext HE1.out)).mono ?_
 rintro e m2 ⟨x, rfl, hr, hb⟩
 have hx32 : dOut kb nm 32 = hExpand kb nm 32 := dOut_good kb nm (n := 32) (by omega)
 rw [show dErr 32 = 0 from rfl]
 rw [hx32] at hr
 have HE3 := jh (HE1.out.trans hb)
 have HRB3 := jh (HRB1.out.below hb)
 have HAB3 := jh (HAB1.out.below hb)
 obtain ⟨o, ho⟩ : ∃ o, o = hExpand kb nm 32 := ⟨_, rfl⟩
 rw [← ho] at hr
 have HL : Hid (o.length = 32) := jh (by rw [ho]; exact zat _ _ _)
 obtain ⟨a2, c2, hx2, _, _, _, _⟩ := id hr
 rw [List.length_map, HL.out] at hx2
 subst hx2
 have HR3 := jh hr
 have HO := jh ho
 clear hr ho hb hx32 hcv1 HR1
 have HSI := jh (row_src HR3.out o (by rw [List.take_length]) (Nat.le_refl _) (Ext.refl m2))
 have HCN : Hid ((o.map bval).length = Nat.min 32 32) := jh (by rw [List.length_map, HL.out]; rfl)
 have HFT : Hid (0 + (o.map bval).length ≤ ((zB 32).map bval).length) := jh (by rw [List.length_map, List.length_map, HL.out, zch]; omega)
 go_upto_region 4 with (refine zcx rfl _ _ 25 25 rfl 5 Tryz.underlying25 one_u8 _ _ _ _ _ _ rfl rfl A5 0 _ _ HAB3.out (o.map bval) HCN.out (fun h => ⟨rfl, HSI.out h⟩) HFT.out (zag _) ?_; intro m3 hb3 hg3)
 have hsp := zdb 32 o
 rw [show List.replicate (32 - o.length) (0 : UInt8) = [] from by rw [HL.out]; rfl, List.append_nil] at hsp
 rw [hsp] at hb3
 have HA := jh hb3
 have HRB4 := jh (HRB3.out.grown hg3 (fun e => by have h := Option.some.inj e; exact HRA.out h.symm))
 have HE4 := jh (zae HE3.out hg3 HKW.out)
 have HIO : Hid ((Tryz.prog.info? 23).map (·.size) = some (o.map bval).length) := jh (zaf HL.out)
 have HLO : Hid ((o.map bval).length = ((zB 32).map bval).length) := jh (by rw [List.length_map, List.length_map, HL.out, zch])
 clear hsp hb3 hg3
 go_wp2_with (first | (refine zab rfl _ _ rfl A5 rfl _ _ _ _ HA.out Tryz.underlying23 HIO.out ?_) | (refine zac rfl _ _ _ rfl R4 (o.map bval) rfl rfl _ _ HRB4.out HLO.out HIO.out (zag _) ?_; intro w12 hb12 hg12))
 refine bodyPost_ret (zap rfl _ R4 _ _ _ _ rfl hb12 Tryz.underlying23 HIO.out) rfl ?_
 exact ⟨by rw [HO.out], zae HE4.out hg12 HRW.out⟩
section
theorem w_same {l : List W32} {i : Nat} {v : W32} (h : i < l.length) : (l.set i v).getD i 0#32 = v := by simp [List.getD, h]
theorem w_far {l : List W32} {i j : Nat} {v : W32} (h : i ≠ j) : (l.set i v).getD j 0#32 = l.getD j 0#32 := by simp [List.getD, List.getElem?_set_ne h]
structure QI (s : List W32) (a b c d : Nat) (l : List W32) (A B C D : W32) : Prop where
 len : l.length = 16
 ea : l.getD a 0#32 = A
 eb : l.getD b 0#32 = B
 ec : l.getD c 0#32 = C
 ed : l.getD d 0#32 = D
 rest : ∀ i, i ≠ a → i ≠ b → i ≠ c → i ≠ d → l.getD i 0#32 = s.getD i 0#32
section
variable {s l : List W32} {a b c d : Nat} {A B C D : W32}
theorem QI.set_a (h : QI s a b c d l A B C D) (ha : a < 16) (hab : a ≠ b) (hac : a ≠ c) (had : a ≠ d) (hbc : b ≠ c) (hbd : b ≠ d) (hcd : c ≠ d) (v : W32) : QI s a b c d (l.set a v) v B C D :=
 ⟨by rw [List.length_set]; exact h.len, w_same (by rw [h.len]; exact ha), by rw [w_far hab]; exact h.eb, by rw [w_far hac]; exact h.ec, by rw [w_far had]; exact h.ed, fun i h1 h2 h3 h4 => by rw [w_far (Ne.symm h1)]; exact h.rest i h1 h2 h3 h4⟩
theorem QI.set_b (h : QI s a b c d l A B C D) (ha : b < 16) (hab : a ≠ b) (hac : a ≠ c) (had : a ≠ d) (hbc : b ≠ c) (hbd : b ≠ d) (hcd : c ≠ d) (v : W32) : QI s a b c d (l.set b v) A v C D :=
 ⟨by rw [List.length_set]; exact h.len, by rw [w_far (Ne.symm hab)]; exact h.ea, w_same (by rw [h.len]; exact ha), by rw [w_far hbc]; exact h.ec, by rw [w_far hbd]; exact h.ed, fun i h1 h2 h3 h4 => by rw [w_far (Ne.symm h2)]; exact h.rest i h1 h2 h3 h4⟩
theorem QI.set_c (h : QI s a b c d l A B C D) (ha : c < 16) (hab : a ≠ b) (hac : a ≠ c) (had : a ≠ d) (hbc : b ≠ c) (hbd : b ≠ d) (hcd : c ≠ d) (v : W32) : QI s a b c d (l.set c v) A B v D :=
 ⟨by rw [List.length_set]; exact h.len, by rw [w_far (Ne.symm hac)]; exact h.ea, by rw [w_far (Ne.symm hbc)]; exact h.eb, w_same (by rw [h.len]; exact ha), by rw [w_far hcd]; exact h.ed, fun i h1 h2 h3 h4 => by rw [w_far (Ne.symm h3)]; exact h.rest i h1 h2 h3 h4⟩
theorem QI.set_d (h : QI s a b c d l A B C D) (ha : d < 16) (hab : a ≠ b) (hac : a ≠ c) (had : a ≠ d) (hbc : b ≠ c) (hbd : b ≠ d) (hcd : c ≠ d) (v : W32) : QI s a b c d (l.set d v) A B C v :=
 ⟨by rw [List.length_set]; exact h.len, by rw [w_far (Ne.symm had)]; exact h.ea, by rw [w_far (Ne.symm hbd)]; exact h.eb, by rw [w_far (Ne.symm hcd)]; exact h.ec, w_same (by rw [h.len]; exact ha), fun i h1 h2 h3 h4 => by rw [w_far (Ne.symm h4)]; exact h.rest i h1 h2 h3 h4⟩
theorem QI.eq {l2 : List W32} (h : QI s a b c d l A B C D) (h2 : QI s a b c d l2 A B C D) : l = l2 := by
 apply List.ext_getElem (by rw [h.len, h2.len])
 intro i h3 h4
 have e : l.getD i 0#32 = l2.getD i 0#32 := by
  by_cases e1 : i = a
  ·rw [e1, h.ea, h2.ea]
  by_cases e2 : i = b
  ·rw [e2, h.eb, h2.eb]
  by_cases e3 : i = c
  ·rw [e3, h.ec, h2.ec]
  by_cases e4 : i = d
  ·rw [e4, h.ed, h2.ed]
  rw [h.rest i e1 e2 e3 e4, h2.rest i e1 e2 e3 e4]
 simpa [List.getD, h3, h4] using e
end
theorem zdt {w : World} {X i : Nat} {l : List W32} {v : W32} {t : TypeId} (hX : Blk w X (ints .u32 (ws l)) t) (hv : l.getD i 0#32 = v) (hl : l.length = 16) (hi : i < 16) : w.cell? ⟨X, i, none⟩ = some (.int .u32 (wi v)) := by
 rw [hX.cell, zav (by rw [zar, hl]; exact hi), zdk, hv]
theorem qi_set {w : World} {X : Nat} {l : List W32} {t : TypeId} (hX : Blk w X (ints .u32 (ws l)) t) (i : Nat) (v : W32) : Blk (w.setCell ⟨X, i, none⟩ (.int .u32 (wi v))) X (ints .u32 (ws (l.set i v))) t := by
 rw [← ws_set]
 exact hX.seti i _
end
theorem or_u32L (a b : Nat) (ha : a < 4294967296) (hb : b < 4294967296) : bits .or .u32 (a : Int) (b : Int) = ((a ||| b : Nat) : Int) := by
 have e1 : (BitVec.ofInt 32 (a : Int)).toNat = a := by rw [BitVec.toNat_ofInt]; omega
 have e2 : (BitVec.ofInt 32 (b : Int)).toNat = b := by rw [BitVec.toNat_ofInt]; omega
 show IntKind.u32.wrap ((BitVec.ofInt 32 (a : Int) ||| BitVec.ofInt 32 (b : Int)).toNat : Nat) = _
 have e3 : a ||| b < 2 ^ 32 := Nat.or_lt_two_pow ha hb
 rw [BitVec.toNat_or, e1, e2, wrap_nat, Nat.mod_eq_of_lt e3]
theorem or4L (x0 x1 x2 x3 : Nat) (h0 : x0 < 256) (h1 : x1 < 256) (h2 : x2 < 256) (h3 : x3 < 256) :
  bits .or .u32 (bits .or .u32 (bits .or .u32 (x0 : Int) ((x1 : Int) * 256)) ((x2 : Int) * 65536)) ((x3 : Int) * 16777216) = wi (BitVec.ofNat 32 (x0 + 256 * x1 + 65536 * x2 + 16777216 * x3)) := by
 have a1 : (x1 : Int) * 256 = ((256 * x1 : Nat) : Int) := by omega
 have a2 : (x2 : Int) * 65536 = ((65536 * x2 : Nat) : Int) := by omega
 have a3 : (x3 : Int) * 16777216 = ((16777216 * x3 : Nat) : Int) := by omega
 have b1 : x0 ||| 256 * x1 = x0 + 256 * x1 := (Nat.or_comm _ _).trans ((or_sum 8 x0 x1 h0).trans (Nat.add_comm _ _))
 have b2 : x0 + 256 * x1 ||| 65536 * x2 = x0 + 256 * x1 + 65536 * x2 := (Nat.or_comm _ _).trans ((or_sum 16 (x0 + 256 * x1) x2 (by omega)).trans (Nat.add_comm _ _))
 have b3 : x0 + 256 * x1 + 65536 * x2 ||| 16777216 * x3 = x0 + 256 * x1 + 65536 * x2 + 16777216 * x3 := (Nat.or_comm _ _).trans ((or_sum 24 (x0 + 256 * x1 + 65536 * x2) x3 (by omega)).trans (Nat.add_comm _ _))
 rw [a1, a2, a3, or_u32L _ _ (by omega) (by omega), b1, or_u32L _ _ (by omega) (by omega), b2, or_u32L _ _ (by omega) (by omega), b3, wi_lit _ (by omega)]
theorem Tryz.arr68 : (Tryz.prog.info? 68).map (·.size) = some 64 := by kernel_rfl
theorem sig_size {l : List UInt8} (h : l.length = 64) : (Tryz.prog.info? 68).map (·.size) = some (l.map bval).length := by rw [List.length_map, h]; exact Tryz.arr68
def chaK (key : List UInt8) : Nat → List W32
 | 0 => [0x61707865#32, 0x3320646e#32, 0x79622d32#32, 0x6b206574#32, 0, 0, 0, 0, 0, 0, 0, 0, 0, 0, 0, 0]
 | k + 1 => (chaK key k).set (4 + k) (leW key (4 * k))
def chaN (key : List UInt8) (ctr : W32) (nonce : List UInt8) : Nat → List W32
 | 0 => (chaK key 8).set 12 ctr
 | k + 1 => (chaN key ctr nonce k).set (13 + k) (leW nonce (4 * k))
theorem zdm (key : List UInt8) : ∀ k, (chaK key k).length = 16
 | 0 => rfl
 | k + 1 => by rw [chaK, List.length_set, zdm key k]
theorem chaN_length (key : List UInt8) (ctr : W32) (nonce : List UInt8) : ∀ k, (chaN key ctr nonce k).length = 16
 | 0 => by rw [chaN, List.length_set, zdm]
 | k + 1 => by rw [chaN, List.length_set, chaN_length key ctr nonce k]
theorem chaN_full (key : List UInt8) (ctr : W32) (nonce : List UInt8) : chaN key ctr nonce 3 = chaInit key ctr nonce := rfl
theorem and_mask32 (a : Int) (h1 : -9223372036854775808 ≤ a) (h2 : a ≤ 9223372036854775807) : bits .and .i64 a 4294967295 = a % 4294967296 := by
 have h : (BitVec.ofInt 64 4294967295).toNat = 2 ^ 32 - 1 := by decide
 have key : (BitVec.ofInt 64 a &&& BitVec.ofInt 64 4294967295).toNat = (a % ((2 ^ 64 : Nat) : Int)).toNat % 2 ^ 32 := by
  rw [BitVec.toNat_and, BitVec.toNat_ofInt, h, Nat.and_two_pow_sub_one_eq_mod]
 show IntKind.i64.wrap ((BitVec.ofInt 64 a &&& BitVec.ofInt 64 4294967295).toNat : Nat) = _
 rw [key, IntKind.wrap_i64]
 omega
theorem ctr_word (a : Int) : IntKind.u32.wrap (a % 4294967296) = wi (BitVec.ofInt 32 a) := by
 unfold wi
 rw [BitVec.toNat_ofInt, IntKind.wrap_u32]
 omega
theorem zea {w : World} {S : Nat} {l : List W32} {t : TypeId} (h : Blk w S (ints .u32 (ws l)) t) (i : Nat) (z : Int) (v : W32) (hz : z = wi v) : Blk (w.setCell ⟨S, i, none⟩ (.int .u32 z)) S (ints .u32 (ws (l.set i v))) t := by
 subst hz
 rw [← ws_set]
 exact h.seti i _
theorem zbe {w : World} {S i : Nat} {l : List W32} {t : TypeId} (h : Blk w S (ints .u32 (ws l)) t) (hi : i < l.length) : w.cell? ⟨S, i, none⟩ = some (.int .u32 (wi (l.getD i 0#32))) := by
 rw [h.cell, zav (by rw [zar]; exact hi), zdk]
theorem cut_arrL {t : TypeId} {n : Nat} {e : TypeId} (ht : Tryz.prog.underlying t = some (.array n e)) (h : ∀ w, (sizeOf e).run Tryz.prog w = .ok 1 w) (w : World) (A p : Nat) (hp : p < n) :
  (Instr.sliceAt t (.pointer (some ⟨A, 0, none⟩)) (some (.int .i64 (p : Int))) none none).run Tryz.prog w = .ok (.slice (some ⟨A, p, none⟩) (n - p) (n - p)) w := by
 have e1 : Tryz.prog.arrayLen t = n := by unfold Program.arrayLen; rw [ht]
 have e2 : Tryz.prog.elem t = e := by unfold Program.elem; rw [ht]
 rw [run_sliceAt_array_l w t ⟨A, 0, none⟩ (by rw [e1, e2]; exact ht) .i64 (p : Int) (by omega) (by rw [e1]; omega), e2, h, e1]
 simp [slicedAt, Addr.add, show ¬ n = p by omega]
 exact fun h => h.symm
theorem and_u32_255 (n : Nat) : bits .and .u32 (n : Int) 255 = ((n % 256 : Nat) : Int) := by
 have h : (BitVec.ofInt 32 255).toNat = 2 ^ 8 - 1 := by decide
 have key : (BitVec.ofInt 32 (n : Int) &&& BitVec.ofInt 32 255).toNat = ((n : Int) % ((2 ^ 32 : Nat) : Int)).toNat % 2 ^ 8 := by
  rw [BitVec.toNat_and, BitVec.toNat_ofInt, h, Nat.and_two_pow_sub_one_eq_mod]
 show IntKind.u32.wrap ((BitVec.ofInt 32 (n : Int) &&& BitVec.ofInt 32 255).toNat : Nat) = _
 rw [key, IntKind.wrap_u32]
 omega
theorem word_byte (va : W32) (r : Nat) (y : UInt8) (h : y = UInt8.ofNat (va.toNat / 2 ^ (8 * r) % 256)) : bits .and .u32 (wi va / 2 ^ (8 * r)) 255 % 256 = (y.toNat : Int) := by
 have e : wi va / 2 ^ (8 * r) = ((va.toNat / 2 ^ (8 * r) : Nat) : Int) := by
  unfold wi
  rw [Int.natCast_ediv, Int.natCast_pow]
  rfl
 rw [e, and_u32_255, h]
 have : (UInt8.ofNat (va.toNat / 2 ^ (8 * r) % 256)).toNat = va.toNat / 2 ^ (8 * r) % 256 := UInt8.toNat_ofNat_of_lt' (by show _ < 256; omega)
 rw [this]
 omega
theorem leB_getD (h : List W32) {n i : Nat} (hi : i < n) : (leB h n).getD i 0 = UInt8.ofNat ((h.getD (i / 4) 0#32).toNat / 2 ^ (8 * (i % 4)) % 256) := by
 unfold leB
 rw [List.getD_eq_getElem?_getD, List.getElem?_map, List.getElem?_range hi]
 rfl
theorem far_ext {w w2 : World} {S i : Nat} {v : Value} (h : Ext w w2) (hS : w.heap.size ≤ S) : Ext w (w2.setCell ⟨S, i, none⟩ v) := Below.setCell h hS _
theorem and_u64_31L (n : Nat) (h : n < 32) : bits .and .u64 (n : Int) 31 = (n : Int) := by
 have h5 : (BitVec.ofInt 64 31).toNat = 2 ^ 5 - 1 := by decide
 have key : (BitVec.ofInt 64 (n : Int) &&& BitVec.ofInt 64 31).toNat = ((n : Int) % ((2 ^ 64 : Nat) : Int)).toNat % 2 ^ 5 := by
  rw [BitVec.toNat_and, BitVec.toNat_ofInt, h5, Nat.and_two_pow_sub_one_eq_mod]
 show IntKind.u64.wrap ((BitVec.ofInt 64 (n : Int) &&& BitVec.ofInt 64 31).toNat : Nat) = _
 rw [key, IntKind.wrap_u64]
 omega
theorem rotL_any (x : W32) (n : Nat) (h1 : 0 < n) (h2 : n < 32) (w : World) : Calls Tryz.prog 119 #[.int .u32 (wi x), .int .i64 (n : Int)] w fun e w' => e = .returned (.int .u32 (wi (rotl x n))) ∧ w = w' := by
 have HX := jh (wi_rotl x n)
 have hr := wi_range x
 have ha := and_u64_31L n h2
 have n0 : (n : Int) < 32 := by omega
 have n1 : (0 : Int) < (n : Int) := by omega
 have hw : IntKind.u64.wrap (n : Int) = (n : Int) := by rw [IntKind.wrap_u64]; omega
 have hv : IntKind.u64.wrap (32 - (n : Int)) = ((32 - n : Nat) : Int) := by rw [IntKind.wrap_u64]; omega
 have n2 : ((32 - n : Nat) : Int) < 32 := by omega
 have n3 : 32 - (n : Int) = ((32 - n : Nat) : Int) := by omega
 generalize wi x = z at *
 generalize 32 - n = m at *
 go_enter Tryz.func119, Tryz.ntmps119
 go_wp2_with fail
 go_ret
 exact ⟨congrArg (fun v => Ending.returned (.int .u32 v)) (by rw [← HX.out, IntKind.wrap_u32]), rfl⟩
theorem res_four {fn : Func} {i j k l : Nat} (hf : fn.results = #[.tmp i, .tmp j, .tmp k, .tmp l]) (tmps : Array Value) (w : World) :
  (results fn tmps).run Tryz.prog w = .ok (.tuple #[tmps.getD i undef, tmps.getD j undef, tmps.getD k undef, tmps.getD l undef]) w := by
 unfold results
 rw [hf]
 simp
theorem cq_any (a b c d : W32) (w : World) : Calls Tryz.prog 104 #[.int .u32 (wi a), .int .u32 (wi b), .int .u32 (wi c), .int .u32 (wi d)] w fun e w' =>
  e = .returned (.tuple #[.int .u32 (wi (qr4 a b c d).1), .int .u32 (wi (qr4 a b c d).2.1), .int .u32 (wi (qr4 a b c d).2.2.1), .int .u32 (wi (qr4 a b c d).2.2.2)]) ∧ w = w' := by
 obtain ⟨a1, ha1⟩ : ∃ x, x = a + b := ⟨_, rfl⟩
 obtain ⟨p1, hp1⟩ : ∃ x, x = d ^^^ a1 := ⟨_, rfl⟩
 obtain ⟨d1, hd1⟩ : ∃ x, x = rotl p1 16 := ⟨_, rfl⟩
 obtain ⟨c1, hc1⟩ : ∃ x, x = c + d1 := ⟨_, rfl⟩
 obtain ⟨p2, hp2⟩ : ∃ x, x = b ^^^ c1 := ⟨_, rfl⟩
 obtain ⟨b1, hb1⟩ : ∃ x, x = rotl p2 12 := ⟨_, rfl⟩
 obtain ⟨a2, ha2⟩ : ∃ x, x = a1 + b1 := ⟨_, rfl⟩
 obtain ⟨p3, hp3⟩ : ∃ x, x = d1 ^^^ a2 := ⟨_, rfl⟩
 obtain ⟨d2, hd2⟩ : ∃ x, x = rotl p3 8 := ⟨_, rfl⟩
 obtain ⟨c2, hc2⟩ : ∃ x, x = c1 + d2 := ⟨_, rfl⟩
 obtain ⟨p4, hp4⟩ : ∃ x, x = b1 ^^^ c2 := ⟨_, rfl⟩
 obtain ⟨b2, hb2⟩ : ∃ x, x = rotl p4 7 := ⟨_, rfl⟩
 have HQ : Hid (qr4 a b c d = (a2, b2, c2, d2)) := jh (by subst hb2 hp4 hc2 hd2 hp3 ha2 hb1 hp2 hc1 hd1 hp1 ha1; rfl)
 have s1 : IntKind.u32.wrap (wi a + wi b) = wi a1 := by rw [ha1]; exact zbx _ _
 have s2 : bits .xor .u32 (wi d) (wi a1) = wi p1 := by rw [hp1]; exact zcm _ _
 have s3 : IntKind.u32.wrap (wi c + wi d1) = wi c1 := by rw [hc1]; exact zbx _ _
 have s4 : bits .xor .u32 (wi b) (wi c1) = wi p2 := by rw [hp2]; exact zcm _ _
 have s5 : IntKind.u32.wrap (wi a1 + wi b1) = wi a2 := by rw [ha2]; exact zbx _ _
 have s6 : bits .xor .u32 (wi d1) (wi a2) = wi p3 := by rw [hp3]; exact zcm _ _
 have s7 : IntKind.u32.wrap (wi c1 + wi d2) = wi c2 := by rw [hc2]; exact zbx _ _
 have s8 : bits .xor .u32 (wi b1) (wi c2) = wi p4 := by rw [hp4]; exact zcm _ _
 have R1 := jh (fun w => rotL_any p1 16 (by omega) (by omega) w)
 have R2 := jh (fun w => rotL_any p2 12 (by omega) (by omega) w)
 have R3 := jh (fun w => rotL_any p3 8 (by omega) (by omega) w)
 have R4 := jh (fun w => rotL_any p4 7 (by omega) (by omega) w)
 rw [← hd1] at R1
 rw [← hb1] at R2
 rw [← hd2] at R3
 rw [← hb2] at R4
 rw [HQ.out]
 clear hb2 hp4 hc2 hd2 hp3 ha2 hb1 hp2 hc1 hd1 hp1 ha1 HQ
 have t1 := s1
 have t3 := s3
 have t5 := s5
 have t7 := s7
 rw [IntKind.wrap_u32] at t1 t3 t5 t7
 go_enter Tryz.func104, Tryz.ntmps104
 go_wp2_with fail
 refine (R1.out _).mono ?_
 rintro e w' ⟨rfl, rfl⟩
 go_wp2_with fail
 refine (R2.out _).mono ?_
 rintro e w' ⟨rfl, rfl⟩
 go_wp2_with fail
 refine (R3.out _).mono ?_
 rintro e w' ⟨rfl, rfl⟩
 go_wp2_with fail
 refine (R4.out _).mono ?_
 rintro e w' ⟨rfl, rfl⟩
 go_wp2_with fail
 refine bodyPost_ret (res_four rfl _ _) rfl ?_
 exact ⟨rfl, rfl⟩
/-- A word is read off four bytes of a block. -/
theorem cword_any (c off len cap : Nat) (cs : List UInt8) (t : TypeId) (w : World) (hb : Blk w c (cs.map bval) t) (hl : off + 4 ≤ cs.length) (h4 : 4 ≤ len) :
  Calls Tryz.prog 102 #[.slice (some ⟨c, off, none⟩) len cap] w fun e w' => e = .returned (.int .u32 (wi (leW cs off))) ∧ w' = w.drew := by
 have cc : ∀ j, j ≤ 3 → w.cell? ⟨c, off + j, none⟩ = some (.int .u8 ((cs.getD (off + j) 0).toNat : Int)) := fun j hj => by
  rw [hb.cell, zbb (by omega)]
 have c0 := cc 0 (by omega)
 have c1 := cc 1 (by omega)
 have c2 := cc 2 (by omega)
 have c3 := cc 3 (by omega)
 simp only [Nat.add_zero] at c0
 have d0 := UInt8.toNat_lt (cs.getD off 0)
 have d1 := UInt8.toNat_lt (cs.getD (off + 1) 0)
 have d2 := UInt8.toNat_lt (cs.getD (off + 2) 0)
 have d3 := UInt8.toNat_lt (cs.getD (off + 3) 0)
 have HBE : Hid (leW cs off = BitVec.ofNat 32 ((cs.getD off 0).toNat + 256 * (cs.getD (off + 1) 0).toNat + 65536 * (cs.getD (off + 2) 0).toNat + 16777216 * (cs.getD (off + 3) 0).toNat)) := jh rfl
 generalize (cs.getD off 0).toNat = x0 at *
 generalize (cs.getD (off + 1) 0).toNat = x1 at *
 generalize (cs.getD (off + 2) 0).toNat = x2 at *
 generalize (cs.getD (off + 3) 0).toNat = x3 at *
 clear cc hb hl
 have i0 : (0 : Int) < (len : Int) ∧ (1 : Int) < (len : Int) ∧ (2 : Int) < (len : Int) ∧ (3 : Int) < (len : Int) := by omega
 obtain ⟨i0, i1, i2, i3⟩ := i0
 go_enter Tryz.func102, Tryz.ntmps102
 go_wp2_with fail
 go_region
 go_wp2_with fail
 go_ret
 exact ⟨by rw [HBE.out, ← or4L x0 x1 x2 x3 d0 d1 d2 d3]; rfl, rfl⟩
def put4L (cs : List UInt8) (off : Nat) (x : W32) : List UInt8 := (((cs.set off (UInt8.ofNat x.toNat)).set (off + 1) (UInt8.ofNat (x.toNat / 256))).set (off + 2) (UInt8.ofNat (x.toNat / 65536))).set (off + 3) (UInt8.ofNat (x.toNat / 16777216))
theorem put4L_length (cs : List UInt8) (off : Nat) (x : W32) : (put4L cs off x).length = cs.length := by simp [put4L]
theorem bval_ofNatL (n : Nat) : bval (UInt8.ofNat n) = .int .u8 ((n : Int) % 256) := by
 unfold bval
 rw [UInt8.toNat_ofNat']
 congr 1
/-- A word is laid over four bytes of a block. -/
theorem cput_any (c off len cap : Nat) (cs : List UInt8) (x : W32) (t : TypeId) (w : World) (hb : Blk w c (cs.map bval) t) (hl : off + 4 ≤ cs.length) (h4 : 4 ≤ len) :
  Calls Tryz.prog 103 #[.slice (some ⟨c, off, none⟩) len cap, .int .u32 (wi x)] w fun e w' => e = .returned (.tuple #[]) ∧ Blk w' c ((put4L cs off x).map bval) t ∧ w.grownBy w' (some c) := by
 have cc : ∀ j, j ≤ 3 → w.cell? ⟨c, off + j, none⟩ = some (.int .u8 ((cs.getD (off + j) 0).toNat : Int)) := fun j hj => by
  rw [hb.cell, zbb (by omega)]
 have ff : ∀ j, w.frozen? ⟨c, off + j, none⟩ = false := fun j => hb.free _
 have c0 := cc 0 (by omega)
 have c1 := cc 1 (by omega)
 have c2 := cc 2 (by omega)
 have c3 := cc 3 (by omega)
 have f0 := ff 0
 have f1 := ff 1
 have f2 := ff 2
 have f3 := ff 3
 simp only [Nat.add_zero] at c0 f0
 generalize (cs.getD off 0).toNat = x0 at *
 generalize (cs.getD (off + 1) 0).toNat = x1 at *
 generalize (cs.getD (off + 2) 0).toNat = x2 at *
 generalize (cs.getD (off + 3) 0).toNat = x3 at *
 have HB := jh hb
 have HL := jh hl
 have hr := wi_range x
 have HX : Hid (wi x = (x.toNat : Int)) := jh rfl
 clear cc ff hb hl
 have i0 : (0 : Int) < (len : Int) ∧ (1 : Int) < (len : Int) ∧ (2 : Int) < (len : Int) ∧ (3 : Int) < (len : Int) := by omega
 obtain ⟨i0, i1, i2, i3⟩ := i0
 have b3 : bval (UInt8.ofNat (x.toNat / 16777216)) = .int .u8 (wi x / 16777216) := by rw [bval_ofNatL]; congr 1; unfold wi; have := x.isLt; omega
 have b2 : bval (UInt8.ofNat (x.toNat / 65536)) = .int .u8 (wi x / 65536 % 256) := by rw [bval_ofNatL]; congr 1
 have b1 : bval (UInt8.ofNat (x.toNat / 256)) = .int .u8 (wi x / 256 % 256) := by rw [bval_ofNatL]; congr 1
 have b0 : bval (UInt8.ofNat x.toNat) = .int .u8 (wi x % 256) := by rw [bval_ofNatL]; congr 1
 have hP : (put4L cs off x).map bval = ((((cs.map bval).set off (.int .u8 (wi x % 256))).set (off + 1) (.int .u8 (wi x / 256 % 256))).set (off + 2) (.int .u8 (wi x / 65536 % 256))).set (off + 3) (.int .u8 (wi x / 16777216)) := by
  unfold put4L
  rw [List.map_set, List.map_set, List.map_set, List.map_set, b0, b1, b2, b3]
 have HP := jh hP
 clear hP b0 b1 b2 b3
 generalize wi x = z at *
 go_enter Tryz.func103, Tryz.ntmps103
 go_wp2_with fail
 refine bodyPost_end (results_none rfl _ _ _) rfl ?_
 refine ⟨rfl, ?_, ?_⟩
 ·rw [HP.out]
  exact (((HB.out.set _ _).set _ _).set _ _).set _ _
 ·exact zbh (zbh (zbh (zbh (zdc w _) _ _) _ _) _ _) _ _
def putK (h : List W32) : Nat → List UInt8
 | 0 => List.replicate 64 0
 | k + 1 => put4L (putK h k) (4 * k) (h.getD k 0#32)
theorem putK_length (h : List W32) : ∀ k, (putK h k).length = 64
 | 0 => by simp [putK]
 | k + 1 => by rw [putK, put4L_length, putK_length h k]
theorem put4L_getD (cs : List UInt8) (off : Nat) (x : W32) (h : off + 4 ≤ cs.length) (i : Nat) : (put4L cs off x).getD i 0 = if off ≤ i ∧ i < off + 4 then UInt8.ofNat (x.toNat / 2 ^ (8 * (i - off)) % 256) else cs.getD i 0 := by
 have m : ∀ n : Nat, UInt8.ofNat (n % 256) = UInt8.ofNat n := fun n => by
  apply UInt8.toNat_inj.1
  rw [UInt8.toNat_ofNat', UInt8.toNat_ofNat']
  omega
 unfold put4L
 simp only [List.getD_eq_getElem?_getD, List.getElem?_set, List.length_set]
 by_cases h3 : off + 3 = i
 ·subst h3
  rw [if_pos rfl, if_pos (by omega), if_pos (by omega), show off + 3 - off = 3 from by omega, m]
  rfl
 ·rw [if_neg h3]
  by_cases h2 : off + 2 = i
  ·subst h2
   rw [if_pos rfl, if_pos (by omega), if_pos (by omega), show off + 2 - off = 2 from by omega, m]
   rfl
  ·rw [if_neg h2]
   by_cases h1 : off + 1 = i
   ·subst h1
    rw [if_pos rfl, if_pos (by omega), if_pos (by omega), show off + 1 - off = 1 from by omega, m]
    rfl
   ·rw [if_neg h1]
    by_cases h0 : off = i
    ·subst h0
     rw [if_pos rfl, if_pos (by omega), if_pos (by omega), show off - off = 0 from by omega, m]
     simp
    ·rw [if_neg h0, if_neg (by omega)]
theorem putK_getD (h : List W32) : ∀ k, k ≤ 16 → ∀ i, i < 4 * k → (putK h k).getD i 0 = UInt8.ofNat ((h.getD (i / 4) 0#32).toNat / 2 ^ (8 * (i % 4)) % 256)
 | 0, _, i, hi => by omega
 | k + 1, hk, i, hi => by
  rw [putK, put4L_getD _ _ _ (by rw [putK_length]; omega)]
  by_cases h4 : 4 * k ≤ i
  ·rw [if_pos (by omega), show i / 4 = k from by omega, show i - 4 * k = i % 4 from by omega]
  ·rw [if_neg (by omega), putK_getD h k (by omega) i (by omega)]
theorem putK_full (h : List W32) : putK h 16 = leB h 64 := by
 apply bytes_ext (by rw [putK_length, leB_length])
 intro i hi
 rw [putK_length] at hi
 rw [putK_getD h 16 (by omega) i (by omega), leB_getD h hi]
theorem Tryz.arr98 : (Tryz.prog.info? 98).map (·.size) = some 16 := by kernel_rfl
theorem words_size {s : List W32} (h : s.length = 16) : (Tryz.prog.info? 98).map (·.size) = some (ints .u32 (ws s)).length := by rw [zad, zar, h]; exact Tryz.arr98
theorem index_wordsL {T e : TypeId} {n : Nat} (hT : Tryz.prog.underlying T = some (.array n e)) (hs : ∀ w, (sizeOf e).run Tryz.prog w = .ok 1 w) (ha : ∀ w, (isAgg e).run Tryz.prog w = .ok false w) (h : List W32) (hl : h.length = n) (k : Nat) (hk : k < n) (w : World) :
  (Instr.index T (.agg (ints .u32 (ws h)).toArray) (.int .i64 (k : Int))).run Tryz.prog w = .ok (.int .u32 (wi (h.getD k 0#32))) w := by
 have hg : (ints .u32 (ws h))[k]? = some (.int .u32 (wi (h.getD k 0#32))) := by rw [zav (by rw [zar, hl]; exact hk), zdk]
 have hi : 0 ≤ (k : Int) ∧ (k : Int) < (n : Int) := by omega
 unfold Instr.index
 simp only [asIntOf, Sem.run_bind, Sem.run_pure, Result.andThen_ok, run_underlying hT, hi, hs, part, ha]
 rw [if_pos ⟨trivial, trivial⟩]
 simp only [Sem.run_bind, hs, ha, Result.andThen_ok, Int.toNat_natCast, Nat.mul_one, List.getElem?_toArray, hg, Bool.false_eq_true, if_false, Sem.run_pure]
theorem cbytes_any (h : List W32) (hh : h.length = 16) (w : World) : Calls Tryz.prog 71 #[.agg (ints .u32 (ws h)).toArray] w fun e w' => e = .returned (.agg ((leB h 64).map bval).toArray) ∧ Below w.heap.size w w' := by
 have HH := jh hh
 have HB := jh (boxes3 w (ints .u32 (ws h)) (ints .u8 (List.replicate 64 0)) (ints .u8 (List.replicate 64 0)) 98 68 68)
 have HIr := jh (words_size hh)
 clear hh
 go_enter Tryz.func71, Tryz.ntmps71
 go_upto_region 2 with (fail)
 obtain ⟨H1, H2, H3, HE⟩ := HB.out
 change Code.wp _ _ _ _ (((w.alloc (.cells (ints .u32 (ws h)).toArray 98)).alloc (.cells (ints .u8 (List.replicate 64 0)).toArray 68)).alloc (.cells (ints .u8 (List.replicate 64 0)).toArray 68))
 generalize (((w.alloc (.cells (ints .u32 (ws h)).toArray 98)).alloc (.cells (ints .u8 (List.replicate 64 0)).toArray 68)).alloc (.cells (ints .u8 (List.replicate 64 0)).toArray 68)) = w3 at *
 obtain ⟨A, hA⟩ : ∃ A, A = w.heap.size := ⟨_, rfl⟩
 rw [← hA] at H1 H2 H3 ⊢
 have hA2 : w.heap.size ≤ A := by omega
 have H1 := jh H1
 have H2 := jh H2
 have H3 := jh H3
 have HE : Hid (Ext w w3) := jh HE
 clear hA HB
 go_wp2_with (refine zab rfl _ _ rfl A rfl _ _ _ _ H1.out Tryz.underlying98 HIr.out ?_)
 go_loopw [7] (fun iv wr => ∃ (k : Nat), k ≤ 16 ∧ iv = .int .i64 (k : Int) ∧ Blk wr (A + 1) (ints .u8 (List.replicate 64 0)) 68 ∧ Blk wr (A + 1 + 1) ((putK h k).map bval) 68 ∧ Ext w wr) (fun iv _ => 16 - (intOf iv).toNat)
 case atStart => exact ⟨0, by omega, rfl, H2.out, by rw [putK, List.map_replicate]; exact H3.out, HE.out⟩
 case round =>
  clear H1 H2 H3 HE
  obtain ⟨k, hk, rfl, hb2, hb3, hbel⟩ := hrel
  have k0 : (0 : Int) ≤ (k : Int) := Int.natCast_nonneg _
  by_cases hlk : k < 16
  ·have k1 : (k : Int) < 16 := by omega
   have hi := index_wordsL Tryz.underlying98 Tryz.sizeOf96 Tryz.isAgg96 h HH.out k hlk
   have hs := cut_arrL Tryz.underlying68 Tryz.sizeOf5 wr (A + 1 + 1) (4 * k) (by omega)
   have e4 : ((4 * k : Nat) : Int) = 4 * (k : Int) := by omega
   rw [e4] at hs
   have HP := jh (cput_any (A + 1 + 1) (4 * k) (64 - 4 * k) (64 - 4 * k) (putK h k) (h.getD k 0#32) _ wr hb3 (by rw [putK_length]; omega) (by omega))
   have HK : Hid (putK h (k + 1) = put4L (putK h k) (4 * k) (h.getD k 0#32)) := jh rfl
   have H2 := jh hb2
   have HE := jh hbel
   clear hb2 hb3 hbel e4
   generalize h.getD k 0#32 = y at *
   go_wp2_with fail
   refine HP.out.mono ?_
   rintro e w4 ⟨rfl, hb, hg⟩
   have H2 := jh (H2.out.grown hg (by simp))
   have HE := jh (zae HE.out hg (by omega))
   have H3 := jh hb
   clear hb hg HP hs hi
   go_wp2_with fail
   go_roundw
   case rel => exact ⟨k + 1, by omega, by go_num, H2.out, by rw [HK.out]; exact H3.out, HE.out⟩
   case measure => simp [intOf]; omega
  ·have hk8 : k = 16 := by omega
   subst hk8
   rw [putK_full h] at hb3
   have H2 := jh hb2
   have H3 := jh hb3
   have HE := jh hbel
   clear hb2 hb3 hbel
   have HIo : Hid ((Tryz.prog.info? 68).map (·.size) = some ((leB h 64).map bval).length) := jh (sig_size (leB_length h 64))
   have HLo : Hid (((leB h 64).map bval).length = (ints .u8 (List.replicate 64 0)).length) := jh (by rw [List.length_map, leB_length, zad, List.length_replicate])
   go_wp2_with (first | (refine zab rfl _ _ rfl (A + 1 + 1) rfl _ _ _ _ H3.out Tryz.underlying68 HIo.out ?_) | (refine zac rfl _ _ _ rfl (A + 1) ((leB h 64).map bval) rfl rfl _ _ H2.out HLo.out HIo.out (zag _) ?_; intro w4 hb4 hg4))
   refine bodyPost_ret (zap rfl _ (A + 1) _ _ _ _ rfl hb4 Tryz.underlying68 HIo.out) rfl ?_
   exact ⟨rfl, zae HE.out hg4 (by omega)⟩
theorem Tryz.arr44 : (Tryz.prog.info? 44).map (·.size) = some 12 := by kernel_rfl
theorem zdj {l : List UInt8} (h : l.length = 12) : (Tryz.prog.info? 44).map (·.size) = some (l.map bval).length := by rw [List.length_map, h]; exact Tryz.arr44
theorem ofInt32_mod (c z : Int) : BitVec.ofInt 32 (c % 4294967296 + z) = BitVec.ofInt 32 (c + z) := by
 apply BitVec.eq_of_toInt_eq
 rw [BitVec.toInt_ofInt, BitVec.toInt_ofInt]
 unfold Int.bmod
 have e2 : ((2 ^ 32 : Nat) : Int) = 4294967296 := rfl
 rw [e2, Int.emod_add_emod]
theorem chaByte_at (key : List UInt8) (c : Int) (nonce kk : List UInt8) (k : Nat) (h : kk = chaBlock key (BitVec.ofInt 32 (c + ((k / 64 : Nat) : Int))) nonce) : kk.getD (k % 64) 0 = chaByte key c nonce k := by
 rw [h]
 rfl
theorem build_consts (w : World) : (Instr.build 98 #[(0, .int .u32 1634760805), (1, .int .u32 857760878), (2, .int .u32 2036477234), (3, .int .u32 1797285236)]).run Tryz.prog w = .ok (.agg (ints .u32 (ws (chaK [] 0))).toArray) w := by
 simp [Instr.build, Tryz.zeroValue98]
 rfl
theorem cstart_any (kb nb : List UInt8) (c : Int) (w : World) (hk : kb.length = 32) (hn : nb.length = 12) (hc1 : -9223372036854775808 ≤ c) (hc2 : c ≤ 9223372036854775807) :
  Calls Tryz.prog 69 #[.agg (kb.map bval).toArray, .int .i64 c, .agg (nb.map bval).toArray] w fun e w' => e = .returned (.agg (ints .u32 (ws (chaInit kb (BitVec.ofInt 32 c) nb))).toArray) ∧ Below w.heap.size w w' := by
 have HKL := jh hk
 have HNL := jh hn
 have HB := jh (boxes4 w (kb.map bval) (nb.map bval) (ints .u32 (List.replicate 16 0)) (ints .u32 (List.replicate 16 0)) 23 44 98 98)
 have HC0 : Hid (IntKind.u32.wrap c = wi (BitVec.ofInt 32 c)) := jh (by rw [← ctr_word c, IntKind.wrap_u32, IntKind.wrap_u32]; omega)
 obtain ⟨ctr, hctr⟩ : ∃ v, v = BitVec.ofInt 32 c := ⟨_, rfl⟩
 have HCTR := jh hctr
 rw [← hctr] at HC0
 clear hk hn hc1 hc2 hctr
 go_enter Tryz.func69, Tryz.ntmps69
 obtain ⟨H1, H2, H3, H4, HE⟩ := HB.out
 have H1 := jh H1
 have H2 := jh H2
 have H3 := jh H3
 have H4 := jh H4
 have HE : Hid (Ext w _) := jh HE
 have HL4 : Hid ((ints .u32 (ws (chaK [] 0))).length = (ints .u32 (List.replicate 16 0)).length) := jh (by rw [zad, zar, zdm, zad, List.length_replicate])
 have HI4 := jh (words_size (zdm [] 0))
 clear HB
 have hbz := build_consts
 go_upto_region 2 with (refine zac rfl _ _ _ rfl (w.heap.size + 1 + 1 + 1) (ints .u32 (ws (chaK [] 0))) rfl rfl _ _ H4.out HL4.out HI4.out (zai _ _) ?_; intro wa hb4 hg4)
 have H1 := jh (H1.out.grown hg4 (by simp; omega))
 have H2 := jh (H2.out.grown hg4 (by simp; omega))
 have H3 := jh (H3.out.grown hg4 (by simp))
 have HE := jh (zae HE.out hg4 (by omega))
 have H4 : Hid (Blk wa (w.heap.size + 1 + 1 + 1) (ints .u32 (ws (chaK kb 0))) 98) := jh hb4
 obtain ⟨B, hB⟩ : ∃ B, B = w.heap.size := ⟨_, rfl⟩
 have HBW : Hid (w.heap.size ≤ B) := jh (by omega)
 rw [← hB] at H1 H2 H3 H4 ⊢
 clear hb4 hg4 hbz HL4 HI4 hB
 obtain ⟨S, hS⟩ : ∃ S, S = B + 1 + 1 + 1 := ⟨_, rfl⟩
 have HSB : Hid (B + 3 ≤ S ∧ S ≤ B + 3) := jh (by omega)
 rw [← hS] at H4 ⊢
 clear hS
 obtain ⟨R, hR⟩ : ∃ R, R = B + 1 + 1 := ⟨_, rfl⟩
 have HRB : Hid (B + 2 ≤ R ∧ R ≤ B + 2) := jh (by omega)
 rw [← hR] at H3 ⊢
 clear hR
 go_wp2_with fail
 go_loopw [11] (fun iv wr => ∃ (k : Nat), k ≤ 8 ∧ iv = .int .i64 (k : Int) ∧ Blk wr B (kb.map bval) 23 ∧ Blk wr (B + 1) (nb.map bval) 44 ∧ Blk wr R (ints .u32 (List.replicate 16 0)) 98 ∧ Blk wr S (ints .u32 (ws (chaK kb k))) 98 ∧ Ext w wr) (fun iv _ => 8 - (intOf iv).toNat)
 case atStart => exact ⟨0, by omega, rfl, H1.out, H2.out, H3.out, H4.out, HE.out⟩
 case round =>
  clear H1 H2 H3 H4 HE
  obtain ⟨k, hk, rfl, hb1, hb2, hb3, hb4, hbel⟩ := hrel
  have k0 : (0 : Int) ≤ (k : Int) := Int.natCast_nonneg _
  by_cases hlk : k < 8
  ·have k1 : (k : Int) < 8 := by omega
   have hs := cut_arrL Tryz.underlying23 Tryz.sizeOf5 wr (B) (4 * k) (by omega)
   have e4 : ((4 * k : Nat) : Int) = 4 * (k : Int) := by omega
   rw [e4] at hs
   have HW := jh (cword_any (B) (4 * k) (32 - 4 * k) (32 - 4 * k) kb 23 wr hb1 (by have := HKL.out; omega) (by omega))
   have H1 := jh hb1
   have H2 := jh hb2
   have H3 := jh hb3
   have H4 := jh hb4
   have HE := jh hbel
   clear hb1 hb2 hb3 hb4 hbel e4
   go_wp2_with fail
   refine HW.out.mono ?_
   rintro e w5 ⟨rfl, rfl⟩
   have H1 : Hid (Blk wr.drew B (kb.map bval) 23) := jh H1.out
   have H2 : Hid (Blk wr.drew (B + 1) (nb.map bval) 44) := jh H2.out
   have H3 : Hid (Blk wr.drew R (ints .u32 (List.replicate 16 0)) 98) := jh H3.out
   have H4 : Hid (Blk wr.drew S (ints .u32 (ws (chaK kb k))) 98) := jh H4.out
   have HE : Hid (Ext w wr.drew) := jh (HE.out.trans (Ext.drew _))
   clear HW hs
   generalize wr.drew = w5 at *
   have f0 := H4.out.free (4 + k)
   obtain ⟨u, c0⟩ : ∃ u, w5.cell? ⟨S, 4 + k, none⟩ = some u := ⟨_, zbe H4.out (by rw [zdm]; omega)⟩
   have i0 : (0 : Int) ≤ 4 + (k : Int) := by omega
   have i1 : (4 : Int) + (k : Int) < 16 := by omega
   have i2 : ((4 : Int) + (k : Int)).toNat = 4 + k := by omega
   have HX : Hid (Blk (w5.setCell ⟨S, 4 + k, none⟩ (.int .u32 (wi (leW kb (4 * k))))) S (ints .u32 (ws (chaK kb (k + 1)))) 98) := jh (zea H4.out (4 + k) _ (leW kb (4 * k)) rfl)
   generalize leW kb (4 * k) = lw at *
   go_wp2_with fail
   go_roundw
   case rel => exact ⟨k + 1, by omega, by go_num, H1.out.far (by have := HSB.out; simp; omega) _, H2.out.far (by have := HSB.out; simp; omega) _, H3.out.far (by have := HSB.out; have := HRB.out; simp; omega) _, HX.out, far_ext HE.out (by have := HBW.out; have := HSB.out; omega)⟩
   case measure => simp [intOf]; omega
  ·have hk8 : k = 8 := by omega
   subst hk8
   rw [show ((8 : Nat) : Int) = 8 from rfl]
   have H1 := jh hb1
   have H2 := jh hb2
   have H3 := jh hb3
   have H4 := jh hb4
   have HE := jh hbel
   clear hb1 hb2 hb3 hb4 hbel k0 hk
   have f0 := H4.out.free 12
   obtain ⟨u, c0⟩ : ∃ u, wr.cell? ⟨S, 12, none⟩ = some u := ⟨_, zbe H4.out (by rw [zdm]; omega)⟩
   have HX : Hid (Blk (wr.setCell ⟨S, 12, none⟩ (.int .u32 (wi ctr))) S (ints .u32 (ws (chaN kb ctr nb 0))) 98) := jh (zea H4.out 12 _ ctr rfl)
   have hc0 := HC0.out
   have H1n := jh (H1.out.far (a := ⟨S, 12, none⟩) (by have := HSB.out; simp; omega) (.int .u32 (wi ctr)))
   have H2n := jh (H2.out.far (a := ⟨S, 12, none⟩) (by have := HSB.out; simp; omega) (.int .u32 (wi ctr)))
   have H3n := jh (H3.out.far (a := ⟨S, 12, none⟩) (by have := HSB.out; have := HRB.out; simp; omega) (.int .u32 (wi ctr)))
   have HEn : Hid (Ext w (wr.setCell ⟨S, 12, none⟩ (.int .u32 (wi ctr)))) := jh (far_ext HE.out (by have := HBW.out; have := HSB.out; omega))
   go_upto_region 8 with (fail)
   clear H1 H2 H3 H4 HE f0 c0 hc0
   generalize wr.setCell ⟨S, 12, none⟩ (.int .u32 (wi ctr)) = w6 at *
   have H1 := H1n
   have H2 := H2n
   have H3 := H3n
   have H4 := HX
   have HE := HEn
   clear H1n H2n H3n HX HEn
   go_wp2_with fail
   go_loopw [25] (fun iv wr => ∃ (k : Nat), k ≤ 3 ∧ iv = .int .i64 (k : Int) ∧ Blk wr B (kb.map bval) 23 ∧ Blk wr (B + 1) (nb.map bval) 44 ∧ Blk wr R (ints .u32 (List.replicate 16 0)) 98 ∧ Blk wr S (ints .u32 (ws (chaN kb ctr nb k))) 98 ∧ Ext w wr) (fun iv _ => 3 - (intOf iv).toNat)
   case atStart => exact ⟨0, by omega, rfl, H1.out, H2.out, H3.out, H4.out, HE.out⟩
   case round =>
    clear H1 H2 H3 H4 HE
    obtain ⟨k, hk, rfl, hb1, hb2, hb3, hb4, hbel⟩ := hrel
    have k0 : (0 : Int) ≤ (k : Int) := Int.natCast_nonneg _
    by_cases hlk : k < 3
    ·have k1 : (k : Int) < 3 := by omega
     have hs := cut_arrL Tryz.underlying44 Tryz.sizeOf5 wr ((B + 1)) (4 * k) (by omega)
     have e4 : ((4 * k : Nat) : Int) = 4 * (k : Int) := by omega
     rw [e4] at hs
     have HW := jh (cword_any ((B + 1)) (4 * k) (12 - 4 * k) (12 - 4 * k) nb 44 wr hb2 (by have := HNL.out; omega) (by omega))
     have H1 := jh hb1
     have H2 := jh hb2
     have H3 := jh hb3
     have H4 := jh hb4
     have HE := jh hbel
     clear hb1 hb2 hb3 hb4 hbel e4
     go_wp2_with fail
     refine HW.out.mono ?_
     rintro e w5 ⟨rfl, rfl⟩
     have H1 : Hid (Blk wr.drew B (kb.map bval) 23) := jh H1.out
     have H2 : Hid (Blk wr.drew (B + 1) (nb.map bval) 44) := jh H2.out
     have H3 : Hid (Blk wr.drew R (ints .u32 (List.replicate 16 0)) 98) := jh H3.out
     have H4 : Hid (Blk wr.drew S (ints .u32 (ws (chaN kb ctr nb k))) 98) := jh H4.out
     have HE : Hid (Ext w wr.drew) := jh (HE.out.trans (Ext.drew _))
     clear HW hs
     generalize wr.drew = w5 at *
     have f0 := H4.out.free (13 + k)
     obtain ⟨u, c0⟩ : ∃ u, w5.cell? ⟨S, 13 + k, none⟩ = some u := ⟨_, zbe H4.out (by rw [chaN_length]; omega)⟩
     have i0 : (0 : Int) ≤ 13 + (k : Int) := by omega
     have i1 : (13 : Int) + (k : Int) < 16 := by omega
     have i2 : ((13 : Int) + (k : Int)).toNat = 13 + k := by omega
     have HX : Hid (Blk (w5.setCell ⟨S, 13 + k, none⟩ (.int .u32 (wi (leW nb (4 * k))))) S (ints .u32 (ws (chaN kb ctr nb (k + 1)))) 98) := jh (zea H4.out (13 + k) _ (leW nb (4 * k)) rfl)
     generalize leW nb (4 * k) = lw at *
     go_wp2_with fail
     go_roundw
     case rel => exact ⟨k + 1, by omega, by go_num, H1.out.far (by have := HSB.out; simp; omega) _, H2.out.far (by have := HSB.out; simp; omega) _, H3.out.far (by have := HSB.out; have := HRB.out; simp; omega) _, HX.out, far_ext HE.out (by have := HBW.out; have := HSB.out; omega)⟩
     case measure => simp [intOf]; omega
    ·have hk8 : k = 3 := by omega
     subst hk8
     rw [show ((3 : Nat) : Int) = 3 from rfl]
     have H1 := jh hb1
     have H2 := jh hb2
     have H3 := jh hb3
     have H4 := jh hb4
     have HE := jh hbel
     clear hb1 hb2 hb3 hb4 hbel k0 hk
     rw [chaN_full] at H4
     have HSL := jh (zdz kb ctr nb)
     rw [HCTR.out] at H4 HSL
     obtain ⟨s, hs⟩ : ∃ s, s = chaInit kb (BitVec.ofInt 32 c) nb := ⟨_, rfl⟩
     rw [← hs] at H4 HSL
     have HSS := jh hs
     clear hs
     have HIs := jh (words_size HSL.out)
     have HLs : Hid ((ints .u32 (ws s)).length = (ints .u32 (List.replicate 16 0)).length) := jh (by rw [zad, zar, HSL.out, zad, List.length_replicate])
     go_wp2_with (first | (refine zab rfl _ _ rfl S rfl _ _ _ _ H4.out Tryz.underlying98 HIs.out ?_) | (refine zac rfl _ _ _ rfl R (ints .u32 (ws s)) rfl rfl _ _ H3.out HLs.out HIs.out (zai _ _) ?_; intro w7 hb7 hg7))
     refine bodyPost_ret (zap rfl _ R _ _ _ _ rfl hb7 Tryz.underlying98 HIs.out) rfl ?_
     exact ⟨by rw [HSS.out], zae HE.out hg7 (by have := HBW.out; have := HRB.out; omega)⟩
theorem cq_at (a b c d a' b' c' d' : W32) (h : qr4 a b c d = (a', b', c', d')) (w : World) : Calls Tryz.prog 104 #[.int .u32 (wi a), .int .u32 (wi b), .int .u32 (wi c), .int .u32 (wi d)] w fun e w' =>
  e = .returned (.tuple #[.int .u32 (wi a'), .int .u32 (wi b'), .int .u32 (wi c'), .int .u32 (wi d')]) ∧ w = w' := by
 have := cq_any a b c d w
 rw [h] at this
 exact this
theorem qrt_l0 {t0 t1 t2 t3 t4 t5 t6 t7 t8 t9 t10 t11 t12 t13 t14 t15 a b c d : W32} (h : qr4 t0 t4 t8 t12 = (a, b, c, d)) : qrt [t0, t1, t2, t3, t4, t5, t6, t7, t8, t9, t10, t11, t12, t13, t14, t15] 0 4 8 12 = [a, t1, t2, t3, b, t5, t6, t7, c, t9, t10, t11, d, t13, t14, t15] := by
 simp only [qrt, List.getD_cons_zero, List.getD_cons_succ, h, List.set_cons_zero, List.set_cons_succ]
theorem qrt_l1 {t0 t1 t2 t3 t4 t5 t6 t7 t8 t9 t10 t11 t12 t13 t14 t15 a b c d : W32} (h : qr4 t1 t5 t9 t13 = (a, b, c, d)) : qrt [t0, t1, t2, t3, t4, t5, t6, t7, t8, t9, t10, t11, t12, t13, t14, t15] 1 5 9 13 = [t0, a, t2, t3, t4, b, t6, t7, t8, c, t10, t11, t12, d, t14, t15] := by
 simp only [qrt, List.getD_cons_zero, List.getD_cons_succ, h, List.set_cons_zero, List.set_cons_succ]
theorem qrt_l2 {t0 t1 t2 t3 t4 t5 t6 t7 t8 t9 t10 t11 t12 t13 t14 t15 a b c d : W32} (h : qr4 t2 t6 t10 t14 = (a, b, c, d)) : qrt [t0, t1, t2, t3, t4, t5, t6, t7, t8, t9, t10, t11, t12, t13, t14, t15] 2 6 10 14 = [t0, t1, a, t3, t4, t5, b, t7, t8, t9, c, t11, t12, t13, d, t15] := by
 simp only [qrt, List.getD_cons_zero, List.getD_cons_succ, h, List.set_cons_zero, List.set_cons_succ]
theorem qrt_l3 {t0 t1 t2 t3 t4 t5 t6 t7 t8 t9 t10 t11 t12 t13 t14 t15 a b c d : W32} (h : qr4 t3 t7 t11 t15 = (a, b, c, d)) : qrt [t0, t1, t2, t3, t4, t5, t6, t7, t8, t9, t10, t11, t12, t13, t14, t15] 3 7 11 15 = [t0, t1, t2, a, t4, t5, t6, b, t8, t9, t10, c, t12, t13, t14, d] := by
 simp only [qrt, List.getD_cons_zero, List.getD_cons_succ, h, List.set_cons_zero, List.set_cons_succ]
theorem qrt_l4 {t0 t1 t2 t3 t4 t5 t6 t7 t8 t9 t10 t11 t12 t13 t14 t15 a b c d : W32} (h : qr4 t0 t5 t10 t15 = (a, b, c, d)) : qrt [t0, t1, t2, t3, t4, t5, t6, t7, t8, t9, t10, t11, t12, t13, t14, t15] 0 5 10 15 = [a, t1, t2, t3, t4, b, t6, t7, t8, t9, c, t11, t12, t13, t14, d] := by
 simp only [qrt, List.getD_cons_zero, List.getD_cons_succ, h, List.set_cons_zero, List.set_cons_succ]
theorem qrt_l5 {t0 t1 t2 t3 t4 t5 t6 t7 t8 t9 t10 t11 t12 t13 t14 t15 a b c d : W32} (h : qr4 t1 t6 t11 t12 = (a, b, c, d)) : qrt [t0, t1, t2, t3, t4, t5, t6, t7, t8, t9, t10, t11, t12, t13, t14, t15] 1 6 11 12 = [t0, a, t2, t3, t4, t5, b, t7, t8, t9, t10, c, d, t13, t14, t15] := by
 simp only [qrt, List.getD_cons_zero, List.getD_cons_succ, h, List.set_cons_zero, List.set_cons_succ]
theorem qrt_l6 {t0 t1 t2 t3 t4 t5 t6 t7 t8 t9 t10 t11 t12 t13 t14 t15 a b c d : W32} (h : qr4 t2 t7 t8 t13 = (a, b, c, d)) : qrt [t0, t1, t2, t3, t4, t5, t6, t7, t8, t9, t10, t11, t12, t13, t14, t15] 2 7 8 13 = [t0, t1, a, t3, t4, t5, t6, b, c, t9, t10, t11, t12, d, t14, t15] := by
 simp only [qrt, List.getD_cons_zero, List.getD_cons_succ, h, List.set_cons_zero, List.set_cons_succ]
theorem qrt_l7 {t0 t1 t2 t3 t4 t5 t6 t7 t8 t9 t10 t11 t12 t13 t14 t15 a b c d : W32} (h : qr4 t3 t4 t9 t14 = (a, b, c, d)) : qrt [t0, t1, t2, t3, t4, t5, t6, t7, t8, t9, t10, t11, t12, t13, t14, t15] 3 4 9 14 = [t0, t1, t2, a, b, t5, t6, t7, t8, c, t10, t11, t12, t13, d, t15] := by
 simp only [qrt, List.getD_cons_zero, List.getD_cons_succ, h, List.set_cons_zero, List.set_cons_succ]
theorem dround_l {t0 t1 t2 t3 t4 t5 t6 t7 t8 t9 t10 t11 t12 t13 t14 t15 x0 x4 x8 x12 x1 x5 x9 x13 x2 x6 x10 x14 x3 x7 x11 x15 y0 y5 y10 y15 y1 y6 y11 y12 y2 y7 y8 y13 y3 y4 y9 y14 : W32} (q0 : qr4 t0 t4 t8 t12 = (x0, x4, x8, x12)) (q1 : qr4 t1 t5 t9 t13 = (x1, x5, x9, x13)) (q2 : qr4 t2 t6 t10 t14 = (x2, x6, x10, x14)) (q3 : qr4 t3 t7 t11 t15 = (x3, x7, x11, x15)) (q4 : qr4 x0 x5 x10 x15 = (y0, y5, y10, y15)) (q5 : qr4 x1 x6 x11 x12 = (y1, y6, y11, y12)) (q6 : qr4 x2 x7 x8 x13 = (y2, y7, y8, y13)) (q7 : qr4 x3 x4 x9 x14 = (y3, y4, y9, y14)) :
  dround [t0, t1, t2, t3, t4, t5, t6, t7, t8, t9, t10, t11, t12, t13, t14, t15] = [y0, y1, y2, y3, y4, y5, y6, y7, y8, y9, y10, y11, y12, y13, y14, y15] := by
 unfold dround
 rw [qrt_l0 q0, qrt_l1 q1, qrt_l2 q2, qrt_l3 q3, qrt_l4 q4, qrt_l5 q5, qrt_l6 q6, qrt_l7 q7]
theorem zdu (s : List W32) (n : Nat) (h : s.length = n + 1) : ∃ a t, s = a :: t ∧ t.length = n := by
 match s, h with
 | a :: t, h => exact ⟨a, t, rfl, by simpa using h⟩
theorem cha_list16 (s : List W32) (h : s.length = 16) : ∃ s0 s1 s2 s3 s4 s5 s6 s7 s8 s9 s10 s11 s12 s13 s14 s15 : W32, s = [s0, s1, s2, s3, s4, s5, s6, s7, s8, s9, s10, s11, s12, s13, s14, s15] := by
 obtain ⟨s0, r0, e0, h0⟩ := zdu s 15 h
 obtain ⟨s1, r1, e1, h1⟩ := zdu r0 14 h0
 obtain ⟨s2, r2, e2, h2⟩ := zdu r1 13 h1
 obtain ⟨s3, r3, e3, h3⟩ := zdu r2 12 h2
 obtain ⟨s4, r4, e4, h4⟩ := zdu r3 11 h3
 obtain ⟨s5, r5, e5, h5⟩ := zdu r4 10 h4
 obtain ⟨s6, r6, e6, h6⟩ := zdu r5 9 h5
 obtain ⟨s7, r7, e7, h7⟩ := zdu r6 8 h6
 obtain ⟨s8, r8, e8, h8⟩ := zdu r7 7 h7
 obtain ⟨s9, r9, e9, h9⟩ := zdu r8 6 h8
 obtain ⟨s10, r10, e10, h10⟩ := zdu r9 5 h9
 obtain ⟨s11, r11, e11, h11⟩ := zdu r10 4 h10
 obtain ⟨s12, r12, e12, h12⟩ := zdu r11 3 h11
 obtain ⟨s13, r13, e13, h13⟩ := zdu r12 2 h12
 obtain ⟨s14, r14, e14, h14⟩ := zdu r13 1 h13
 obtain ⟨s15, r15, e15, h15⟩ := zdu r14 0 h14
 have e := List.eq_nil_of_length_eq_zero h15
 exact ⟨s0, s1, s2, s3, s4, s5, s6, s7, s8, s9, s10, s11, s12, s13, s14, s15, by rw [e0, e1, e2, e3, e4, e5, e6, e7, e8, e9, e10, e11, e12, e13, e14, e15, e]⟩
def addK (t s : List W32) : Nat → List W32
 | 0 => t
 | k + 1 => (addK t s k).set k (t.getD k 0#32 + s.getD k 0#32)
theorem addK_length (t s : List W32) : ∀ k, (addK t s k).length = t.length
 | 0 => rfl
 | k + 1 => by rw [addK, List.length_set, addK_length t s k]
theorem addK_getD (t s : List W32) : ∀ k, k ≤ t.length → ∀ i, (addK t s k).getD i 0#32 = if i < k then t.getD i 0#32 + s.getD i 0#32 else t.getD i 0#32
 | 0, _, i => by rw [if_neg (by omega)]; rfl
 | k + 1, hk, i => by
  rw [addK]
  by_cases e : k = i
  ·subst e
   rw [if_pos (by omega), List.getD_eq_getElem?_getD, List.getElem?_set_self (by rw [addK_length]; omega)]
   rfl
  ·have h := addK_getD t s k (by omega) i
   rw [List.getD_eq_getElem?_getD, List.getElem?_set_ne e, ← List.getD_eq_getElem?_getD, h]
   by_cases h2 : i < k
   ·rw [if_pos h2, if_pos (by omega)]
   ·rw [if_neg h2, if_neg (by omega)]
theorem addK_full (t s : List W32) (h : t.length = 16) : addK t s 16 = wAdd t s := by
 apply List.ext_getElem (by rw [addK_length, h]; simp [wAdd])
 intro i h1 h2
 have hi : i < 16 := by rw [addK_length, h] at h1; exact h1
 have e1 := addK_getD t s 16 (by omega) i
 have e2 := wAdd_getD t s hi
 rw [if_pos hi] at e1
 rw [List.getD_eq_getElem?_getD, List.getElem?_eq_getElem h1] at e1
 rw [List.getD_eq_getElem?_getD, List.getElem?_eq_getElem h2] at e2
 exact e1.trans e2.symm
def wordsOut (s : List W32) : List W32 := wAdd (dRun s 10) s
theorem zej (s : List W32) : (wordsOut s).length = 16 := by simp [wordsOut, wAdd]
theorem cmixed_any (s : List W32) (hs : s.length = 16) (w : World) : Calls Tryz.prog 72 #[.agg (ints .u32 (ws s)).toArray] w fun e w' => e = .returned (.agg (ints .u32 (ws (wordsOut s))).toArray) ∧ Below w.heap.size w w' := by
 have HSL := jh hs
 have HIs := jh (words_size hs)
 have HB := jh (boxes2 w (ints .u32 (ws s)) (ints .u32 (List.replicate 16 0)) 98 98)
 obtain ⟨s0, s1, s2, s3, s4, s5, s6, s7, s8, s9, s10, s11, s12, s13, s14, s15, he⟩ := cha_list16 s hs
 have HSE := jh he
 clear hs he
 go_enter Tryz.func72, Tryz.ntmps72
 go_wp2_with fail
 obtain ⟨H1, H2, HE⟩ := HB.out
 change Code.wp _ _ _ _ ((w.alloc (.cells (ints .u32 (ws s)).toArray 98)).alloc (.cells (ints .u32 (List.replicate 16 0)).toArray 98))
 generalize (w.alloc (.cells (ints .u32 (ws s)).toArray 98)).alloc (.cells (ints .u32 (List.replicate 16 0)).toArray 98) = wa0 at *
 obtain ⟨A, hA⟩ : ∃ A, A = w.heap.size := ⟨_, rfl⟩
 have HAW : Hid (w.heap.size ≤ A ∧ A ≤ w.heap.size) := jh (by omega)
 rw [← hA] at H1 H2 ⊢
 have H1 := jh H1
 have H2 := jh H2
 have HE : Hid (Ext w wa0) := jh HE
 clear hA HB
 have c0 : wa0.cell? ⟨A, 0, none⟩ = some (.int .u32 (wi s0)) := by rw [zbe H1.out (by rw [HSL.out]; omega), HSE.out]; rfl
 have c1 : wa0.cell? ⟨A, 1, none⟩ = some (.int .u32 (wi s1)) := by rw [zbe H1.out (by rw [HSL.out]; omega), HSE.out]; rfl
 have c2 : wa0.cell? ⟨A, 2, none⟩ = some (.int .u32 (wi s2)) := by rw [zbe H1.out (by rw [HSL.out]; omega), HSE.out]; rfl
 have c3 : wa0.cell? ⟨A, 3, none⟩ = some (.int .u32 (wi s3)) := by rw [zbe H1.out (by rw [HSL.out]; omega), HSE.out]; rfl
 go_quiet (fail)
 have H1 : Hid (Blk (wa0.drewN nq) A (ints .u32 (ws s)) 98) := jh H1.out
 have H2 : Hid (Blk (wa0.drewN nq) (A + 1) (ints .u32 (List.replicate 16 0)) 98) := jh H2.out
 have HE : Hid (Ext w (wa0.drewN nq)) := jh (Ext.trans HE.out ⟨rfl, rfl, rfl, Nat.le_refl _, fun _ _ => rfl⟩)
 clear c0 c1 c2 c3
 generalize wa0.drewN nq = wa1 at *
 go_wp2_with fail
 have c4 : wa1.cell? ⟨A, 4, none⟩ = some (.int .u32 (wi s4)) := by rw [zbe H1.out (by rw [HSL.out]; omega), HSE.out]; rfl
 have c5 : wa1.cell? ⟨A, 5, none⟩ = some (.int .u32 (wi s5)) := by rw [zbe H1.out (by rw [HSL.out]; omega), HSE.out]; rfl
 have c6 : wa1.cell? ⟨A, 6, none⟩ = some (.int .u32 (wi s6)) := by rw [zbe H1.out (by rw [HSL.out]; omega), HSE.out]; rfl
 have c7 : wa1.cell? ⟨A, 7, none⟩ = some (.int .u32 (wi s7)) := by rw [zbe H1.out (by rw [HSL.out]; omega), HSE.out]; rfl
 go_quiet (fail)
 have H1 : Hid (Blk (wa1.drewN nq) A (ints .u32 (ws s)) 98) := jh H1.out
 have H2 : Hid (Blk (wa1.drewN nq) (A + 1) (ints .u32 (List.replicate 16 0)) 98) := jh H2.out
 have HE : Hid (Ext w (wa1.drewN nq)) := jh (Ext.trans HE.out ⟨rfl, rfl, rfl, Nat.le_refl _, fun _ _ => rfl⟩)
 clear c4 c5 c6 c7
 generalize wa1.drewN nq = wa2 at *
 go_wp2_with fail
 have c8 : wa2.cell? ⟨A, 8, none⟩ = some (.int .u32 (wi s8)) := by rw [zbe H1.out (by rw [HSL.out]; omega), HSE.out]; rfl
 have c9 : wa2.cell? ⟨A, 9, none⟩ = some (.int .u32 (wi s9)) := by rw [zbe H1.out (by rw [HSL.out]; omega), HSE.out]; rfl
 have c10 : wa2.cell? ⟨A, 10, none⟩ = some (.int .u32 (wi s10)) := by rw [zbe H1.out (by rw [HSL.out]; omega), HSE.out]; rfl
 have c11 : wa2.cell? ⟨A, 11, none⟩ = some (.int .u32 (wi s11)) := by rw [zbe H1.out (by rw [HSL.out]; omega), HSE.out]; rfl
 go_quiet (fail)
 have H1 : Hid (Blk (wa2.drewN nq) A (ints .u32 (ws s)) 98) := jh H1.out
 have H2 : Hid (Blk (wa2.drewN nq) (A + 1) (ints .u32 (List.replicate 16 0)) 98) := jh H2.out
 have HE : Hid (Ext w (wa2.drewN nq)) := jh (Ext.trans HE.out ⟨rfl, rfl, rfl, Nat.le_refl _, fun _ _ => rfl⟩)
 clear c8 c9 c10 c11
 generalize wa2.drewN nq = wa3 at *
 go_wp2_with fail
 have c12 : wa3.cell? ⟨A, 12, none⟩ = some (.int .u32 (wi s12)) := by rw [zbe H1.out (by rw [HSL.out]; omega), HSE.out]; rfl
 have c13 : wa3.cell? ⟨A, 13, none⟩ = some (.int .u32 (wi s13)) := by rw [zbe H1.out (by rw [HSL.out]; omega), HSE.out]; rfl
 have c14 : wa3.cell? ⟨A, 14, none⟩ = some (.int .u32 (wi s14)) := by rw [zbe H1.out (by rw [HSL.out]; omega), HSE.out]; rfl
 have c15 : wa3.cell? ⟨A, 15, none⟩ = some (.int .u32 (wi s15)) := by rw [zbe H1.out (by rw [HSL.out]; omega), HSE.out]; rfl
 go_quiet (fail)
 have H1 : Hid (Blk (wa3.drewN nq) A (ints .u32 (ws s)) 98) := jh H1.out
 have H2 : Hid (Blk (wa3.drewN nq) (A + 1) (ints .u32 (List.replicate 16 0)) 98) := jh H2.out
 have HE : Hid (Ext w (wa3.drewN nq)) := jh (Ext.trans HE.out ⟨rfl, rfl, rfl, Nat.le_refl _, fun _ _ => rfl⟩)
 clear c12 c13 c14 c15
 generalize wa3.drewN nq = wa4 at *
 go_wp2_with fail
 go_loop [3, 4, 5, 6, 7, 8, 9, 10, 11, 12, 13, 14, 15, 16, 17, 18, 54] (fun v0 v1 v2 v3 v4 v5 v6 v7 v8 v9 v10 v11 v12 v13 v14 v15 iv => ∃ (k : Nat) (t0 t1 t2 t3 t4 t5 t6 t7 t8 t9 t10 t11 t12 t13 t14 t15 : W32), k ≤ 10 ∧ dRun s k = [t0, t1, t2, t3, t4, t5, t6, t7, t8, t9, t10, t11, t12, t13, t14, t15] ∧ v0 = .int .u32 (wi t0) ∧ v1 = .int .u32 (wi t1) ∧ v2 = .int .u32 (wi t2) ∧ v3 = .int .u32 (wi t3) ∧ v4 = .int .u32 (wi t4) ∧ v5 = .int .u32 (wi t5) ∧ v6 = .int .u32 (wi t6) ∧ v7 = .int .u32 (wi t7) ∧ v8 = .int .u32 (wi t8) ∧ v9 = .int .u32 (wi t9) ∧ v10 = .int .u32 (wi t10) ∧ v11 = .int .u32 (wi t11) ∧ v12 = .int .u32 (wi t12) ∧ v13 = .int .u32 (wi t13) ∧ v14 = .int .u32 (wi t14) ∧ v15 = .int .u32 (wi t15) ∧ iv = .int .i64 (k : Int)) (fun _ _ _ _ _ _ _ _ _ _ _ _ _ _ _ _ iv => 10 - (intOf iv).toNat)
 case atStart => exact ⟨0, s0, s1, s2, s3, s4, s5, s6, s7, s8, s9, s10, s11, s12, s13, s14, s15, by omega, HSE.out, rfl, rfl, rfl, rfl, rfl, rfl, rfl, rfl, rfl, rfl, rfl, rfl, rfl, rfl, rfl, rfl, rfl⟩
 case round =>
  obtain ⟨k, t0, t1, t2, t3, t4, t5, t6, t7, t8, t9, t10, t11, t12, t13, t14, t15, hk, hd, rfl, rfl, rfl, rfl, rfl, rfl, rfl, rfl, rfl, rfl, rfl, rfl, rfl, rfl, rfl, rfl, rfl⟩ := hrel
  have HD := jh hd
  clear hd
  have k0 : (0 : Int) ≤ (k : Int) := Int.natCast_nonneg _
  by_cases hlk : k < 10
  ·have k1 : (k : Int) < 10 := by omega
   obtain ⟨⟨x0, x4, x8, x12⟩, q0⟩ : ∃ q, qr4 t0 t4 t8 t12 = q := ⟨_, rfl⟩
   have Q0 := jh q0
   clear q0
   obtain ⟨⟨x1, x5, x9, x13⟩, q1⟩ : ∃ q, qr4 t1 t5 t9 t13 = q := ⟨_, rfl⟩
   have Q1 := jh q1
   clear q1
   obtain ⟨⟨x2, x6, x10, x14⟩, q2⟩ : ∃ q, qr4 t2 t6 t10 t14 = q := ⟨_, rfl⟩
   have Q2 := jh q2
   clear q2
   obtain ⟨⟨x3, x7, x11, x15⟩, q3⟩ : ∃ q, qr4 t3 t7 t11 t15 = q := ⟨_, rfl⟩
   have Q3 := jh q3
   clear q3
   obtain ⟨⟨y0, y5, y10, y15⟩, q4⟩ : ∃ q, qr4 x0 x5 x10 x15 = q := ⟨_, rfl⟩
   have Q4 := jh q4
   clear q4
   obtain ⟨⟨y1, y6, y11, y12⟩, q5⟩ : ∃ q, qr4 x1 x6 x11 x12 = q := ⟨_, rfl⟩
   have Q5 := jh q5
   clear q5
   obtain ⟨⟨y2, y7, y8, y13⟩, q6⟩ : ∃ q, qr4 x2 x7 x8 x13 = q := ⟨_, rfl⟩
   have Q6 := jh q6
   clear q6
   obtain ⟨⟨y3, y4, y9, y14⟩, q7⟩ : ∃ q, qr4 x3 x4 x9 x14 = q := ⟨_, rfl⟩
   have Q7 := jh q7
   clear q7
   go_wp2_with fail
   refine (cq_at _ _ _ _ _ _ _ _ Q0.out _).mono ?_
   rintro e w' ⟨rfl, rfl⟩
   go_wp2_with fail
   refine (cq_at _ _ _ _ _ _ _ _ Q1.out _).mono ?_
   rintro e w' ⟨rfl, rfl⟩
   go_wp2_with fail
   refine (cq_at _ _ _ _ _ _ _ _ Q2.out _).mono ?_
   rintro e w' ⟨rfl, rfl⟩
   go_wp2_with fail
   refine (cq_at _ _ _ _ _ _ _ _ Q3.out _).mono ?_
   rintro e w' ⟨rfl, rfl⟩
   go_wp2_with fail
   refine (cq_at _ _ _ _ _ _ _ _ Q4.out _).mono ?_
   rintro e w' ⟨rfl, rfl⟩
   go_wp2_with fail
   refine (cq_at _ _ _ _ _ _ _ _ Q5.out _).mono ?_
   rintro e w' ⟨rfl, rfl⟩
   go_wp2_with fail
   refine (cq_at _ _ _ _ _ _ _ _ Q6.out _).mono ?_
   rintro e w' ⟨rfl, rfl⟩
   go_wp2_with fail
   refine (cq_at _ _ _ _ _ _ _ _ Q7.out _).mono ?_
   rintro e w' ⟨rfl, rfl⟩
   go_wp2_with fail
   go_round
   case rel => exact ⟨k + 1, y0, y1, y2, y3, y4, y5, y6, y7, y8, y9, y10, y11, y12, y13, y14, y15, by omega, by rw [dRun, HD.out]; exact dround_l Q0.out Q1.out Q2.out Q3.out Q4.out Q5.out Q6.out Q7.out, rfl, rfl, rfl, rfl, rfl, rfl, rfl, rfl, rfl, rfl, rfl, rfl, rfl, rfl, rfl, rfl, by go_num⟩
   case measure => simp [intOf]; omega
  ·have hk10 : k = 10 := by omega
   subst hk10
   rw [show ((10 : Nat) : Int) = 10 from rfl]
   have HOUT : Hid (wordsOut s = wAdd [t0, t1, t2, t3, t4, t5, t6, t7, t8, t9, t10, t11, t12, t13, t14, t15] s) := jh (by rw [← HD.out]; rfl)
   have HTL : Hid ([t0, t1, t2, t3, t4, t5, t6, t7, t8, t9, t10, t11, t12, t13, t14, t15].length = 16) := jh rfl
   clear HD
   have HZ := jh (Blk.made wa4 (ints .u32 (ws [t0, t1, t2, t3, t4, t5, t6, t7, t8, t9, t10, t11, t12, t13, t14, t15])) 98)
   have HXA := Ext.alloc wa4 (.cells (ints .u32 (ws [t0, t1, t2, t3, t4, t5, t6, t7, t8, t9, t10, t11, t12, t13, t14, t15])).toArray 98)
   have HL2 := jh H2.out.lt
   have H1 := jh (zaa H1.out HXA)
   have H2 := jh (zaa H2.out HXA)
   have HXS := jh HE.out.size
   have HE := jh (HE.out.trans HXA)
   clear HXA
   go_upto_region 17 with (fail)
   change Code.wp _ _ _ _ (wa4.alloc (.cells (ints .u32 (ws [t0, t1, t2, t3, t4, t5, t6, t7, t8, t9, t10, t11, t12, t13, t14, t15])).toArray 98))
   obtain ⟨Y, hY⟩ : ∃ Y, Y = wa4.heap.size := ⟨_, rfl⟩
   have HYW : Hid (w.heap.size ≤ Y ∧ A + 1 < Y) := jh (by have := HXS.out; have := HL2.out; omega)
   rw [← hY] at HZ ⊢
   clear HXS HL2 hY
   generalize wa4.alloc (.cells (ints .u32 (ws [t0, t1, t2, t3, t4, t5, t6, t7, t8, t9, t10, t11, t12, t13, t14, t15])).toArray 98) = w7 at *
   have H3 : Hid (Blk w7 Y (ints .u32 (ws (addK [t0, t1, t2, t3, t4, t5, t6, t7, t8, t9, t10, t11, t12, t13, t14, t15] s 0))) 98) := jh HZ.out
   clear HZ
   obtain ⟨t, ht⟩ : ∃ t, t = [t0, t1, t2, t3, t4, t5, t6, t7, t8, t9, t10, t11, t12, t13, t14, t15] := ⟨_, rfl⟩
   rw [← ht] at HOUT HTL H3
   clear ht
   go_wp2_with (refine zab rfl _ _ rfl A rfl _ _ _ _ H1.out Tryz.underlying98 HIs.out ?_)
   go_loopw [155] (fun iv wr => ∃ (k : Nat), k ≤ 16 ∧ iv = .int .i64 (k : Int) ∧ Blk wr (A + 1) (ints .u32 (List.replicate 16 0)) 98 ∧ Blk wr Y (ints .u32 (ws (addK t s k))) 98 ∧ Ext w wr) (fun iv _ => 16 - (intOf iv).toNat)
   case atStart => exact ⟨0, by omega, rfl, H2.out, H3.out, HE.out⟩
   case round =>
    clear H1 H2 H3 HE
    obtain ⟨k, hk, rfl, hb2, hb3, hbel⟩ := hrel
    have k0 : (0 : Int) ≤ (k : Int) := Int.natCast_nonneg _
    by_cases hlk : k < 16
    ·have k1 : (k : Int) < 16 := by omega
     have hi := index_wordsL Tryz.underlying98 Tryz.sizeOf96 Tryz.isAgg96 s HSL.out k hlk
     have hc := zbe hb3 (i := k) (by rw [addK_length, HTL.out]; exact hlk)
     have hg := addK_getD t s k (by rw [HTL.out]; omega) k
     rw [if_neg (by omega)] at hg
     rw [hg] at hc
     have f0 := hb3.free k
     have e1 : IntKind.u32.wrap (wi (t.getD k 0#32) + wi (s.getD k 0#32)) = wi (t.getD k 0#32 + s.getD k 0#32) := zbx _ _
     have HX : Hid (Blk (wr.setCell ⟨Y, k, none⟩ (.int .u32 (wi (t.getD k 0#32 + s.getD k 0#32)))) Y (ints .u32 (ws (addK t s (k + 1)))) 98) := jh (zea hb3 k _ (t.getD k 0#32 + s.getD k 0#32) rfl)
     have H2 := jh (hb2.far (a := ⟨Y, k, none⟩) (by have := HYW.out; simp; omega) (.int .u32 (wi (t.getD k 0#32 + s.getD k 0#32))))
     have HE : Hid (Ext w (wr.setCell ⟨Y, k, none⟩ (.int .u32 (wi (t.getD k 0#32 + s.getD k 0#32))))) := jh (far_ext hbel (by have := HYW.out; omega))
     generalize t.getD k 0#32 + s.getD k 0#32 = y at *
     generalize t.getD k 0#32 = y1 at *
     generalize s.getD k 0#32 = y2 at *
     have e2 := e1
     rw [IntKind.wrap_u32] at e2
     clear hb2 hb3 hbel hg
     go_wp2_with fail
     go_roundw
     case rel => exact ⟨k + 1, by omega, by go_num, H2.out, HX.out, HE.out⟩
     case measure => simp [intOf]; omega
    ·have hk16 : k = 16 := by omega
     subst hk16
     rw [show ((16 : Nat) : Int) = 16 from rfl]
     rw [addK_full t s HTL.out, ← HOUT.out] at hb3
     have H2 := jh hb2
     have H3 := jh hb3
     have HE := jh hbel
     clear hb2 hb3 hbel
     have HIo := jh (words_size (zej s))
     have HLo : Hid ((ints .u32 (ws (wordsOut s))).length = (ints .u32 (List.replicate 16 0)).length) := jh (by rw [zad, zar, zej, zad, List.length_replicate])
     go_wp2_with (first | (refine zab rfl _ _ rfl Y rfl _ _ _ _ H3.out Tryz.underlying98 HIo.out ?_) | (refine zac rfl _ _ _ rfl (A + 1) (ints .u32 (ws (wordsOut s))) rfl rfl _ _ H2.out HLo.out HIo.out (zai _ _) ?_; intro w8 hb8 hg8))
     refine bodyPost_ret (zap rfl _ (A + 1) _ _ _ _ rfl hb8 Tryz.underlying98 HIo.out) rfl ?_
     exact ⟨rfl, zae HE.out hg8 (by have := HAW.out; omega)⟩
theorem chaBlock_out (kb nb : List UInt8) (ctr : W32) : leB (wordsOut (chaInit kb ctr nb)) 64 = chaBlock kb ctr nb := rfl
theorem CBlock_num (kb nb : List UInt8) (c : Int) (w : World) (hk : kb.length = 32) (hn : nb.length = 12) (hc1 : -9223372036854775808 ≤ c) (hc2 : c ≤ 9223372036854775807) :
  Calls Tryz.prog 41 #[.agg (kb.map bval).toArray, .int .i64 c, .agg (nb.map bval).toArray] w fun e w' => e = .returned (.agg ((chaBlock kb (BitVec.ofInt 32 c) nb).map bval).toArray) ∧ Below w.heap.size w w' := by
 have HKL := jh hk
 have HNL := jh hn
 have HC1 := jh hc1
 have HC2 := jh hc2
 have HB := jh (boxes3 w (kb.map bval) (nb.map bval) (ints .u8 (List.replicate 64 0)) 23 44 68)
 have HIK : Hid ((Tryz.prog.info? 23).map (·.size) = some (kb.map bval).length) := jh (zaf hk)
 have HIN : Hid ((Tryz.prog.info? 44).map (·.size) = some (nb.map bval).length) := jh (zdj hn)
 clear hk hn hc1 hc2
 go_enter Tryz.func41, Tryz.ntmps41
 go_upto_region 1 with (fail)
 obtain ⟨H1, H2, H3, HE⟩ := HB.out
 change Code.wp _ _ _ _ (((w.alloc (.cells (kb.map bval).toArray 23)).alloc (.cells (nb.map bval).toArray 44)).alloc (.cells (ints .u8 (List.replicate 64 0)).toArray 68))
 generalize ((w.alloc (.cells (kb.map bval).toArray 23)).alloc (.cells (nb.map bval).toArray 44)).alloc (.cells (ints .u8 (List.replicate 64 0)).toArray 68) = wa at *
 obtain ⟨B, hB⟩ : ∃ B, B = w.heap.size := ⟨_, rfl⟩
 have HBW : Hid (w.heap.size ≤ B) := jh (by omega)
 rw [← hB] at H1 H2 H3 ⊢
 have H1 := jh H1
 have H2 := jh H2
 have H3 := jh H3
 have HE : Hid (Ext w wa) := jh HE
 clear hB HB
 go_wp2_with (first | (refine zab rfl _ _ rfl B rfl _ _ _ _ H1.out Tryz.underlying23 HIK.out ?_) | (refine zab rfl _ _ rfl (B + 1) rfl _ _ _ _ H2.out Tryz.underlying44 HIN.out ?_))
 refine (cstart_any kb nb c wa HKL.out HNL.out HC1.out HC2.out).mono ?_
 rintro e w5 ⟨rfl, hb⟩
 have H3 := jh (zaa H3.out hb)
 have HE := jh (HE.out.trans hb)
 clear hb
 have HO := jh (chaBlock_out kb nb (BitVec.ofInt 32 c))
 have HSL := jh (zdz kb (BitVec.ofInt 32 c) nb)
 have HLO := jh (zda kb (BitVec.ofInt 32 c) nb)
 generalize chaInit kb (BitVec.ofInt 32 c) nb = s at *
 go_wp2_with fail
 refine (cmixed_any s HSL.out w5).mono ?_
 rintro e w6 ⟨rfl, hb⟩
 have H3 := jh (zaa H3.out hb)
 have HE := jh (HE.out.trans hb)
 clear hb
 go_wp2_with fail
 refine (cbytes_any (wordsOut s) (zej s) w6).mono ?_
 rintro e w7 ⟨rfl, hb⟩
 rw [HO.out]
 have H3 := jh (zaa H3.out hb)
 have HE := jh (HE.out.trans hb)
 clear hb HO
 obtain ⟨o, ho⟩ : ∃ o, o = chaBlock kb (BitVec.ofInt 32 c) nb := ⟨_, rfl⟩
 rw [← ho] at HLO ⊢
 have HO := jh ho
 have HIo : Hid ((Tryz.prog.info? 68).map (·.size) = some (o.map bval).length) := jh (sig_size HLO.out)
 have HLo : Hid ((o.map bval).length = (ints .u8 (List.replicate 64 0)).length) := jh (by rw [List.length_map, HLO.out, zad, List.length_replicate])
 clear ho
 go_wp2_with (refine zac rfl _ _ _ rfl (B + 1 + 1) (o.map bval) rfl rfl _ _ H3.out HLo.out HIo.out (zag _) ?_; intro w9 hb9 hg9)
 refine bodyPost_ret (zap rfl _ (B + 1 + 1) _ _ _ _ rfl hb9 Tryz.underlying68 HIo.out) rfl ?_
 exact ⟨by rw [HO.out], zae HE.out hg9 (by have := HBW.out; omega)⟩
def xorK (cs : List UInt8) (d : Nat) (l o : List UInt8) : Nat → List UInt8
 | 0 => cs
 | k + 1 => (xorK cs d l o k).set (d + k) (l.getD k 0 ^^^ o.getD k 0)
theorem xorK_length (cs : List UInt8) (d : Nat) (l o : List UInt8) : ∀ k, (xorK cs d l o k).length = cs.length
 | 0 => rfl
 | k + 1 => by rw [xorK, List.length_set, xorK_length cs d l o k]
theorem xorK_getD (cs : List UInt8) (d : Nat) (l o : List UInt8) : ∀ k, d + k ≤ cs.length → ∀ i, (xorK cs d l o k).getD i 0 = if d ≤ i ∧ i < d + k then l.getD (i - d) 0 ^^^ o.getD (i - d) 0 else cs.getD i 0
 | 0, _, i => by rw [if_neg (by omega)]; rfl
 | k + 1, hk, i => by
  rw [xorK]
  by_cases e : d + k = i
  ·subst e
   rw [if_pos (by omega), List.getD_eq_getElem?_getD, List.getElem?_set_self (by rw [xorK_length]; omega), show d + k - d = k from by omega]
   rfl
  ·have h := xorK_getD cs d l o k (by omega) i
   rw [List.getD_eq_getElem?_getD, List.getElem?_set_ne e, ← List.getD_eq_getElem?_getD, h]
   by_cases h2 : d ≤ i ∧ i < d + k
   ·rw [if_pos h2, if_pos (by omega)]
   ·rw [if_neg h2, if_neg (by omega)]
theorem cxor_any (w0 w : World) (M d : Nat) (cs l o : List UInt8) (bv : Value) (hE : Ext w0 w) (hM : w0.heap.size ≤ M) (hb : Row1 w0 bv (l.map bval)) (hB : Blk w M (cs.map bval) 5) (ho : o.length = 64) (hl : d + l.length = cs.length) (hl0 : 0 < l.length) (hcs : cs.length ≤ 1099511627776) :
  Calls Tryz.prog 70 #[.slice (some ⟨M, d, none⟩) l.length l.length, bv, .agg (o.map bval).toArray] w fun e w' =>
   e = .returned (.int .i64 ((min l.length 64 : Nat) : Int)) ∧ Blk w' M ((xorK cs d l o (min l.length 64)).map bval) 5 ∧ w.grownBy w' (some M) := by
 obtain ⟨m, hm⟩ : ∃ m, m = min l.length 64 := ⟨_, rfl⟩
 rw [← hm]
 obtain ⟨v2, hr2, hs2⟩ := row_upto (P := Tryz.prog) Tryz.underlying25 Tryz.sizeOf5 hb m (by rw [List.length_map]; omega)
 obtain ⟨a2, c2, he2, ha1, ha2, ha3, ha4⟩ := id hr2
 have hlen2 : ((l.map bval).take m).length = m := by rw [List.length_take, List.length_map]; omega
 rw [hlen2] at he2 ha1
 obtain ⟨b3, off3, rfl, hb3, hcell⟩ := ha4 (by intro e; have h := congrArg List.length e; rw [hlen2] at h; simp at h; omega)
 obtain ⟨a, c, hv, _⟩ := id hb
 rw [List.length_map] at hv
 subst hv he2
 have HCELL : Hid (∀ k, k < m → ∀ w', Ext w0 w' → w'.cell? ⟨b3, off3 + k, none⟩ = some (.int .u8 ((l.getD k 0).toNat : Int))) := jh (fun k hk w' hx => by
  have h1 := hcell k (by rw [hlen2]; exact hk)
  rw [List.getElem?_take, if_pos hk, zbb (by omega)] at h1
  rw [← h1]
  exact hx.cell (p := ⟨b3, off3 + k, none⟩) hb3)
 have HML : Hid (m ≤ l.length ∧ m ≤ 64 ∧ 0 < m) := jh (by omega)
 have hmin : (if (64 : Int) < (l.length : Int) then (64 : Int) else (l.length : Int)) = (m : Int) := by
  by_cases h : (64 : Int) < (l.length : Int)
  ·rw [if_pos h]; omega
  ·rw [if_neg h]; omega
 have HO := jh ho
 have HDL := jh hl
 have HMW := jh hM
 have HBX := jh (Blk.made w (o.map bval) 68)
 have HEX := jh (Ext.alloc w (.cells (o.map bval).toArray 68))
 have HB1 := jh (hB.alloc (.cells (o.map bval).toArray 68))
 have HMS := jh hB.lt
 have HE := jh (hE.trans HEX.out)
 have HG := jh (grown_of_below HEX.out (some M))
 have HCS := jh hcs
 clear hE hM hb hB ho hl hl0 hcs hr2 ha1 ha2 ha3 ha4 hcell hb3 hm hlen2 HEX
 go_enter Tryz.func70, Tryz.ntmps70
 go_upto_region 1 with (fail)
 change Code.wp _ _ _ _ (w.alloc (.cells (o.map bval).toArray 68))
 generalize w.alloc (.cells (o.map bval).toArray 68) = wa at *
 obtain ⟨O, hO⟩ : ∃ O, O = w.heap.size := ⟨_, rfl⟩
 rw [← hO] at HBX HMS ⊢
 clear hO
 go_wp2_with fail
 go_loopw [17] (fun iv wr => ∃ (k : Nat), k ≤ m ∧ iv = .int .i64 (k : Int) ∧ Blk wr M ((xorK cs d l o k).map bval) 5 ∧ Blk wr O (o.map bval) 68 ∧ Ext w0 wr ∧ w.grownBy wr (some M)) (fun iv _ => m - (intOf iv).toNat)
 case atStart => exact ⟨0, by omega, rfl, HB1.out, HBX.out, HE.out, HG.out⟩
 case round =>
  clear HB1 HBX HE HG
  obtain ⟨k, hk, rfl, h1, h2, hE, hG⟩ := hrel
  have k0 : (0 : Int) ≤ (k : Int) := Int.natCast_nonneg _
  by_cases hlk : k < m
  ·have k1 : (k : Int) < (m : Int) := by omega
   have k2 : (k : Int) < 64 := by have := HML.out; omega
   have k3 : (k : Int) < (l.length : Int) := by have := HML.out; omega
   have e1 := HCELL.out k hlk wr hE
   have e2 := h2.cell k
   rw [zbb (by rw [HO.out]; omega)] at e2
   obtain ⟨u3, e3⟩ : ∃ u, wr.cell? ⟨M, d + k, none⟩ = some u := ⟨_, by rw [h1.cell, zbb (by rw [xorK_length]; have := HDL.out; omega)]⟩
   have f3 := h1.free (d + k)
   have x1 := xor_u8 (l.getD k 0) (o.getD k 0)
   have HX : Hid (Blk (wr.setCell ⟨M, d + k, none⟩ (bval (l.getD k 0 ^^^ o.getD k 0))) M ((xorK cs d l o (k + 1)).map bval) 5) := jh (by rw [xorK, List.map_set]; exact h1.set _ _)
   have H2 := jh (h2.far (a := ⟨M, d + k, none⟩) (by have := HMS.out; simp; omega) (bval (l.getD k 0 ^^^ o.getD k 0)))
   have HE : Hid (Ext w0 (wr.setCell ⟨M, d + k, none⟩ (bval (l.getD k 0 ^^^ o.getD k 0)))) := jh (Below.setCell hE HMW.out _)
   have HG := jh (zbh hG (d + k) (bval (l.getD k 0 ^^^ o.getD k 0)))
   clear h1 h2 hE hG
   unfold bval at HX H2 HE HG
   generalize l.getD k 0 ^^^ o.getD k 0 = z at *
   generalize l.getD k 0 = y1 at *
   generalize o.getD k 0 = y2 at *
   change wr.cell? ⟨O, k, none⟩ = some (.int .u8 (y2.toNat : Int)) at e2
   go_wp2_with fail
   have k63 : (k : Int) + 1 ≤ 9223372036854775807 := by omega
   go_wp2_with fail
   go_roundw
   case rel => exact ⟨k + 1, by omega, by go_num, HX.out, H2.out, HE.out, HG.out⟩
   case measure => simp [intOf]; omega
  ·have hkm : k = m := by omega
   subst hkm
   go_wp2_with fail
   go_ret
   exact ⟨rfl, h1, hG⟩
def chaZ (kb : List UInt8) (c : Int) (nb b : List UInt8) (d : Nat) : List UInt8 := (List.range b.length).map fun i => if i < d then b.getD i 0 ^^^ chaByte kb c nb i else 0
theorem zcv (kb : List UInt8) (c : Int) (nb b : List UInt8) (d : Nat) : (chaZ kb c nb b d).length = b.length := by simp [chaZ]
theorem chaZ_getD (kb : List UInt8) (c : Int) (nb b : List UInt8) (d : Nat) {i : Nat} (h : i < b.length) : (chaZ kb c nb b d).getD i 0 = if i < d then b.getD i 0 ^^^ chaByte kb c nb i else 0 := by
 simp [chaZ, List.getD, h]
theorem zB_getD (n i : Nat) : (zB n).getD i 0 = 0 := by
 unfold zB
 rw [List.getD_eq_getElem?_getD, List.getElem?_replicate]
 by_cases h : i < n
 ·rw [if_pos h]; rfl
 ·rw [if_neg h]; rfl
theorem chaZ_zero (kb : List UInt8) (c : Int) (nb b : List UInt8) : chaZ kb c nb b 0 = zB b.length := by
 apply bytes_ext (by rw [zcv, zch])
 intro i hi
 rw [zcv] at hi
 rw [chaZ_getD _ _ _ _ _ hi, if_neg (by omega), zB_getD]
theorem chaZ_full (kb : List UInt8) (c : Int) (nb b : List UInt8) (d : Nat) (h : b.length ≤ d) : chaZ kb c nb b d = chaTurn kb c nb b := by
 apply bytes_ext (by rw [zcv, zbd])
 intro i hi
 rw [zcv] at hi
 rw [chaZ_getD _ _ _ _ _ hi, if_pos (by omega), chaTurn_getD _ _ _ _ hi]
theorem chaZ_step (kb : List UInt8) (c : Int) (nb b o : List UInt8) (j : Nat) (ho : o = chaBlock kb (BitVec.ofInt 32 (c + (j : Int))) nb) (h : 64 * j < b.length) :
  xorK (chaZ kb c nb b (64 * j)) (64 * j) (b.drop (64 * j)) o (min (b.drop (64 * j)).length 64) = chaZ kb c nb b (min (64 * (j + 1)) b.length) := by
 have hdl : (b.drop (64 * j)).length = b.length - 64 * j := List.length_drop
 apply bytes_ext (by rw [xorK_length, zcv, zcv])
 intro i hi
 rw [xorK_length, zcv] at hi
 rw [xorK_getD _ _ _ _ _ (by rw [zcv, hdl]; omega), chaZ_getD _ _ _ _ _ hi, chaZ_getD _ _ _ _ _ hi, hdl]
 by_cases h1 : i < 64 * j
 ·rw [if_neg (by omega), if_pos h1, if_pos (by omega)]
 ·by_cases h2 : i < 64 * (j + 1)
  ·rw [if_pos (by omega), if_pos (by omega)]
   have e1 : (b.drop (64 * j)).getD (i - 64 * j) 0 = b.getD i 0 := by
    rw [List.getD_eq_getElem?_getD, List.getD_eq_getElem?_getD, List.getElem?_drop, show 64 * j + (i - 64 * j) = i from by omega]
   have e2 : o.getD (i - 64 * j) 0 = chaByte kb c nb i := by
    unfold chaByte
    rw [ho, show i / 64 = j from by omega, show i % 64 = i - 64 * j from by omega]
   rw [e1, e2]
  ·rw [if_neg (by omega), if_neg h1, if_neg (by omega)]
theorem ctr_next (c : Int) (j : Nat) : BitVec.ofInt 32 (c + (j : Int)) + 1#32 = BitVec.ofInt 32 (c + ((j + 1 : Nat) : Int)) := by
 apply BitVec.eq_of_toInt_eq
 rw [BitVec.toInt_add, BitVec.toInt_ofInt, BitVec.toInt_ofInt]
 have e : (1#32).toInt = 1 := by decide
 rw [e, Int.bmod_add_bmod]
 congr 1
 omega
theorem cut_tailL {P : Program} {t e : TypeId} (ht : P.underlying t = some (.slice e)) (hs : ∀ w, (sizeOf e).run P w = .ok 1 w) (M n i : Nat) (h : i < n) (w : World) :
  (Instr.sliceAt t (.slice (some ⟨M, 0, none⟩) n n) (some (.int .i64 (i : Int))) none none).run P w = .ok (.slice (some ⟨M, i, none⟩) (n - i) (n - i)) w := by
 have e2 : P.elem t = e := by unfold Program.elem; rw [ht]
 have ht2 : P.underlying t = some (.slice (P.elem t)) := by rw [e2]; exact ht
 rw [run_sliceAt_slice w t _ _ _ _ ht2, run_slice_l (ht := ht2) (kl := .i64) (l := (i : Int)) (h0 := by omega) (h1 := by omega), e2, hs]
 simp [sliced, Addr.add, show ¬ n = i by omega]
 omega
theorem CTurn_num (kb nb b : List UInt8) (bv : Value) (c : Int) (w : World) (hk : kb.length = 32) (hn : nb.length = 12) (hb : Row1 w bv (b.map bval)) (hbl : b.length ≤ 1099511627776) (hc1 : -9223372036854775808 ≤ c) (hc2 : c ≤ 9223372036854775807) :
  Calls Tryz.prog 40 #[.agg (kb.map bval).toArray, .int .i64 c, .agg (nb.map bval).toArray, bv] w fun e w' => ∃ x, e = .returned x ∧ w'.ownsRow w.heap.size 5 1 x b.length ((chaTurn kb c nb b).map bval) ∧ Below w.heap.size w w' := by
 obtain ⟨i0, hi0, hz0, hz1, hz2⟩ := info_parts Tryz.info5
 obtain ⟨a, cap, hv, _⟩ := id hb
 rw [List.length_map] at hv
 subst hv
 have HI0 := jh hi0
 have HZ0 := jh hz0
 have HZ1 := jh hz1
 have HZ2 := jh hz2
 have HKL := jh hk
 have HNL := jh hn
 have HC1 := jh hc1
 have HC2 := jh hc2
 have HBL := jh hbl
 have HR := jh hb
 have HB := jh (boxes2 w (kb.map bval) (nb.map bval) 23 44)
 have HIK : Hid ((Tryz.prog.info? 23).map (·.size) = some (kb.map bval).length) := jh (zaf hk)
 have HIN : Hid ((Tryz.prog.info? 44).map (·.size) = some (nb.map bval).length) := jh (zdj hn)
 have HSZ : Hid (((w.alloc (.cells (kb.map bval).toArray 23)).alloc (.cells (nb.map bval).toArray 44)).heap.size = w.heap.size + 1 + 1) := jh (by simp)
 clear hk hn hc1 hc2 hbl hb hi0 hz0 hz1 hz2
 go_enter Tryz.func40, Tryz.ntmps40
 go_upto_region 1 with (fail)
 obtain ⟨H1, H2, HE⟩ := HB.out
 change Code.wp _ _ _ _ ((w.alloc (.cells (kb.map bval).toArray 23)).alloc (.cells (nb.map bval).toArray 44))
 generalize (w.alloc (.cells (kb.map bval).toArray 23)).alloc (.cells (nb.map bval).toArray 44) = wa at *
 have hmk := zdi wa 25 5 Tryz.underlying25 i0 HI0.out HZ0.out HZ1.out HZ2.out b.length (by have := HBL.out; omega)
 have HMA := Blk.made wa ((zB b.length).map bval) 5
 have HEM := Ext.alloc wa (.cells ((zB b.length).map bval).toArray 5)
 have H1 := jh (zaa H1 HEM)
 have H2 := jh (zaa H2 HEM)
 have HE : Hid (Ext w _) := jh (Ext.trans (b := wa) HE HEM)
 have HM := jh HMA
 clear HMA HEM HB
 go_upto_region 2 with (fail)
 change Code.wp _ _ _ _ (wa.alloc (.cells ((zB b.length).map bval).toArray 5))
 clear hmk
 generalize wa.alloc (.cells ((zB b.length).map bval).toArray 5) = w2 at *
 obtain ⟨M, hM⟩ : ∃ M, M = wa.heap.size := ⟨_, rfl⟩
 have HMW : Hid (w.heap.size ≤ M) := jh (by rw [hM, HSZ.out]; omega)
 rw [← hM] at HM ⊢
 obtain ⟨K, hK⟩ : ∃ K, K = w.heap.size := ⟨_, rfl⟩
 rw [← hK] at H1 H2 ⊢
 clear hM hK HSZ
 go_wp2_with (first | (refine zab rfl _ _ rfl K rfl _ _ _ _ H1.out Tryz.underlying23 HIK.out ?_) | (refine zab rfl _ _ rfl (K + 1) rfl _ _ _ _ H2.out Tryz.underlying44 HIN.out ?_))
 refine (cstart_any kb nb c w2 HKL.out HNL.out HC1.out HC2.out).mono ?_
 rintro e w5 ⟨rfl, hb⟩
 have HM := jh (zaa HM.out hb)
 have HE := jh (HE.out.trans hb)
 clear hb H1 H2
 obtain ⟨s, hs⟩ : ∃ s, s = chaInit kb (BitVec.ofInt 32 c) nb := ⟨_, rfl⟩
 rw [← hs]
 have HSS := jh hs
 have HSL : Hid (s.length = 16) := jh (by rw [hs]; exact zdz _ _ _)
 clear hs
 have HXB := jh (Blk.made w5 (ints .u32 (List.replicate 16 0)) 98)
 have HXA := jh (Ext.alloc w5 (.cells (ints .u32 (List.replicate 16 0)).toArray 98))
 have HML := jh HM.out.lt
 have HIs := jh (words_size HSL.out)
 have HLs : Hid ((ints .u32 (ws s)).length = (ints .u32 (List.replicate 16 0)).length) := jh (by rw [zad, zar, HSL.out, zad, List.length_replicate])
 go_upto_region 3 with (refine zac rfl _ _ _ rfl w5.heap.size (ints .u32 (ws s)) rfl rfl _ _ HXB.out HLs.out HIs.out (zai _ _) ?_; intro w7 hb7 hg7)
 have HX := jh hb7
 have HM := jh ((HM.out.below HXA.out).grown hg7 (fun e => by have h := Option.some.inj e; have := HML.out; omega))
 have HE := jh (zae (HE.out.trans HXA.out) hg7 HE.out.size)
 have HMX : Hid (M ≠ w5.heap.size) := jh (by have := HML.out; omega)
 have HXW : Hid (w.heap.size ≤ w5.heap.size) := jh (by have := HML.out; have := HMW.out; omega)
 obtain ⟨X, hX⟩ : ∃ X, X = w5.heap.size := ⟨_, rfl⟩
 rw [← hX] at HX HMX HXW ⊢
 clear hX hb7 hg7 HXB HXA HML HLs HIs
 rw [HSS.out] at HX
 clear HSL HSS
 go_wp2_with fail
 go_loopw [11] (fun dv wr => ∃ (j : Nat), dv = .int .i64 ((min (64 * j) b.length : Nat) : Int) ∧ Blk wr M ((chaZ kb c nb b (min (64 * j) b.length)).map bval) 5 ∧ Blk wr X (ints .u32 (ws (chaInit kb (BitVec.ofInt 32 (c + (j : Int))) nb))) 98 ∧ Ext w wr) (fun dv _ => b.length - (intOf dv).toNat)
 case atStart => exact ⟨0, by simp, by rw [show min (64 * 0) b.length = 0 from by omega, chaZ_zero]; exact HM.out, by rw [show c + ((0 : Nat) : Int) = c from by omega]; exact HX.out, HE.out⟩
 case round =>
  clear HM HX HE
  obtain ⟨j, rfl, hm, hx, hE⟩ := hrel
  by_cases hlt : 64 * j < b.length
  ·have hmn : min (64 * j) b.length = 64 * j := by omega
   have hlt2 : ((64 * j : Nat) : Int) < (b.length : Int) := by omega
   rw [hmn] at hm ⊢
   obtain ⟨l, hl⟩ : ∃ l, l = b.drop (64 * j) := ⟨_, rfl⟩
   obtain ⟨s, hs⟩ : ∃ s, s = chaInit kb (BitVec.ofInt 32 (c + (j : Int))) nb := ⟨_, rfl⟩
   obtain ⟨o, ho⟩ : ∃ o, o = chaBlock kb (BitVec.ofInt 32 (c + (j : Int))) nb := ⟨_, rfl⟩
   have HOUT : Hid (leB (wordsOut s) 64 = o) := jh (by rw [hs, ho]; exact chaBlock_out _ _ _)
   have HOL : Hid (o.length = 64) := jh (by rw [ho]; exact zda _ _ _)
   have HSL : Hid (s.length = 16) := jh (by rw [hs]; exact zdz _ _ _)
   have hstep := chaZ_step kb c nb b o j ho hlt
   rw [← hl] at hstep
   have HSTEP := jh hstep
   have HNEXT : Hid (s.set 12 (BitVec.ofInt 32 (c + (j : Int)) + 1#32) = chaInit kb (BitVec.ofInt 32 (c + ((j + 1 : Nat) : Int))) nb) := jh (by rw [hs, ctr_next]; rfl)
   have HC12 : Hid (s.getD 12 0#32 = BitVec.ofInt 32 (c + (j : Int))) := jh (by rw [hs]; rfl)
   rw [← hs] at hx
   have HIX := jh (words_size HSL.out)
   have HDD : Hid (l.length = b.length - 64 * j) := jh (by rw [hl]; exact List.length_drop)
   have HDL : Hid (64 * j + l.length = (chaZ kb c nb b (64 * j)).length) := jh (by rw [zcv, HDD.out]; omega)
   have HDP : Hid (0 < l.length) := jh (by rw [HDD.out]; omega)
   have HZL : Hid ((chaZ kb c nb b (64 * j)).length ≤ 1099511627776) := jh (by rw [zcv]; exact HBL.out)
   have HADD : Hid (IntKind.i64.wrap (((64 * j : Nat) : Int) + ((min l.length 64 : Nat) : Int)) = ((min (64 * (j + 1)) b.length : Nat) : Int)) := jh (by have := HBL.out; rw [IntKind.wrap_i64, HDD.out]; omega)
   have HCUT : Hid (∀ wx, (Instr.sliceAt 25 (.slice (some ⟨M, 0, none⟩) b.length b.length) (some (.int .i64 ((64 * j : Nat) : Int))) none none).run Tryz.prog wx = .ok (.slice (some ⟨M, 64 * j, none⟩) l.length l.length) wx) := jh (fun wx => by rw [HDD.out]; exact cut_tailL Tryz.underlying25 Tryz.sizeOf5 M b.length (64 * j) hlt wx)
   obtain ⟨bv2, hr2, hc2⟩ := row_cut (P := Tryz.prog) Tryz.underlying25 Tryz.sizeOf5 HR.out (64 * j) (by rw [List.length_map]; omega)
   rw [← List.map_drop, ← hl] at hr2
   have HR2 := jh hr2
   have HCUT2 := jh hc2
   have HM := jh hm
   have HX := jh hx
   have HE := jh hE
   have HLT := jh hlt
   clear hm hx hE hmn hlt hs ho hr2 hc2 hl hstep
   go_upto_region 5 with (fail)
   have B0 : Ext w wr.drew ∧ Blk wr.drew X (ints .u32 (ws s)) 98 := ⟨HE.out.trans (Ext.drew _), HX.out.below (Ext.drew _)⟩
   refine wp_region_held_drew (S := fun w' => Ext w w' ∧ Blk w' X (ints .u32 (ws s)) 98) (by kernel_rfl) B0 (fun hHeld => ?_)
   refine tke 0 (.int .i64 ((64 * j : Nat) : Int)) rfl (zbv _ (.int .i64 ((64 * j : Nat) : Int)) (by rfl) rfl rfl) hHeld ?_
   simp only [Act.put, nrm]
   refine tke 1 (.slice (some ⟨M, 0, none⟩) b.length b.length) rfl (zbv _ (.slice (some ⟨M, 0, none⟩) b.length b.length) (by rfl) rfl rfl) hHeld ?_
   simp only [Act.put, nrm]
   refine tke 2 (.int .i64 ((64 * j : Nat) : Int)) rfl (zbv _ (.int .i64 ((64 * j : Nat) : Int)) (by rfl) rfl rfl) hHeld ?_
   simp only [Act.put, nrm]
   refine tke 3 (.slice (some ⟨M, 64 * j, none⟩) l.length l.length) rfl (zbm _ _ _ _ (.slice (some ⟨M, 0, none⟩) b.length b.length) (.slice (some ⟨M, 64 * j, none⟩) l.length l.length) (some (.int .i64 ((64 * j : Nat) : Int))) none (by rfl) rfl rfl rfl rfl HCUT.out) hHeld ?_
   simp only [Act.put, nrm]
   refine tke 4 (.slice a b.length cap) rfl (zbv _ (.slice a b.length cap) (by rfl) rfl rfl) hHeld ?_
   simp only [Act.put, nrm]
   refine tke 5 (.int .i64 ((64 * j : Nat) : Int)) rfl (zbv _ (.int .i64 ((64 * j : Nat) : Int)) (by rfl) rfl rfl) hHeld ?_
   simp only [Act.put, nrm]
   refine tke 6 bv2 rfl (zbm _ _ _ _ (.slice a b.length cap) bv2 (some (.int .i64 ((64 * j : Nat) : Int))) none (by rfl) rfl rfl rfl rfl HCUT2.out) hHeld ?_
   simp only [Act.put, nrm]
   refine tke 7 (.agg (ints .u32 (ws s)).toArray) rfl (yieldsIf_load_mid (by rfl) _ _ rfl X 0 rfl _ _ (fun w h => Blk.range h.2) Tryz.underlying98 rfl HIX.out) hHeld ?_
   simp only [Act.put, nrm]
   refine rdy 8 rfl fun K hK => ?_
   go_simp
   refine (cmixed_any s HSL.out _).mono ?_
   rintro e m1 ⟨rfl, b1⟩
   have N1 : Ext w m1 ∧ Blk m1 X (ints .u32 (ws s)) 98 := ⟨B0.1.trans b1, zaa B0.2 b1⟩
   refine hK.out _ _ N1 (fun hHeld => ?_)
   clear hK K
   try simp only [Act.put, nrm]
   refine rdy 9 rfl fun K hK => ?_
   go_simp
   refine (cbytes_any (wordsOut s) (zej s) _).mono ?_
   rintro e m2 ⟨rfl, b2⟩
   rw [HOUT.out]
   have N2 : Ext w m2 ∧ Blk m2 X (ints .u32 (ws s)) 98 := ⟨N1.1.trans b2, zaa N1.2 b2⟩
   refine hK.out _ _ N2 (fun hHeld => ?_)
   clear hK K
   try simp only [Act.put, nrm]
   refine rdy 10 rfl fun K hK => ?_
   go_simp
   refine (cxor_any w m2 M (64 * j) (chaZ kb c nb b (64 * j)) l o bv2 N2.1 HMW.out HR2.out (zaa (zaa (HM.out.below (Ext.drew _)) b1) b2) HOL.out HDL.out HDP.out HZL.out).mono ?_
   rintro e m3 ⟨rfl, hb3, hg3⟩
   rw [HSTEP.out] at hb3
   have N3 : Ext w m3 ∧ Blk m3 X (ints .u32 (ws s)) 98 := ⟨zae N2.1 hg3 HMW.out, N2.2.grown hg3 (fun e => HMX.out (Option.some.inj e))⟩
   refine hK.out _ _ N3 (fun hHeld => ?_)
   clear hK K
   try simp only [Act.put, nrm]
   refine tke 11 (.int .i64 ((min (64 * (j + 1)) b.length : Nat) : Int)) rfl (yi_add .i64 _ _ _ _ _ _ _ HADD.out (by rfl) rfl rfl rfl) hHeld ?_
   simp only [Act.put, nrm]
   refine rdy 12 rfl fun K hK => ?_
   go_simp
   refine hK.out _ _ N3 (fun hHeld => ?_)
   clear hK K
   try simp only [Act.put, nrm]
   refine dne ?_
   have HM1 := jh hb3
   have HX1 := jh N3.2
   have HE1 := jh N3.1
   clear hb3 hg3 N1 N2 N3 b1 b2 B0 HM HX HE HADD HCUT HCUT2 HR2 HSTEP HOUT HDL HDP HZL HIX HDD
   have c0 := zbe HX1.out (i := 12) (by rw [HSL.out]; omega)
   rw [HC12.out] at c0
   have f0 := HX1.out.free 12
   obtain ⟨z, hz⟩ : ∃ z, z = BitVec.ofInt 32 (c + (j : Int)) := ⟨_, rfl⟩
   rw [← hz] at HNEXT c0
   have hw1 : IntKind.u32.wrap (wi z + 1) = wi (z + 1#32) := zbx z 1#32
   have hw2 := hw1
   rw [IntKind.wrap_u32] at hw2
   have HXS := zea HX1.out 12 (wi (z + 1#32)) (z + 1#32) rfl
   rw [HNEXT.out] at HXS
   have HXS := jh HXS
   have HMS := jh (HM1.out.far (a := ⟨X, 12, none⟩) (fun e => HMX.out e.symm) (.int .u32 (wi (z + 1#32))))
   have HES : Hid (Ext w (m3.setCell ⟨X, 12, none⟩ (.int .u32 (wi (z + 1#32))))) := jh (far_ext HE1.out HXW.out)
   clear HM1 HX1 HE1 HNEXT HC12 hz
   generalize z + 1#32 = z1 at *
   go_wp2_with fail
   go_roundw
   case rel =>
    exact ⟨j + 1, rfl, HMS.out, HXS.out, HES.out⟩
   case measure => have := HLT.out; simp [intOf]; omega
  ·have hmn : min (64 * j) b.length = b.length := by omega
   have hlt2 : ¬ ((b.length : Int) < (b.length : Int)) := by omega
   rw [hmn] at hm ⊢
   rw [chaZ_full kb c nb b _ (Nat.le_refl _)] at hm
   have HMF := jh hm
   have HE := jh hE
   clear hm hE hx hmn hlt
   go_wp2_with fail
   go_ret
   exact ⟨_, rfl, own_blk HMF.out HMW.out (by rw [List.length_map, zbd]) (by have := HBL.out; unfold maxLen; omega), HE.out⟩
theorem z16_zB (n : Nat) : z16 n = zB ((16 - n % 16) % 16) := rfl
theorem afilling_any (v : Value) (l : List UInt8) (w : World) (hv : Row1 w v (l.map bval)) :
  Calls Tryz.prog 43 #[v] w fun e w' => ∃ x, e = .returned x ∧ w'.ownsRow w.heap.size 5 1 x (z16 l.length).length ((z16 l.length).map bval) ∧ Below w.heap.size w w' := by
 obtain ⟨i0, hi0, hz0, hz1, hz2⟩ := info_parts Tryz.info5
 obtain ⟨a, cap, rfl, h1, h2, _⟩ := id hv
 rw [List.length_map] at h1 ⊢
 unfold maxLen at h2
 rw [z16_length, z16_zB]
 obtain ⟨r, hr⟩ : ∃ r, r = l.length % 16 := ⟨_, rfl⟩
 obtain ⟨q, hq⟩ : ∃ q, q = 16 - r := ⟨_, rfl⟩
 obtain ⟨k, hk⟩ : ∃ k, k = q % 16 := ⟨_, rfl⟩
 rw [← hr, ← hq, ← hk]
 have e1 : Int.tmod ((l.length : Nat) : Int) 16 = (r : Int) := by rw [Int.tmod_eq_emod_of_nonneg (by omega)]; omega
 have e1' : ((l.length : Nat) : Int) % 16 = (r : Int) := by omega
 have e2 : (16 : Int) - (r : Int) = (q : Int) := by omega
 have e3 : Int.tmod (q : Int) 16 = (k : Int) := by rw [Int.tmod_eq_emod_of_nonneg (by omega)]; omega
 have e3' : (q : Int) % 16 = (k : Int) := by omega
 have q0 : (0 : Int) ≤ (q : Int) := Int.natCast_nonneg _
 have q1 : (q : Int) ≤ 16 := by omega
 have k0 : (0 : Int) ≤ (k : Int) := Int.natCast_nonneg _
 have hmk := zdi w 25 5 Tryz.underlying25 i0 hi0 hz0 hz1 hz2 k (by omega)
 have HO : Hid ((w.alloc (.cells ((zB k).map bval).toArray 5)).ownsRow w.heap.size 5 1 (.slice (some ⟨w.heap.size, 0, none⟩) k k) k ((zB k).map bval)) := jh (own_made _ _ _ _ _ _ rfl (by rw [List.length_map, zch]) (by unfold maxLen; omega) (Nat.le_refl _))
 clear hi0 hz0 hz1 hz2 hr hq hk hv
 go_enter Tryz.func43, Tryz.ntmps43
 go_wp2_with fail
 go_ret
 exact ⟨_, rfl, HO.out, Ext.alloc _ _⟩
theorem alength_any (v : Value) (l : List UInt8) (w : World) (hv : Row1 w v (l.map bval)) :
  Calls Tryz.prog 44 #[v] w fun e w' => ∃ x, e = .returned x ∧ w'.ownsRow w.heap.size 5 1 x 8 ((bytesN 8 l.length).map bval) ∧ Below w.heap.size w w' := by
 obtain ⟨i0, hi0, hz0, hz1, hz2⟩ := info_parts Tryz.info5
 obtain ⟨a, cap, rfl, h1, h2, _⟩ := id hv
 rw [List.length_map] at h1 ⊢
 unfold maxLen at h2
 generalize l.length = n at *
 have hmk := zdi w 25 5 Tryz.underlying25 i0 hi0 hz0 hz1 hz2 8 (by omega)
 rw [show ((8 : Nat) : Int) = 8 from rfl] at hmk
 have HMA : Hid (Blk (w.alloc (.cells ((zB 8).map bval).toArray 5)) w.heap.size ((fill 8 (bytesN 8 n) 0).map bval) 5) := jh (by rw [fill_zero]; exact Blk.made w ((zB 8).map bval) 5)
 have HEM : Hid (Ext w (w.alloc (.cells ((zB 8).map bval).toArray 5))) := jh (Ext.alloc _ _)
 clear hi0 hz0 hz1 hz2 hv
 go_enter Tryz.func44, Tryz.ntmps44
 go_upto_region 2 with (fail)
 change Code.wp _ _ _ _ (w.alloc (.cells ((zB 8).map bval).toArray 5))
 clear hmk
 generalize w.alloc (.cells ((zB 8).map bval).toArray 5) = w1 at *
 obtain ⟨M, hM⟩ : ∃ M, M = w.heap.size := ⟨_, rfl⟩
 have HMW : Hid (w.heap.size = M) := jh hM.symm
 rw [← hM] at HMA ⊢
 clear hM
 go_wp2_with fail
 go_loopw [8] (fun iv wr => ∃ (j : Nat), j ≤ 8 ∧ iv = .int .i64 (j : Int) ∧ Blk wr M ((fill 8 (bytesN 8 n) j).map bval) 5 ∧ Ext w wr) (fun iv _ => 8 - (intOf iv).toNat)
 case atStart => exact ⟨0, by omega, rfl, HMA.out, HEM.out⟩
 case round =>
  clear HMA HEM
  obtain ⟨j, hj, rfl, hbm, hbel⟩ := hrel
  have j0 : (0 : Int) ≤ (j : Int) := Int.natCast_nonneg _
  have HMA := jh hbm
  have HX := jh hbel
  by_cases hlj : j < 8
  ·have j1 : (j : Int) < 8 := by omega
   obtain ⟨e, he⟩ : ∃ e : Nat, e = 8 * j := ⟨_, rfl⟩
   have e1 : 8 * (j : Int) = (e : Int) := by omega
   have e64 : (e : Int) < 64 := by omega
   have e0 : (0 : Int) ≤ (e : Int) := by omega
   have ep : (2 : Int) ^ e = ((256 ^ j : Nat) : Int) := by rw [he, Int.pow_mul]; simp
   have hv1 : (n : Int) / 2 ^ e = ((n / 256 ^ j : Nat) : Int) := by rw [ep, ← Int.natCast_ediv]
   have hb1 : n / 256 ^ j ≤ n := Nat.div_le_self _ _
   have HBY : Hid ((((n / 256 ^ j : Nat) : Int)) % 256 = (((bytesN 8 n).getD j 0).toNat : Int)) := jh (by rw [bytesN_getD 8 n j hlj]; omega)
   generalize n / 256 ^ j = q at *
   have HS1 := jh (fill_set_val (n := 8) (zaz 8 n) hlj HBY.out)
   obtain ⟨u6, c6⟩ : ∃ u, wr.cell? ⟨M, j, none⟩ = some u := ⟨_, by rw [hbm.cell, zbb (by rw [fill_length (zaz _ _) (by omega)]; exact hlj)]⟩
   have f6 := hbm.free j
   have HMX := HX.out.size
   clear hbm hbel he ep HBY
   go_wp2_with fail
   go_roundw
   case rel => exact ⟨j + 1, by omega, by go_num, by rw [← HS1.out]; exact HMA.out.set _ _, Below.setCell HX.out (by have := HMW.out; simp; omega) _⟩
   case measure => simp [intOf]; omega
  ·have hj8 : j = 8 := by omega
   subst hj8
   rw [show ((8 : Nat) : Int) = 8 from rfl]
   rw [fill_full (zaz _ _)] at HMA
   clear hbel hbm hj j0 hlj
   go_wp2_with fail
   go_ret
   exact ⟨_, rfl, own_blk HMA.out (by rw [HMW.out]; exact Nat.le_refl _) (by rw [List.length_map, zaz]) (by unfold maxLen; omega), HX.out⟩
theorem aturned_any (kb nb p : List UInt8) (pv : Value) (w : World) (hk : kb.length = 32) (hn : nb.length = 12) (hp : Row1 w pv (p.map bval)) (hpl : p.length ≤ 1099511627776) :
  Calls Tryz.prog 25 #[.agg (kb.map bval).toArray, .agg (nb.map bval).toArray, pv] w fun e w' => ∃ x, e = .returned x ∧ w'.ownsRow w.heap.size 5 1 x p.length ((chaTurn kb 1 nb p).map bval) ∧ Below w.heap.size w w' := by
 have HP0 := jh hp
 have HPL := jh hpl
 have HB := jh (boxes2 w (kb.map bval) (nb.map bval) 23 44)
 have HIK : Hid ((Tryz.prog.info? 23).map (·.size) = some (kb.map bval).length) := jh (zaf hk)
 have HIN : Hid ((Tryz.prog.info? 44).map (·.size) = some (nb.map bval).length) := jh (zdj hn)
 have HKL := jh hk
 have HNL := jh hn
 clear hp hk hn hpl
 go_enter Tryz.func25, Tryz.ntmps25
 go_upto_region 1 with (fail)
 obtain ⟨H1, H2, HE⟩ := HB.out
 change Code.wp _ _ _ _ ((w.alloc (.cells (kb.map bval).toArray 23)).alloc (.cells (nb.map bval).toArray 44))
 generalize (w.alloc (.cells (kb.map bval).toArray 23)).alloc (.cells (nb.map bval).toArray 44) = wa at *
 obtain ⟨A, hA⟩ : ∃ A, A = w.heap.size := ⟨_, rfl⟩
 rw [← hA] at H1 H2 ⊢
 have H1 := jh H1
 have H2 := jh H2
 have HE : Hid (Ext w wa) := jh HE
 have HA := jh hA
 clear hA HB
 go_wp2_with (first | (refine zab rfl _ _ rfl A rfl _ _ _ _ H1.out Tryz.underlying23 HIK.out ?_) | (refine zab rfl _ _ rfl (A + 1) rfl _ _ _ _ H2.out Tryz.underlying44 HIN.out ?_))
 refine (CTurn_num kb nb p _ 1 wa HKL.out HNL.out (HP0.out.below HE.out) HPL.out (by decide) (by decide)).mono ?_
 rintro e w1 ⟨x1, rfl, ho1, hb1⟩
 have HO1 := jh (own_mono ho1 HE.out.size)
 have HE := jh (HE.out.trans hb1)
 clear ho1 hb1
 go_wp2_with fail
 go_ret
 exact ⟨_, rfl, HO1.out, HE.out⟩
section
theorem rowB6 {w : World} {v x y z u t s : Value} {l m n o p q : List UInt8} (h : Row1 w v [x, y, z, u, t, s]) (hx : Row1 w x (l.map bval)) (hy : Row1 w y (m.map bval)) (hz : Row1 w z (n.map bval)) (hu : Row1 w u (o.map bval)) (ht : Row1 w t (p.map bval)) (hs : Row1 w s (q.map bval)) : RowB w v [l, m, n, o, p, q] :=
 ⟨_, h, rfl, fun i c k hc hk => by
  match i with
  | 0 => simp at hc hk; subst hc; subst hk; exact hx
  | 1 => simp at hc hk; subst hc; subst hk; exact hy
  | 2 => simp at hc hk; subst hc; subst hk; exact hz
  | 3 => simp at hc hk; subst hc; subst hk; exact hu
  | 4 => simp at hc hk; subst hc; subst hk; exact ht
  | 5 => simp at hc hk; subst hc; subst hk; exact hs
  | i + 6 => simp at hc⟩
end
theorem grown_own (w : World) (base n cap : Nat) (e : TypeId) (cur : Array Value) (hb : base ≤ w.heap.size) (hc : cap ≤ maxLen) (hs : cur.size = cap) : (w.alloc (.cells cur e)).ownsRow base e 1 (.slice (some ⟨w.heap.size, 0, none⟩) 0 cap) 0 [] :=
 ⟨rfl, Or.inr ⟨w.heap.size, cap, cur, rfl, hb, heap_alloc_new w _, Nat.zero_le _, hc, by omega, rfl⟩⟩
theorem stdGrow_nil (n : Nat) (w : World) (hn : n ≤ 1099511627776) :
  Calls Tryz.prog 29 #[.slice none 0 0, .int .i64 (n : Int)] w fun e w' => ∃ x, e = .returned x ∧ w'.ownsRow w.heap.size 5 1 x 0 [] ∧ Below w.heap.size w w' := by
 obtain ⟨i0, hi, hz0, hz1, hz2⟩ := info_parts Tryz.info5
 have h0 : (0 : Int) ≤ (n : Int) := Int.natCast_nonneg _
 have HNB := jh hn
 go_enter Tryz.func29, Tryz.ntmps29
 rcases Nat.eq_zero_or_pos n with rfl | hp
 ·clear hi hz0 hz1 hz2
  go_wp2_with fail
  go_ret
  exact ⟨_, rfl, World.ownsRow_nil _ _ _ _, Below.refl _ _⟩
 ·have hp' : (0 : Int) < (n : Int) := by omega
  have HR := jh (Lib.run_append_nil_zeros (P := Tryz.prog) w 25 3 0 5 i0 (.int .u8 0) .i64 .i64 Tryz.underlying25 rfl hi hz0 n hp (by rw [hz1]; decide) (by omega) (by rw [hz2]; omega))
  have HG : Hid (grownCap w n 0 5 ≤ maxLen) := jh (grownCap_le_maxLen w n 0 _ (by unfold maxLen; omega))
  have HG2 : Hid (n ≤ grownCap w n 0 5) := jh (grownCap_ge w n 0 _)
  have HSZ : Hid ((Builtin.zeroCells (Value.cells (.int .u8 0)) n ++ Builtin.zeroCells (Value.cells (.int .u8 0)) (grownCap w n 0 5 - n)).size = grownCap w n 0 5) := jh (by
   rw [Array.size_append, size_zeroCells, size_zeroCells]
   have := HG2.out
   simp [Value.cells]
   omega)
  clear hi hz0 hz1 hz2
  generalize Builtin.zeroCells (Value.cells (.int .u8 0)) n ++ Builtin.zeroCells (Value.cells (.int .u8 0)) (grownCap w n 0 5 - n) = cur at *
  generalize grownCap w n 0 5 = cap at *
  have hc0 : (0 : Int) ≤ (cap : Int) := Int.natCast_nonneg _
  go_wp2_with (at_builtin; refine Lib.wpList_append_run _ rfl _ _ _ _ rfl _ _ rfl rfl _ _ HR.out ?_)
  go_ret
  exact ⟨_, rfl, grown_own w.drew _ n cap _ cur (Nat.le_refl _) HG.out HSZ.out, below_drewN (Ext.alloc w _) 1⟩
theorem cat_succ (ls : List (List UInt8)) (k : Nat) (l : List UInt8) (h : ls[k]? = some l) : (ls.take (k + 1)).flatten = (ls.take k).flatten ++ l := by
 have hk : k < ls.length := by
  rcases Nat.lt_or_ge k ls.length with h' | h'
  ·exact h'
  ·rw [List.getElem?_eq_none h'] at h; cases h
 rw [List.take_succ_eq_append_getElem hk, List.flatten_append]
 rw [List.getElem?_eq_getElem hk] at h
 cases h
 simp
theorem cat_part (ls : List (List UInt8)) (k : Nat) : (ls.take k).flatten.length ≤ ls.flatten.length := by
 have h : ls.flatten = (ls.take k).flatten ++ (ls.drop k).flatten := by rw [← List.flatten_append, List.take_append_drop]
 rw [h, List.length_append]
 omega
theorem cat_all (ls : List (List UInt8)) : (ls.take ls.length).flatten = ls.flatten := by rw [List.take_length]
theorem stdConcat_any (v : Value) (ls : List (List UInt8)) (w : World) (hv : RowB w v ls) (hb : ls.flatten.length ≤ 1099511627776) :
  Calls Tryz.prog 16 #[v] w fun e w' => ∃ x, e = .returned x ∧ w'.ownsRow w.heap.size 5 1 x ls.flatten.length (ls.flatten.map bval) ∧ Below w.heap.size w w' := by
 obtain ⟨i0, hi, hz0, hz1, hz2⟩ := info_parts Tryz.info5
 obtain ⟨vals, hr, hlen, hx⟩ := hv
 obtain ⟨a, cap, rfl, r1, r2, r3, r4⟩ := id hr
 unfold maxLen at r2
 rw [hlen] at r1 ⊢
 have HI0 := jh hi
 have HZ0 := jh hz0
 have HZ1 := jh hz1
 have HZ2 := jh hz2
 have HX := jh hx
 have HC := jh r4
 have HLN := jh hlen
 have HB := jh hb
 clear hr hx r3 r4 hb hlen hi hz0 hz1 hz2
 go_enter Tryz.func16, Tryz.ntmps16
 go_wp2_with fail
 go_loop [3, 11] (fun sv iv => ∃ (k : Nat), k ≤ ls.length ∧ iv = .int .i64 (k : Int) ∧ sv = .int .i64 ((ls.take k).flatten.length : Int)) (fun _ iv => ls.length - (intOf iv).toNat)
 case atStart => exact ⟨0, by omega, rfl, rfl⟩
 case round =>
  obtain ⟨k, hk, rfl, rfl⟩ := hrel
  have k0 : (0 : Int) ≤ (k : Int) := Int.natCast_nonneg _
  by_cases hlk : k < ls.length
  ·have k1 : (k : Int) < (ls.length : Int) := by omega
   obtain ⟨b', off, rfl, hbs, hcell⟩ := HC.out (by intro e; have h := congrArg List.length e; rw [HLN.out] at h; simp only [List.length_nil] at h; omega)
   obtain ⟨xv, hxv⟩ : ∃ x, vals[k]? = some x := ⟨_, List.getElem?_eq_getElem (by rw [HLN.out]; exact hlk)⟩
   obtain ⟨lk, hlk2⟩ : ∃ x, ls[k]? = some x := ⟨_, List.getElem?_eq_getElem hlk⟩
   obtain ⟨ax, cx, hxx, _⟩ := HX.out k xv lk hxv hlk2
   rw [List.length_map] at hxx
   have hft := cat_succ ls k lk hlk2
   have hfl := cat_part ls (k + 1)
   rw [hft, List.length_append] at hfl
   have HFT : Hid ((ls.take (k + 1)).flatten.length = (ls.take k).flatten.length + lk.length) := jh (by rw [hft, List.length_append])
   have c0 : w.cell? ⟨b', off + k, none⟩ = some xv := by
    have h := hcell k (by rw [HLN.out]; exact hlk)
    rw [hxv] at h
    exact h
   subst hxx
   have hB := HB.out
   generalize (ls.take k).flatten.length = p at *
   have hpl : (p : Int) + (lk.length : Int) ≤ 1099511627776 := by omega
   have hp0 : (0 : Int) ≤ (p : Int) := Int.natCast_nonneg _
   have hl0 : (0 : Int) ≤ (lk.length : Int) := Int.natCast_nonneg _
   have hlk0 : (0 : Int) ≤ (p : Int) + (lk.length : Int) := by omega
   clear hcell hxv hlk2 hft hfl
   go_wp2_with fail
   go_round
   case rel =>
    refine ⟨k + 1, by omega, by go_num, ?_⟩
    rw [HFT.out]
    rfl
   case measure => simp [intOf]; omega
  ·have hk2 : (ls.length : Int) ≤ (k : Int) := by omega
   obtain rfl : k = ls.length := by omega
   rw [cat_all]
   obtain ⟨N, hN⟩ : ∃ N, N = ls.flatten.length := ⟨_, rfl⟩
   have HNB : Hid (N ≤ 1099511627776) := jh (by rw [hN]; exact HB.out)
   rw [← hN]
   have n0 : (0 : Int) ≤ (N : Int) := Int.natCast_nonneg _
   clear hN
   go_wp2_with fail
   refine (stdGrow_nil N w HNB.out).mono ?_
   rintro e w1 ⟨x1, rfl, ho1, hb1⟩
   have HNIL := jh ho1
   have HE1 : Hid (Ext w w1) := jh hb1
   clear ho1 hb1
   go_wp2_with fail
   go_loopw [6, 27] (fun x iv wr => ∃ (k : Nat), k ≤ ls.length ∧ iv = .int .i64 (k : Int) ∧ wr.ownsRow w.heap.size 5 1 x (ls.take k).flatten.length ((ls.take k).flatten.map bval) ∧ Ext w wr) (fun _ iv _ => ls.length - (intOf iv).toNat)
   case atStart => exact ⟨0, by omega, rfl, HNIL.out, HE1.out⟩
   case round =>
    clear HNIL HE1
    obtain ⟨k, hk, rfl, ho, hE⟩ := hrel
    have k0 : (0 : Int) ≤ (k : Int) := Int.natCast_nonneg _
    have HO := jh ho
    have HE := jh hE
    have HS := jh hE.size
    clear ho hE
    by_cases hlk : k < ls.length
    ·have k1 : (k : Int) < (ls.length : Int) := by omega
     obtain ⟨b', off, rfl, hbs, hcell⟩ := HC.out (by intro e; have h := congrArg List.length e; rw [HLN.out] at h; simp only [List.length_nil] at h; omega)
     obtain ⟨xv, hxv⟩ : ∃ x, vals[k]? = some x := ⟨_, List.getElem?_eq_getElem (by rw [HLN.out]; exact hlk)⟩
     obtain ⟨lk, hlk2⟩ : ∃ x, ls[k]? = some x := ⟨_, List.getElem?_eq_getElem hlk⟩
     have HXR := jh ((HX.out k xv lk hxv hlk2).below HE.out)
     have hft := cat_succ ls k lk hlk2
     have hfl := cat_part ls (k + 1)
     rw [hft, List.length_append] at hfl
     have HFT := jh hft
     have c0 : wr.cell? ⟨b', off + k, none⟩ = some xv := by
      have h := hcell k (by rw [HLN.out]; exact hlk)
      rw [hxv] at h
      rw [← h]
      exact HE.out.cell (p := ⟨b', off + k, none⟩) hbs
     have HFL : Hid ((ls.take k).flatten.length + (lk.map bval).length ≤ 1099511627776) := jh (by rw [List.length_map]; have := HB.out; omega)
     clear hcell hxv hlk2 hft hfl
     go_wp2_with (at_builtin; refine zas rfl _ _ 25 rfl w.heap.size 5 i0 (.int .u8 0) 1 Tryz.underlying25 HI0.out HZ0.out HZ1.out HZ2.out rfl _ _ _ rfl HO.out rfl HXR.out (zag _) (by have := HFL.out; unfold maxLen; omega) (by have := HFL.out; omega) HS.out ?_; intro v3 w3 hown3 hgrow3)
     go_roundw
     case rel =>
      refine ⟨k + 1, by omega, by go_num, ?_, zck HE.out HO.out (Nat.le_refl _) hgrow3⟩
      rw [HFT.out, List.map_append, List.length_append]
      rw [List.length_map] at hown3
      exact hown3
     case measure => simp [intOf]; omega
    ·have hk2 : (ls.length : Int) ≤ (k : Int) := by omega
     obtain rfl : k = ls.length := by omega
     rw [cat_all] at HO
     go_wp2_with fail
     go_ret
     exact ⟨_, rfl, HO.out, HE.out⟩
end Go.Proofs.YtimmnieopifcbaaGreatDoor
