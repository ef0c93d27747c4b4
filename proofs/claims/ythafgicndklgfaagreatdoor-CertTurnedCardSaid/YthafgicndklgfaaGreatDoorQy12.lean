/- Lemmas. -/
import Derived.Test.YthafgicndklgfaaGreatDoorQy11
namespace Go.Proofs.YthafgicndklgfaaGreatDoor
set_option linter.unusedVariables false
set_option maxRecDepth 100000
set_option maxHeartbeats 32000000
set_option linter.unusedSimpArgs false
open Go.RowKit
theorem pcur_raw {b : List UInt8} (w : World) (B c p n : Nat) (bad : Bool) (h : PCur w B c b p bad) :
  Calls Tryz.prog 42 #[.pointer (some ⟨c, 0, none⟩), .int .i64 (n : Int)] w fun e w' => ∃ v, e = .returned v ∧ w'.ownsRow w.heap.size 5 1 v (rwL b p bad n).length ((rwL b p bad n).map bval) ∧ PCur w' B c b (rwP b p bad n) (rwB b p bad n) ∧ w.grownBy w' (some c) := by
 cases hr : rwB b p bad n with
 | true =>
  have e1 : rwL b p bad n = [] := by unfold rwL; rw [hr]; rfl
  have e2 : rwP b p bad n = p := by unfold rwP; rw [hr]; rfl
  rw [e1, e2]
  unfold rwB at hr
  rw [Bool.or_eq_true, decide_eq_true_iff] at hr
  refine (praw_no w B c b p bad n h ?_).mono ?_
  ·rcases hr with h | h
   ·exact Or.inl h
   ·exact Or.inr (Or.inr (by omega))
  ·rintro e w' ⟨v, rfl, h1, h2, h3⟩
   exact ⟨v, rfl, h1, h2, h3⟩
 | false =>
  have e1 : rwL b p bad n = (b.drop p).take n := by unfold rwL; rw [hr]; rfl
  have e2 : rwP b p bad n = p + n := by unfold rwP; rw [hr]; rfl
  unfold rwB at hr
  rw [Bool.or_eq_false_iff, decide_eq_false_iff_not] at hr
  obtain ⟨rfl, hr⟩ := hr
  rw [e1, e2]
  refine (praw_yes w B c b p n h (by omega)).mono ?_
  rintro e w' ⟨v, rfl, h1, h2, h3⟩
  exact ⟨v, rfl, by rw [show ((b.drop p).take n).length = n from by rw [q112, q139]; omega]; exact h1, h2, h3⟩
theorem pcur_int {b : List UInt8} (w : World) (B c p : Nat) (bad : Bool) (h : PCur w B c b p bad) :
  Calls Tryz.prog 43 #[.pointer (some ⟨c, 0, none⟩)] w fun e w' => e = .returned (.int .i64 (rwI b p bad)) ∧ PCur w' B c b (rwP b p bad 8) (rwB b p bad 8) ∧ w.grownBy w' (some c) := by
 cases hr : rwB b p bad 8 with
 | true =>
  have e1 : rwI b p bad = 0 := by unfold rwI; rw [hr]; rfl
  have e2 : rwP b p bad 8 = p := by unfold rwP; rw [hr]; rfl
  rw [e1, e2]
  unfold rwB at hr
  rw [Bool.or_eq_true, decide_eq_true_iff] at hr
  exact pint_no w B c b p bad h hr
 | false =>
  have e1 : rwI b p bad = decI ((b.drop p).take 8) := by unfold rwI; rw [hr]; rfl
  have e2 : rwP b p bad 8 = p + 8 := by unfold rwP; rw [hr]; rfl
  unfold rwB at hr
  rw [Bool.or_eq_false_iff, decide_eq_false_iff_not] at hr
  obtain ⟨rfl, hr⟩ := hr
  rw [e1, e2]
  exact pint_yes w B c b p h (by omega)
theorem readS_said (b : List UInt8) : readS b = if rwL b 0 false 4 = [80, 67, 83, 84] ∧ (!rwB b (rwP b (rwP b 0 false 4) (rwB b 0 false 4) 8) (rwB b (rwP b 0 false 4) (rwB b 0 false 4) 8) 64 && decide (rwP b (rwP b (rwP b 0 false 4) (rwB b 0 false 4) 8) (rwB b (rwP b 0 false 4) (rwB b 0 false 4) 8) 64 = b.length)) = true ∧ smallB (rwI b (rwP b 0 false 4) (rwB b 0 false 4)) = true then
  some (rwI b (rwP b 0 false 4) (rwB b 0 false 4), rwL b (rwP b (rwP b 0 false 4) (rwB b 0 false 4) 8) (rwB b (rwP b 0 false 4) (rwB b 0 false 4) 8) 64) else none := by
 rw [readS_cur]
 split
 ·next h =>
  have h2 := h.2.1
  rw [Bool.and_eq_true, Bool.not_eq_true'] at h2
  rw [if_neg (by rw [h2.1]; simp)]
 ·rfl
theorem rwL_len {b : List UInt8} {p n : Nat} {bad : Bool} (h : rwB b p bad n = false) : (rwL b p bad n).length = n := by
 unfold rwL
 rw [h]
 unfold rwB at h
 rw [Bool.or_eq_false_iff, decide_eq_false_iff_not] at h
 simp
 omega
theorem cReadStop_any (b : List UInt8) (bv : Value) (w : World) (hb : Row1 w bv (b.map bval)) (hsz : b.length ≤ 1099511627776) :
  Calls Tryz.prog 23 #[bv] w fun e w' => e = .returned (.tuple #[.agg (stopC (rdI b) (rdG b)).toArray, .int .i64 (rdE b)]) ∧ Below w.heap.size w w' := by
 obtain ⟨ab, cb, hbv, hb1, hb2, _⟩ := id hb
 rw [q101] at hbv hb1
 subst hbv
 have HV := jh hb
 have HS := jh hsz
 have HB0 := jh (Blk.made w (stopC 0 z64) 39)
 have HE0 := jh (Ext.alloc w (.cells (stopC 0 z64).toArray 39))
 have HZS := jh (zdp (id := 0) zbv)
 clear hb hsz
 go_enter Tryz.func23, Tryz.ntmps23
 go_upto_region 1 with (fail)
 change Code.wp _ _ _ _ (w.alloc (.cells (stopC 0 z64).toArray 39))
 generalize w.alloc (.cells (stopC 0 z64).toArray 39) = wa at *
 obtain ⟨C, hC⟩ : ∃ C, C = w.heap.size := ⟨_, rfl⟩
 have HLC : Hid (w.heap.size ≤ C) := jh (by omega)
 rw [← hC] at HB0 ⊢
 clear hC
 have HN := jh (pnew _ b wa (HV.out.below HE0.out) HS.out)
 go_wp2_with fail
 refine HN.out.mono ?_
 rintro e w1 ⟨B, K, rfl, hk, hlk, hx⟩
 have HK := jh hk
 have HC := xb HB0 hx
 have HE := xt HE0 hx
 have HCK : Hid (C < K) := jh (q114 HB0.out.lt hlk)
 have HLK : Hid (w.heap.size ≤ K) := jh (q121 HE0.out.size hlk)
 clear hk hlk hx HB0 HE0 HN
 have HR := jh (pcur_raw (b := b) w1 B K 0 4 false HK.out)
 obtain ⟨tl, htl⟩ : ∃ tl, tl = rwL b 0 false 4 := ⟨_, rfl⟩
 obtain ⟨p1, hp1⟩ : ∃ p1, p1 = rwP b 0 false 4 := ⟨_, rfl⟩
 obtain ⟨d1, hd1⟩ : ∃ d1, d1 = rwB b 0 false 4 := ⟨_, rfl⟩
 rw [← htl, ← hp1, ← hd1] at HR
 have HTL := jh htl
 have HP1 := jh hp1
 have HD1 := jh hd1
 clear htl hp1 hd1
 go_wp2_with fail
 refine HR.out.mono ?_
 rintro e w2 ⟨tv, rfl, ht, hk, hg⟩
 have HTO : Hid (∀ k, tv.ownBlock = some k → K < k) := jh (fun k h => q114 (q114 HK.out.lt.1 HK.out.lt.2) (ht.lt k h).1)
 have HT := jh (Row1.of_own ht)
 have HK := jh hk
 have HC := jh (HC.out.grown hg (by have := HCK.out; simp; omega))
 have HE := jh (zab HE.out hg HLK.out)
 clear ht hk hg HR
 have HI := jh (pcur_int (b := b) w2 B K p1 d1 HK.out)
 obtain ⟨n1, hn1⟩ : ∃ n1, n1 = rwI b p1 d1 := ⟨_, rfl⟩
 obtain ⟨p2, hp2⟩ : ∃ p2, p2 = rwP b p1 d1 8 := ⟨_, rfl⟩
 obtain ⟨d2, hd2⟩ : ∃ d2, d2 = rwB b p1 d1 8 := ⟨_, rfl⟩
 rw [← hn1, ← hp2, ← hd2] at HI
 have HN1 := jh hn1
 have HP2 := jh hp2
 have HD2 := jh hd2
 clear hn1 hp2 hd2
 go_wp2_with fail
 refine HI.out.mono ?_
 rintro e w3 ⟨rfl, hk, hg⟩
 have HK := jh hk
 have HT := jh (HT.out.grown hg (fun k hk2 h => by have := HTO.out k h; have h2 : K = k := Option.some.inj hk2; omega))
 have HC := jh (HC.out.grown hg (by have := HCK.out; simp; omega))
 have HE := jh (zab HE.out hg HLK.out)
 clear hk hg HI
 have HR := jh (pcur_raw (b := b) w3 B K p2 64 d2 HK.out)
 have HRN : Hid (rwB b p2 d2 64 = false → (rwL b p2 d2 64).length = 64) := jh rwL_len
 have HCUR := jh (readS_said b)
 obtain ⟨rl, hrl⟩ : ∃ rl, rl = rwL b p2 d2 64 := ⟨_, rfl⟩
 obtain ⟨p3, hp3⟩ : ∃ p3, p3 = rwP b p2 d2 64 := ⟨_, rfl⟩
 obtain ⟨d3, hd3⟩ : ∃ d3, d3 = rwB b p2 d2 64 := ⟨_, rfl⟩
 rw [← HTL.out, ← HP1.out, ← HD1.out, ← HN1.out, ← HP2.out, ← HD2.out, ← hrl, ← hp3, ← hd3] at HCUR
 rw [← hrl, ← hp3, ← hd3] at HR
 rw [← hrl, ← hd3] at HRN
 clear hrl hp3 hd3 HTL HP1 HD1 HN1 HP2 HD2
 go_wp2_with fail
 refine HR.out.mono ?_
 rintro e w4 ⟨rv, rfl, hr, hk, hg⟩
 obtain ⟨ar, cr, hrv, _⟩ := id (Row1.of_own hr)
 rw [q101] at hrv
 subst hrv
 have HRR := jh (Row1.of_own hr)
 have HK := jh hk
 have HT := jh (HT.out.grown hg (fun k hk2 h => by have := HTO.out k h; have h2 : K = k := Option.some.inj hk2; omega))
 have HC := jh (HC.out.grown hg (by have := HCK.out; simp; omega))
 have HE := jh (zab HE.out hg HLK.out)
 clear hr hk hg HR HTO
 have HEND := jh (pend w4 B K b p3 d3 HK.out)
 obtain ⟨en, hen⟩ : ∃ en, en = (!d3 && decide (p3 = b.length)) := ⟨_, rfl⟩
 rw [← hen] at HEND HCUR
 have HEN := jh hen
 clear hen
 go_wp2_with fail
 refine HEND.out.mono ?_
 rintro e w5 ⟨rfl, kk, rfl⟩
 have HC := jh (HC.out.drewN kk)
 have HT := jh (HT.out.below (show Below w4.heap.size w4 (w4.drewN kk) from below_drewN (Below.refl _ _) kk))
 have HRR := jh (HRR.out.below (show Below w4.heap.size w4 (w4.drewN kk) from below_drewN (Below.refl _ _) kk))
 have HE := jh (below_drewN HE.out kk)
 generalize w4.drewN kk = w5 at *
 clear HEND HK
 have NO := jh (fun (h : ¬ (tl = [80, 67, 83, 84] ∧ en = true ∧ smallB n1 = true)) => rd_no (b := b) (by rw [HCUR.out, if_neg h]))
 cases en with
 | false =>
  have HQ := jh (NO.out (fun h => by cases h.2.1))
  clear HCUR HEN NO
  go_wp2_with (first | (refine zbf rfl _ _ rfl _ rfl _ (build_stop0 _) ?_) | (refine ssb C (stopC 0 z64) HC.out rfl HZS.out (zfc _ _) ?_; intro w9 hb9 hg9))
  refine bodyPost_ret (zai rfl _ C _ _ _ rfl hb9 q144 rfl HZS.out) rfl ?_
  exact ⟨by rw [HQ.out.1, HQ.out.2.1, HQ.out.2.2]; rfl, zab HE.out hg9 HLC.out⟩
 | true =>
  have hsr := run_string_row (P := Tryz.prog) (v := tv) 46 9 5 q107 q111 Tryz.underlying9 HT.out
  by_cases hm : tl = [80, 67, 83, 84]
  ·subst hm
   have HSM := jh (cid_any n1 w5)
   obtain ⟨sm, hsm⟩ : ∃ sm, sm = smallB n1 := ⟨_, rfl⟩
   rw [← hsm] at HSM NO HCUR
   have HSB := jh hsm
   clear hsm
   go_wp2_with fail
   refine HSM.out.mono ?_
   rintro e w6 ⟨rfl, rfl⟩
   clear HSM hsr HT
   cases sm with
   | false =>
    have HQ := jh (NO.out (fun h => by cases h.2.2))
    clear HCUR HEN NO
    go_wp2_with (first | (refine zbf rfl _ _ rfl _ rfl _ (build_stop0 _) ?_) | (refine ssb C (stopC 0 z64) HC.out rfl HZS.out (zfc _ _) ?_; intro w9 hb9 hg9))
    refine bodyPost_ret (zai rfl _ C _ _ _ rfl hb9 q144 rfl HZS.out) rfl ?_
    exact ⟨by rw [HQ.out.1, HQ.out.2.1, HQ.out.2.2]; rfl, zab HE.out hg9 HLC.out⟩
   | true =>
    have HQ := jh (rd_yes (b := b) (x := (n1, rl)) (by rw [HCUR.out, if_pos (by simp)]))
    have hd3 : d3 = false := by
     have h := HEN.out
     cases d3 with
     | false => rfl
     | true => simp at h
    have HGL : Hid (rl.length = 64) := jh (HRN.out hd3)
    clear HCUR HEN NO HRN
    rw [HGL.out] at HRR ⊢
    obtain ⟨rb, ro, har, hrr⟩ := row_range HRR.out (by intro e; have := congrArg List.length e; rw [q101, HGL.out] at this; cases this)
    subst har
    have HRG := jh hrr
    clear hrr
    have hat := run_arr_at (P := Tryz.prog) q119 (some ⟨rb, ro, none⟩) 64 cr (q102 _)
    have HSZ := jh (zcg HGL.out)
    go_wp2_with (first | (refine wpList_load_mid rfl _ _ rfl rb ro rfl _ _ HRG.out q119 rfl HSZ.out ?_) | (refine zbf rfl 39 #[(0, .tmp 30), (1, .tmp 33)] rfl #[(0, .int .i64 n1), (1, .agg (rl.map bval).toArray)] (by simp [Act.eval, Act.put]) _ (build_stop n1 HGL.out _) ?_) | (refine ssb C (stopC n1 rl) HC.out (by rw [zco HGL.out, zco zbv]) (zdp HGL.out) (zfc _ _) ?_; intro w9 hb9 hg9))
    refine bodyPost_ret (zai rfl _ C _ _ _ rfl hb9 q144 rfl (zdp HGL.out)) rfl ?_
    exact ⟨by rw [HQ.out.1, HQ.out.2.1, HQ.out.2.2]; rfl, zab HE.out hg9 HLC.out⟩
  ·have HQ := jh (NO.out (fun h => hm h.1))
   have hm2 : (tl == [80, 67, 83, 84]) = false := by simpa using hm
   clear HCUR NO
   go_wp2_with (first | (refine zbf rfl _ _ rfl _ rfl _ (build_stop0 _) ?_) | (refine ssb C (stopC 0 z64) HC.out rfl HZS.out (zfc _ _) ?_; intro w9 hb9 hg9))
   refine bodyPost_ret (zai rfl _ C _ _ _ rfl hb9 q144 rfl HZS.out) rfl ?_
   exact ⟨by rw [HQ.out.1, HQ.out.2.1, HQ.out.2.2]; rfl, zab HE.out hg9 HLC.out⟩
theorem crtSaid : CrtSaid CMG where
 ext := fun h hb => h.ext hb
 sign := fun root key sid w hr hk _ hG => cSign_any root key sid w hr hk hG
 check := fun pub key sig sid w hp hk hs _ hG => cCheck_any pub key sig sid w hp hk hs hG
 stop := fun root sid w hr _ hG => cStop_any root sid w hr hG
 checkStop := fun pub sig sid w hp hs _ hG => cCheckStop_any pub sig sid w hp hs hG
 pack := fun sig sid w hs _ _ => cPackStop_any sig sid w hs
 read := fun b bv w hb hl _ => cReadStop_any b bv w hb (by omega)
theorem freeze_grown (w : World) (a : Addr) (n : Nat) : w.grownBy (w.freeze a n) (some a.block) := by
 unfold World.freeze
 split
 ·exact ⟨rfl, rfl, rfl, q102 _, fun _ _ _ => rfl⟩
 ·refine ⟨rfl, rfl, rfl, by simp, fun k hk hne => ?_⟩
  have h : a.block ≠ k := fun e => hne (by rw [e])
  simp [Array.getElem?_modify, h]
theorem freeze_cell (w : World) (a b : Addr) (n : Nat) : (w.freeze a n).cell? b = w.cell? b := by
 unfold World.freeze
 split
 ·rfl
 ·unfold World.cell?
  simp only [Array.getElem?_modify]
  by_cases h : a.block = b.block
  ·rw [if_pos h]
   cases e : w.heap[b.block]? with
   | none => rfl
   | some o => cases o <;> rfl
  ·rw [if_neg h]
theorem freeze_row {w : World} {v : Value} {vs : List Value} (h : Row1 w v vs) (a : Addr) (n : Nat) : Row1 (w.freeze a n) v vs :=
 h.same (freeze_grown w a n).size fun p _ _ => freeze_cell w a p n
theorem run_mark_own {P : Program} {w : World} {t e : TypeId} {base g n cap : Nat} {xs : List Value} (ht : P.underlying t = some (.slice e)) (he : P.underlying e = some (.int .u8)) (h : w.ownsRow base e 1 (.slice (some ⟨g, 0, none⟩) n cap) n xs) :
  ∃ w', (convert t t (.slice (some ⟨g, 0, none⟩) n cap)).run P w = .ok (.slice (some ⟨g, 0, none⟩) n cap) w' ∧ w.grownBy w' (some g) ∧ base ≤ g ∧ ∀ v vs, Row1 w v vs → Row1 w' v vs := by
 rcases h.2 with ⟨h1, _⟩ | ⟨g', cap', cur, hv, hb, hg, _⟩
 ·exact absurd h1 (by simp)
 ·injection hv with e1 e2 e3
  injection e1 with e1
  injection e1 with e1
  subst e1
  have hsh : w.shape? g = some (e, cur.size) := by
   unfold World.shape?
   rw [hg]
  refine ⟨w.freeze ⟨g, cur.size, none⟩ 1, ?_, freeze_grown w _ _, hb, fun v vs hr => freeze_row hr _ _⟩
  simp [convert, run_underlying ht, run_underlying he, markStringish, hsh]
theorem i64_and255 (n : Int) : bits .and .i64 n 255 = n % 256 := by
 have h255 : (BitVec.ofInt 64 255).toNat = 2 ^ 8 - 1 := by decide
 have key : (BitVec.ofInt 64 n &&& BitVec.ofInt 64 255).toNat = (n % ((2 ^ 64 : Nat) : Int)).toNat % 2 ^ 8 := by
  rw [BitVec.toNat_and, BitVec.toNat_ofInt, h255, q145]
 show IntKind.i64.wrap ((BitVec.ofInt 64 n &&& BitVec.ofInt 64 255).toNat : Nat) = n % 256
 rw [key, IntKind.wrap_i64]
 omega
theorem cells8 (x : Int) : [Value.int .u8 (bits .and .i64 (x / 256 / 256 / 256 / 256 / 256 / 256 / 256) 255 % 256), .int .u8 (bits .and .i64 (x / 256 / 256 / 256 / 256 / 256 / 256) 255 % 256),
  .int .u8 (bits .and .i64 (x / 256 / 256 / 256 / 256 / 256) 255 % 256), .int .u8 (bits .and .i64 (x / 256 / 256 / 256 / 256) 255 % 256), .int .u8 (bits .and .i64 (x / 256 / 256 / 256) 255 % 256),
  .int .u8 (bits .and .i64 (x / 256 / 256) 255 % 256), .int .u8 (bits .and .i64 (x / 256) 255 % 256), .int .u8 (bits .and .i64 x 255 % 256)] = (pck_be8 x).map bval := by
 unfold pck_be8
 simp only [q153, List.map_nil, byte_cell, i64_and255, Int.emod_emod]
 have e : ∀ k : Nat, x / 256 ^ k / 256 = x / 256 ^ (k + 1) := by
  intro k
  rw [Int.ediv_ediv_of_nonneg (Int.pow_nonneg (by omega)), q122]
 have e0 : x / 256 ^ 0 = x := by simp
 have e1 : x / 256 = x / 256 ^ 1 := by simp
 rw [e1]
 simp only [e, e0]
theorem rint_loop (bv : Value) (bl : List UInt8) (b off cap n : Nat) (ns : List Int) (w : World) (hb : Row1 w bv (bl.map bval)) (hn : ns.length = n) (hn0 : 0 < n) (hcap : n ≤ cap) (hm : cap ≤ maxLen) (hbw : b < w.heap.size)
  (hx : ∀ i, i < ns.length → w.cell? ⟨b, off + i, none⟩ = some (.int .i64 (ns.getD i 0))) (hsz : bl.length + 8 * n ≤ 1099511627776) :
  Calls Tryz.prog 61 #[bv, .slice (some ⟨b, off, none⟩) n cap] w fun e w' => ∃ v, e = .returned v ∧ w'.ownsRow w.heap.size 5 1 v (bl.length + 8 * n) ((bl ++ be8s ns).map bval) ∧ Below w.heap.size w w' := by
 unfold maxLen at hm
 obtain ⟨i0, hi, hz0, hz1, hz2⟩ := info_parts Tryz.info5
 have HX := jh hx
 have HN := jh hn
 have HB := jh hb
 have hbl : Hid ((bl.map bval).length = bl.length) := jh (by simp)
 clear hx hn hb
 go_enter Tryz.func61, Tryz.ntmps61
 go_wp2_with (at_builtin; refine zam rfl _ _ 46 rfl w.heap.size 5 i0 (.int .u8 0) 1 q107 hi hz0 hz1 hz2 rfl _ 0 [] rfl (World.ownsRow_nil _ _ _ _) rfl HB.out (zaf _) (by rw [hbl.out]; unfold maxLen; omega) (by rw [hbl.out]; omega) (q102 _) ?_; intro v1 w1 hown1 hgrow1)
 have hown0 : w1.ownsRow w.heap.size 5 1 v1 (bl.length + 8 * 0) ((bl ++ be8s (ns.take 0)).map bval) := by
  have e : 0 + (bl.map bval).length = bl.length + 8 * 0 := by simp
  rw [e, q118] at hown1
  simpa [be8s] using hown1
 have hbel0 : Below w.heap.size w w1 := (Below.refl _ _).grown hgrow1 (q102 _) (fun r hr => by cases hr)
 clear hown1 hgrow1
 have HO0 := jh hown0
 have HB0 := jh hbel0
 clear hown0 hbel0
 go_loopw [5, 6] (fun v i wr => ∃ k : Nat, k ≤ n ∧ i = .int .i64 k ∧ wr.ownsRow w.heap.size 5 1 v (bl.length + 8 * k) ((bl ++ be8s (ns.take k)).map bval) ∧ Below w.heap.size w wr) (fun _ i _ => n - (intOf i).toNat)
 case atStart => exact ⟨0, q149 _, rfl, HO0.out, HB0.out⟩
 case round =>
  obtain ⟨k, hk, rfl, hown, hbel⟩ := hrel
  by_cases hlt : k < n
  ·have hn := HN.out
   have c1 := hbel.cell (p := ⟨b, off + k, none⟩) hbw
   rw [HX.out k (by omega)] at c1
   have hsz2 := hbel.size
   generalize hx : ns.getD k 0 = x at *
   have HXK := jh hx
   have HO := jh hown
   have HBE := jh hbel
   clear hn hx hown hbel
   go_wp2_with fail
   refine wp_loop_rounds 9 ?_
   iterate 8 (rw [rounds_succ]; go_wp2_with fail)
   rw [rounds_succ]
   go_wp2_with (at_builtin; refine zam rfl _ _ 46 rfl w.heap.size 5 i0 (.int .u8 0) 1 q107 hi hz0 hz1 hz2 rfl _ (bl.length + 8 * k) _ rfl (HO.out.alloc _) rfl (Row1.made wr _ _ _ _ _ rfl (cells8 x) rfl (by unfold maxLen; omega)) (zaf _) ?c1 ?c2 ?c3 ?_)
   case c1 => show bl.length + 8 * k + 8 ≤ _; unfold maxLen; omega
   case c2 => show (bl.length + 8 * k + 8) * 1 ≤ _; omega
   case c3 => simp; omega
   intro v2 w2 hown2 hgrow2
   have hn := HN.out
   have hown3 : w2.ownsRow w.heap.size 5 1 v2 (bl.length + 8 * (k + 1)) ((bl ++ be8s (ns.take (k + 1))).map bval) := by
    rw [q159 (by omega), be8s_snoc]
    have e : ns[k]'(by omega) = x := by rw [← HXK.out]; simp [List.getD, show k < ns.length from by omega]
    rw [e, q134, q134]
    have e2 : bl.length + 8 * k + (pck_be8 x).length = bl.length + 8 * (k + 1) := by rw [be8_length]; omega
    rw [e2] at hown2
    exact hown2
   have hbel3 : Below w.heap.size w w2 := (HBE.out.alloc hsz2 _).grown hgrow2 (by simp; omega) (fun r hr => (HO.out.lt r hr).1)
   clear hown2 hgrow2 hn
   go_wp2_with fail
   go_roundw
   case rel => exact ⟨k + 1, by omega, by go_num, hown3, hbel3⟩
   case measure => simp [intOf]; omega
  ·have hk' : k = n := by omega
   subst hk'
   have hn := HN.out
   rw [q110 (by omega)] at hown
   have HO := jh hown
   have HBE := jh hbel
   clear hown hbel hn
   go_wp2_with fail
   go_ret
   exact ⟨_, rfl, HO.out, HBE.out⟩
theorem rint_none (bv : Value) (bl : List UInt8) (a : Option Addr) (cap : Nat) (w : World) (hb : Row1 w bv (bl.map bval)) (hsz : bl.length ≤ 1099511627776) (hm : cap ≤ maxLen) :
  Calls Tryz.prog 61 #[bv, .slice a 0 cap] w fun e w' => ∃ v, e = .returned v ∧ w'.ownsRow w.heap.size 5 1 v bl.length (bl.map bval) ∧ Below w.heap.size w w' := by
 unfold maxLen at hm
 obtain ⟨i0, hi, hz0, hz1, hz2⟩ := info_parts Tryz.info5
 have HB := jh hb
 have hbl : Hid ((bl.map bval).length = bl.length) := jh (by simp)
 clear hb
 go_enter Tryz.func61, Tryz.ntmps61
 go_wp2_with (at_builtin; refine zam rfl _ _ 46 rfl w.heap.size 5 i0 (.int .u8 0) 1 q107 hi hz0 hz1 hz2 rfl _ 0 [] rfl (World.ownsRow_nil _ _ _ _) rfl HB.out (zaf _) (by rw [hbl.out]; unfold maxLen; omega) (by rw [hbl.out]; omega) (q102 _) ?_; intro v1 w1 hown1 hgrow1)
 have hown0 : w1.ownsRow w.heap.size 5 1 v1 bl.length (bl.map bval) := by
  have e : 0 + (bl.map bval).length = bl.length := by simp
  rw [e, q118] at hown1
  exact hown1
 have hbel0 : Below w.heap.size w w1 := (Below.refl _ _).grown hgrow1 (q102 _) (fun r hr => by cases hr)
 clear hown1 hgrow1
 have HO0 := jh hown0
 have HB0 := jh hbel0
 clear hown0 hbel0
 refine wp_loop_rounds 1 ?_
 rw [rounds_succ]
 go_wp2_with fail
 go_ret
 exact ⟨_, rfl, HO0.out, HB0.out⟩
theorem row_nums {w : World} {b off : Nat} {zs : List Int} (h : ∀ i, i < (zs.map (Value.int .i64)).length → w.cell? ⟨b, off + i, none⟩ = (zs.map (Value.int .i64))[i]?) :
  ∀ i, i < zs.length → w.cell? ⟨b, off + i, none⟩ = some (.int .i64 (zs.getD i 0)) := by
 intro i hi
 rw [h i (by simpa using hi)]
 simp [List.getD, hi]
theorem rint_any {bv lv : Value} {bl : List UInt8} {ns : List Int} (w : World) (hb : Row1 w bv (bl.map bval)) (hl : Row1 w lv (ns.map (.int .i64))) (hsz : bl.length + 8 * ns.length ≤ 1099511627776) :
  Calls Tryz.prog 61 #[bv, lv] w fun e w' => ∃ v, e = .returned v ∧ w'.ownsRow w.heap.size 5 1 v (bl.length + 8 * ns.length) ((bl ++ be8s ns).map bval) ∧ Below w.heap.size w w' := by
 obtain ⟨a, cap, rfl, h1, h2, h3, h4⟩ := hl
 rw [q101] at h1 ⊢
 by_cases h0 : ns = []
 ·subst h0
  have := rint_none bv bl a cap w hb (by omega) h2
  simpa [be8s] using this
 ·obtain ⟨b, off, rfl, hbw, hc⟩ := h4 (by simpa using h0)
  exact rint_loop bv bl b off cap ns.length ns w hb rfl (List.length_pos_iff.2 h0) h1 h2 hbw (row_nums hc) hsz
theorem rsmall_any (n : Int) (w : World) : Calls Tryz.prog 30 #[.int .i64 n] w fun e w' => e = .returned (.bool (smallB n)) ∧ w = w' := by
 by_cases h1 : 0 ≤ n
 ·by_cases h2 : n ≤ 2147483647
  ·have HB := jh (smallB_of h1 h2)
   go_enter Tryz.func30, Tryz.ntmps30
   go_wp2_with fail
   go_ret
   exact ⟨by rw [HB.out]; rfl, rfl⟩
  ·have HB := jh (smallB_not (n := n) (fun h => h2 h.2))
   go_enter Tryz.func30, Tryz.ntmps30
   go_wp2_with fail
   go_ret
   exact ⟨by rw [HB.out]; rfl, rfl⟩
 ·have HB := jh (smallB_not (n := n) (fun h => h1 h.1))
  go_enter Tryz.func30, Tryz.ntmps30
  go_wp2_with fail
  go_ret
  exact ⟨by rw [HB.out]; rfl, rfl⟩
theorem rcertText_any (id : Int) (key : List UInt8) (w : World) (hk : key.length = 32) : Calls Tryz.prog 32 #[.int .i64 id, .agg (key.map bval).toArray] w fun e w' => ∃ x, e = .returned x ∧ Row1 w' x ((certT id key).map bval) ∧ Below w.heap.size w w' := by
 obtain ⟨i0, hi, hz0, hz1, hz2⟩ := info_parts Tryz.info5
 obtain ⟨ij, hj0, hj1, hj2⟩ := info_two (P := Tryz.prog) (t := 3) (z := .int .i64 0) (n := 1) (by kernel_rfl)
 have HI0 := jh hi
 have HZ0 := jh hz0
 have HZ1 := jh hz1
 have HZ2 := jh hz2
 have HJ0 := jh hj0
 have HJ1 := jh hj1
 have HJ2 := jh hj2
 clear hi hz0 hz1 hz2 hj0 hj1 hj2
 have HKL := jh hk
 have HIK := jh (zac hk)
 have HB0 := jh (Blk.made w (key.map bval) 23)
 have HE0 := jh (Ext.alloc w (.cells (key.map bval).toArray 23))
 clear hk
 go_enter Tryz.func32, Tryz.ntmps32
 go_upto_region 1 with (fail)
 change Code.wp _ _ _ _ (w.alloc (.cells (key.map bval).toArray 23))
 generalize w.alloc (.cells (key.map bval).toArray 23) = wa at *
 obtain ⟨A, hA⟩ : ∃ A, A = w.heap.size := ⟨_, rfl⟩
 rw [← hA] at HB0 ⊢
 clear hA
 have B0 : Ext wa wa.drew := Ext.drew _
 refine wp_region_held_drew (S := fun w' => Ext wa w') (by kernel_rfl) B0 (fun hW => ?_)
 refine tke 2 (.int .i64 id) rfl (zbm _ (.int .i64 id) (by rfl) rfl rfl) hW ?_
 simp only [nm]
 refine tke 5 (.slice (some ⟨A, 0, none⟩) 32 32) rfl (zdy _ _ _ _ (.pointer (some ⟨A, 0, none⟩)) (.slice (some ⟨A, 0, none⟩) 32 32) none none (by rfl) rfl rfl rfl rfl (fun w => zej q100 q115 (by omega) _ w)) hW ?_
 simp only [nm]
 refine wpAnyH_ready (rs := [0, 3]) (by kernel_rfl) (by simp) (AllReadyH.cons rfl (fun K hK => ?_) (AllReadyH.cons rfl (fun K hK => ?_) AllReadyH.nil))
 ·refine zbn (by rfl) ?_
  refine zbk (some 5) _ _ _ _ rfl rfl #[.int .u8 80, .int .u8 67, .int .u8 67, .int .u8 84] i0 (.int .u8 0) q107 HI0.out HZ0.out (by rw [HZ1.out]; decide) (by rw [HZ1.out]; decide) (by rw [HZ1.out]; kernel_rfl) ?_
  obtain ⟨m1, hm1⟩ : ∃ wNew, wNew = World.alloc wa.drew (.cells #[.int .u8 80, .int .u8 67, .int .u8 67, .int .u8 84] 5) := ⟨_, rfl⟩
  rw [← hm1]
  have b1 : Ext wa.drew m1 := by rw [hm1]; exact Ext.alloc _ _
  obtain ⟨g1, hg1⟩ : ∃ gNew, gNew = (wa.drew).heap.size := ⟨_, rfl⟩
  rw [← hg1]
  have r1 : Row1 m1 (.slice (some ⟨g1, 0, none⟩) 4 4) (([80, 67, 67, 84] : List UInt8).map bval) := by rw [hm1, hg1]; exact Row1.made _ _ _ _ _ _ rfl rfl rfl (by unfold maxLen; omega)
  have o1 : World.ownsRow m1 (wa).heap.size 5 1 (.slice (some ⟨g1, 0, none⟩) 4 4) 4 (([80, 67, 67, 84] : List UInt8).map bval) := by rw [hm1, hg1]; exact own_made _ _ _ _ _ _ rfl rfl (by unfold maxLen; omega) B0.size
  clear hm1 hg1
  have N1 : Ext wa m1 := B0.trans b1
  refine hK.out _ _ N1 (fun hW => ?_)
  clear hK K
  try simp only [nm]
  refine wpAnyH_ready (rs := [1, 3]) (by kernel_rfl) (by simp) (AllReadyH.cons rfl (fun K hK => ?_) (AllReadyH.cons rfl (fun K hK => ?_) AllReadyH.nil))
  ·obtain ⟨m2, hcv2, hgr2, hge2, hrw2⟩ := run_mark_own (P := Tryz.prog) (t := 46) q107 q111 o1
   refine zbn (by rfl) ?_
   refine wp_conv_d (some 6) _ _ _ _ _ _ rfl rfl rfl hcv2 ?_
   have r1 := hrw2 _ _ r1
   have N2 : Ext wa m2 := zab N1 hgr2 hge2
   refine hK.out _ _ N2 (fun hW => ?_)
   clear hK K
   try simp only [nm]
   refine rdy 3 rfl fun K hK => ?_
   refine zbn (by rfl) ?_
   refine zbk (some 8) _ _ _ _ rfl rfl #[.int .i64 id] ij (.int .i64 0) Tryz.underlying99 HJ0.out HJ1.out (by rw [HJ2.out]; decide) (by rw [HJ2.out]; decide) (by rw [HJ2.out]; kernel_rfl) ?_
   obtain ⟨m3, hm3⟩ : ∃ wNew, wNew = World.alloc m2 (.cells #[.int .i64 id] 3) := ⟨_, rfl⟩
   rw [← hm3]
   have b3 : Ext m2 m3 := by rw [hm3]; exact Ext.alloc _ _
   obtain ⟨g3, hg3⟩ : ∃ gNew, gNew = (m2).heap.size := ⟨_, rfl⟩
   rw [← hg3]
   have r1 := r1.below b3
   have r3 : Row1 m3 (.slice (some ⟨g3, 0, none⟩) 1 1) (([id] : List Int).map (.int .i64)) := by rw [hm3, hg3]; exact Row1.made _ _ _ _ _ _ rfl rfl rfl (by unfold maxLen; omega)
   clear hm3 hg3
   have N3 : Ext wa m3 := N2.trans b3
   refine hK.out _ _ N3 (fun hW => ?_)
   clear hK K
   try simp only [nm]
   refine rdy 4 rfl fun K hK => ?_
   go_simp
   refine (rint_any (bl := [80, 67, 67, 84]) (ns := [id]) m3 r1 r3 (by simp)).mono ?_
   rintro e m4 ⟨x4, rfl, o4, b4⟩
   have r1 := r1.below b4
   have r3 := r3.below b4
   have o4 : World.ownsRow m4 (wa).heap.size 5 1 x4 12 (([80, 67, 67, 84] ++ be8s [id]).map bval) := own_eq (own_mono o4 N3.size) (by rfl) rfl
   have r4 : Row1 m4 x4 (([80, 67, 67, 84] ++ be8s [id]).map bval) := Row1.of_own o4
   have N4 : Ext wa m4 := N3.trans b4
   refine hK.out _ _ N4 (fun hW => ?_)
   clear hK K
   try simp only [nm]
   refine rdy 6 rfl fun K hK => ?_
   refine zbn (by rfl) ?_
   refine zfb _ _ 46 rfl (wa).heap.size 5 i0 (.int .u8 0) 1 q107 HI0.out HZ0.out HZ1.out HZ2.out rfl (x4) 12 _ rfl o4 rfl ((zdi (n := 32) HB0.out (by rw [q101]; exact HKL.out) (by unfold maxLen; omega)).below N4) (zaf _) (by rw [q101, HKL.out]; unfold maxLen; omega) (by rw [q101, HKL.out]; omega) N4.size ?_
   intro v5 m5 ho5 hg5
   have N5 : Ext wa m5 := ext_own N4 o4 (q102 _) hg5
   have r5 : Row1 m5 v5 ((([80, 67, 67, 84] ++ be8s [id] ++ key)).map bval) := by have h := Row1.of_own ho5; simpa using h
   refine hK.out _ _ N5 (fun hW => ?_)
   clear hK K
   try simp only [nm]
   refine rdy 7 rfl fun K hK => ?_
   go_simp
   refine hK.out _ _ N5 (fun hW => ?_)
   clear hK K
   try simp only [nm]
   refine dne ?_
   have HR9 := jh r5
   have HE9 := xt HE0 N5
   generalize m5 = w9 at HR9 HE9 ⊢
   go_wp2_with fail
   go_ret
   exact ⟨_, rfl, HR9.out, HE9.out⟩
  ·refine zbn (by rfl) ?_
   refine zbk (some 8) _ _ _ _ rfl rfl #[.int .i64 id] ij (.int .i64 0) Tryz.underlying99 HJ0.out HJ1.out (by rw [HJ2.out]; decide) (by rw [HJ2.out]; decide) (by rw [HJ2.out]; kernel_rfl) ?_
   obtain ⟨m2, hm2⟩ : ∃ wNew, wNew = World.alloc m1 (.cells #[.int .i64 id] 3) := ⟨_, rfl⟩
   rw [← hm2]
   have b2 : Ext m1 m2 := by rw [hm2]; exact Ext.alloc _ _
   obtain ⟨g2, hg2⟩ : ∃ gNew, gNew = (m1).heap.size := ⟨_, rfl⟩
   rw [← hg2]
   have r1 := r1.below b2
   have o1 := own_below o1 b2
   have r2 : Row1 m2 (.slice (some ⟨g2, 0, none⟩) 1 1) (([id] : List Int).map (.int .i64)) := by rw [hm2, hg2]; exact Row1.made _ _ _ _ _ _ rfl rfl rfl (by unfold maxLen; omega)
   clear hm2 hg2
   have N2 : Ext wa m2 := N1.trans b2
   refine hK.out _ _ N2 (fun hW => ?_)
   clear hK K
   try simp only [nm]
   refine rdy 1 rfl fun K hK => ?_
   obtain ⟨m3, hcv3, hgr3, hge3, hrw3⟩ := run_mark_own (P := Tryz.prog) (t := 46) q107 q111 o1
   refine zbn (by rfl) ?_
   refine wp_conv_d (some 6) _ _ _ _ _ _ rfl rfl rfl hcv3 ?_
   have r1 := hrw3 _ _ r1
   have r2 := hrw3 _ _ r2
   have N3 : Ext wa m3 := zab N2 hgr3 hge3
   refine hK.out _ _ N3 (fun hW => ?_)
   clear hK K
   try simp only [nm]
   refine rdy 4 rfl fun K hK => ?_
   go_simp
   refine (rint_any (bl := [80, 67, 67, 84]) (ns := [id]) m3 r1 r2 (by simp)).mono ?_
   rintro e m4 ⟨x4, rfl, o4, b4⟩
   have r1 := r1.below b4
   have r2 := r2.below b4
   have o4 : World.ownsRow m4 (wa).heap.size 5 1 x4 12 (([80, 67, 67, 84] ++ be8s [id]).map bval) := own_eq (own_mono o4 N3.size) (by rfl) rfl
   have r4 : Row1 m4 x4 (([80, 67, 67, 84] ++ be8s [id]).map bval) := Row1.of_own o4
   have N4 : Ext wa m4 := N3.trans b4
   refine hK.out _ _ N4 (fun hW => ?_)
   clear hK K
   try simp only [nm]
   refine rdy 6 rfl fun K hK => ?_
   refine zbn (by rfl) ?_
   refine zfb _ _ 46 rfl (wa).heap.size 5 i0 (.int .u8 0) 1 q107 HI0.out HZ0.out HZ1.out HZ2.out rfl (x4) 12 _ rfl o4 rfl ((zdi (n := 32) HB0.out (by rw [q101]; exact HKL.out) (by unfold maxLen; omega)).below N4) (zaf _) (by rw [q101, HKL.out]; unfold maxLen; omega) (by rw [q101, HKL.out]; omega) N4.size ?_
   intro v5 m5 ho5 hg5
   have N5 : Ext wa m5 := ext_own N4 o4 (q102 _) hg5
   have r5 : Row1 m5 v5 ((([80, 67, 67, 84] ++ be8s [id] ++ key)).map bval) := by have h := Row1.of_own ho5; simpa using h
   refine hK.out _ _ N5 (fun hW => ?_)
   clear hK K
   try simp only [nm]
   refine rdy 7 rfl fun K hK => ?_
   go_simp
   refine hK.out _ _ N5 (fun hW => ?_)
   clear hK K
   try simp only [nm]
   refine dne ?_
   have HR9 := jh r5
   have HE9 := xt HE0 N5
   generalize m5 = w9 at HR9 HE9 ⊢
   go_wp2_with fail
   go_ret
   exact ⟨_, rfl, HR9.out, HE9.out⟩
 ·refine zbn (by rfl) ?_
  refine zbk (some 8) _ _ _ _ rfl rfl #[.int .i64 id] ij (.int .i64 0) Tryz.underlying99 HJ0.out HJ1.out (by rw [HJ2.out]; decide) (by rw [HJ2.out]; decide) (by rw [HJ2.out]; kernel_rfl) ?_
  obtain ⟨m1, hm1⟩ : ∃ wNew, wNew = World.alloc wa.drew (.cells #[.int .i64 id] 3) := ⟨_, rfl⟩
  rw [← hm1]
  have b1 : Ext wa.drew m1 := by rw [hm1]; exact Ext.alloc _ _
  obtain ⟨g1, hg1⟩ : ∃ gNew, gNew = (wa.drew).heap.size := ⟨_, rfl⟩
  rw [← hg1]
  have r1 : Row1 m1 (.slice (some ⟨g1, 0, none⟩) 1 1) (([id] : List Int).map (.int .i64)) := by rw [hm1, hg1]; exact Row1.made _ _ _ _ _ _ rfl rfl rfl (by unfold maxLen; omega)
  clear hm1 hg1
  have N1 : Ext wa m1 := B0.trans b1
  refine hK.out _ _ N1 (fun hW => ?_)
  clear hK K
  try simp only [nm]
  refine rdy 0 rfl fun K hK => ?_
  refine zbn (by rfl) ?_
  refine zbk (some 5) _ _ _ _ rfl rfl #[.int .u8 80, .int .u8 67, .int .u8 67, .int .u8 84] i0 (.int .u8 0) q107 HI0.out HZ0.out (by rw [HZ1.out]; decide) (by rw [HZ1.out]; decide) (by rw [HZ1.out]; kernel_rfl) ?_
  obtain ⟨m2, hm2⟩ : ∃ wNew, wNew = World.alloc m1 (.cells #[.int .u8 80, .int .u8 67, .int .u8 67, .int .u8 84] 5) := ⟨_, rfl⟩
  rw [← hm2]
  have b2 : Ext m1 m2 := by rw [hm2]; exact Ext.alloc _ _
  obtain ⟨g2, hg2⟩ : ∃ gNew, gNew = (m1).heap.size := ⟨_, rfl⟩
  rw [← hg2]
  have r1 := r1.below b2
  have r2 : Row1 m2 (.slice (some ⟨g2, 0, none⟩) 4 4) (([80, 67, 67, 84] : List UInt8).map bval) := by rw [hm2, hg2]; exact Row1.made _ _ _ _ _ _ rfl rfl rfl (by unfold maxLen; omega)
  have o2 : World.ownsRow m2 (wa).heap.size 5 1 (.slice (some ⟨g2, 0, none⟩) 4 4) 4 (([80, 67, 67, 84] : List UInt8).map bval) := by rw [hm2, hg2]; exact own_made _ _ _ _ _ _ rfl rfl (by unfold maxLen; omega) N1.size
  clear hm2 hg2
  have N2 : Ext wa m2 := N1.trans b2
  refine hK.out _ _ N2 (fun hW => ?_)
  clear hK K
  try simp only [nm]
  refine rdy 1 rfl fun K hK => ?_
  obtain ⟨m3, hcv3, hgr3, hge3, hrw3⟩ := run_mark_own (P := Tryz.prog) (t := 46) q107 q111 o2
  refine zbn (by rfl) ?_
  refine wp_conv_d (some 6) _ _ _ _ _ _ rfl rfl rfl hcv3 ?_
  have r1 := hrw3 _ _ r1
  have r2 := hrw3 _ _ r2
  have N3 : Ext wa m3 := zab N2 hgr3 hge3
  refine hK.out _ _ N3 (fun hW => ?_)
  clear hK K
  try simp only [nm]
  refine rdy 4 rfl fun K hK => ?_
  go_simp
  refine (rint_any (bl := [80, 67, 67, 84]) (ns := [id]) m3 r2 r1 (by simp)).mono ?_
  rintro e m4 ⟨x4, rfl, o4, b4⟩
  have r1 := r1.below b4
  have r2 := r2.below b4
  have o4 : World.ownsRow m4 (wa).heap.size 5 1 x4 12 (([80, 67, 67, 84] ++ be8s [id]).map bval) := own_eq (own_mono o4 N3.size) (by rfl) rfl
  have r4 : Row1 m4 x4 (([80, 67, 67, 84] ++ be8s [id]).map bval) := Row1.of_own o4
  have N4 : Ext wa m4 := N3.trans b4
  refine hK.out _ _ N4 (fun hW => ?_)
  clear hK K
  try simp only [nm]
  refine rdy 6 rfl fun K hK => ?_
  refine zbn (by rfl) ?_
  refine zfb _ _ 46 rfl (wa).heap.size 5 i0 (.int .u8 0) 1 q107 HI0.out HZ0.out HZ1.out HZ2.out rfl (x4) 12 _ rfl o4 rfl ((zdi (n := 32) HB0.out (by rw [q101]; exact HKL.out) (by unfold maxLen; omega)).below N4) (zaf _) (by rw [q101, HKL.out]; unfold maxLen; omega) (by rw [q101, HKL.out]; omega) N4.size ?_
  intro v5 m5 ho5 hg5
  have N5 : Ext wa m5 := ext_own N4 o4 (q102 _) hg5
  have r5 : Row1 m5 v5 ((([80, 67, 67, 84] ++ be8s [id] ++ key)).map bval) := by have h := Row1.of_own ho5; simpa using h
  refine hK.out _ _ N5 (fun hW => ?_)
  clear hK K
  try simp only [nm]
  refine rdy 7 rfl fun K hK => ?_
  go_simp
  refine hK.out _ _ N5 (fun hW => ?_)
  clear hK K
  try simp only [nm]
  refine dne ?_
  have HR9 := jh r5
  have HE9 := xt HE0 N5
  generalize m5 = w9 at HR9 HE9 ⊢
  go_wp2_with fail
  go_ret
  exact ⟨_, rfl, HR9.out, HE9.out⟩
