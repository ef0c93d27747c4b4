/- Texts that belong together, one behind the other; each says in its own first remark what it shows. -/
import Derived.Test.YtcfmobgnlejpeaaDoorAll2
import Derived.Test.YtcfmobgnlejpeaaDoorAll1
import Derived.Lib.SlBytesConst

/- The walks of package mac's masked and blockOf. Each theorem names its own conditions. -/
namespace Go.Proofs.YtcfmobgnlejpeaaDoor
open Go.RowKit
set_option linter.unusedVariables false
set_option linter.unusedSimpArgs false

theorem Tryd.arr42 : (Tryd.prog.info? 42).map (·.size) = some 64 := by kernel_rfl
theorem mblock_size {l : List UInt8} (h : l.length = 64) : (Tryd.prog.info? 42).map (·.size) = some (l.map bval).length := by rw [List.length_map, h]; exact Tryd.arr42
def zero64 : List Value := ints .u8 (List.replicate 64 0)
theorem zero64_bytes : zero64 = (zB 64).map bval := by
  unfold zero64 ints zB
  rw [List.map_replicate, List.map_replicate]
  rfl

set_option maxRecDepth 100000 in
set_option maxHeartbeats 8000000 in
theorem masked_any (l : List UInt8) (c : UInt8) (w : World) (hl : l.length = 64) :
    Calls Tryd.prog 20 #[.agg (l.map bval).toArray, .int .u8 (c.toNat : Int)] w fun e w' => e = .returned (.agg ((l.map (· ^^^ c)).map bval).toArray) ∧ Below w.heap.size w w' := by
  have HL := Lib.hid hl
  have HB := Lib.hid (boxes2 w (l.map bval) (ints .u8 (List.replicate 64 0)) 42 42)
  have HIr : Hid ((Tryd.prog.info? 42).map (·.size) = some (l.map bval).length) := Lib.hid (mblock_size hl)
  clear hl
  go_enter Tryd.func20, Tryd.ntmps20
  go_upto_region 1 with (fail)
  obtain ⟨H1, H2, HE⟩ := HB.out
  change Code.wp _ _ _ _ ((w.alloc (.cells (l.map bval).toArray 42)).alloc (.cells (ints .u8 (List.replicate 64 0)).toArray 42))
  generalize (w.alloc (.cells (l.map bval).toArray 42)).alloc (.cells (ints .u8 (List.replicate 64 0)).toArray 42) = w2 at *
  obtain ⟨A, hA⟩ : ∃ A, A = w.heap.size := ⟨_, rfl⟩
  have HAW : Hid (w.heap.size ≤ A) := Lib.hid (by omega)
  rw [← hA] at H1 H2 ⊢
  have H1 := Lib.hid H1
  have H2 := Lib.hid H2
  have HE : Hid (Ext w w2) := Lib.hid HE
  clear hA HB
  go_wp2_with fail
  go_loopw [6] (fun iv wr => ∃ (j : Nat), j ≤ 64 ∧ iv = .int .i64 (j : Int) ∧ Blk wr A ((xTo l c j).map bval) 42 ∧ Blk wr (A + 1) (ints .u8 (List.replicate 64 0)) 42 ∧ Ext w wr) (fun iv _ => 64 - (intOf iv).toNat)
  case atStart => exact ⟨0, by omega, rfl, by rw [xTo_zero]; exact H1.out, H2.out, HE.out⟩
  case round =>
    clear H1 H2 HE
    obtain ⟨j, hj, rfl, hb1, hb2, hbel⟩ := hrel
    have k0 : (0 : Int) ≤ (j : Int) := Int.natCast_nonneg _
    by_cases hlj : j < 64
    · have k1 : (j : Int) < 64 := by omega
      have hjp : j < l.length := by rw [HL.out]; exact hlj
      have c1 := hb1.cell j
      rw [bval_get (by rw [xTo_length]; exact hjp), xTo_getD l _ j hjp] at c1
      have f1 := hb1.free j
      have x1 := xor_u8 (l.getD j 0) c
      have HX1 := Lib.hid (xTo_set l c j hjp)
      have B1 := Lib.hid hb1
      have B2 := Lib.hid hb2
      have HE := Lib.hid hbel
      generalize hy1 : l.getD j 0 ^^^ c = y1 at *
      clear hb1 hb2 hbel hy1
      obtain ⟨y, hy⟩ : ∃ y, y = l.getD j 0 := ⟨_, rfl⟩
      rw [← hy] at x1 c1
      clear hy
      go_wp2_with fail
      go_roundw
      case rel =>
        refine ⟨j + 1, by omega, by go_num, ?_, B2.out.far (by simp) _, Below.setCell HE.out (by have := HAW.out; simp; omega) _⟩
        rw [← HX1.out, List.map_set]
        exact B1.out.set j _
      case measure => simp [intOf]; omega
    · have hj64 : j = 64 := by omega
      subst hj64
      rw [xTo_full c HL.out] at hb1
      have H1 := Lib.hid hb1
      have H2 := Lib.hid hb2
      have HE := Lib.hid hbel
      have HO : Hid ((l.map (· ^^^ c)).length = 64) := Lib.hid (by rw [List.length_map]; exact HL.out)
      clear hb1 hb2 hbel
      obtain ⟨o, ho⟩ : ∃ o, o = l.map (· ^^^ c) := ⟨_, rfl⟩
      rw [← ho] at H1 HO
      have HOO := Lib.hid ho
      clear ho
      have HIo : Hid ((Tryd.prog.info? 42).map (·.size) = some (o.map bval).length) := Lib.hid (mblock_size HO.out)
      have HLo : Hid ((o.map bval).length = (ints .u8 (List.replicate 64 0)).length) := Lib.hid (by rw [List.length_map, HO.out, ints_length, List.length_replicate])
      go_wp2_with (first | (refine wpList_load_blk rfl _ _ rfl A rfl _ _ _ _ H1.out Tryd.underlying42 HIo.out ?_) | (refine wpList_store_blk rfl _ _ _ rfl (A + 1) (o.map bval) rfl rfl _ _ H2.out HLo.out HIo.out (bval_one _) ?_; intro w4 hb4 hg4))
      refine bodyPost_ret (result_blk rfl _ (A + 1) _ _ _ _ rfl hb4 Tryd.underlying42 HIo.out) rfl ?_
      exact ⟨by rw [HOO.out], ext_grown HE.out hg4 (by have := HAW.out; omega)⟩

set_option maxRecDepth 100000 in
set_option maxHeartbeats 8000000 in
theorem blockOf_any (kv : Value) (k : List UInt8) (w : World) (hk : Row1 w kv (k.map bval)) (hkl : k.length ≤ 1099511627776) (hG : GlobR w) :
    Calls Tryd.prog 19 #[kv] w fun e w' => e = .returned (.agg ((hPad (hKey k)).map bval).toArray) ∧ Below w.heap.size w w' := by
  have HK := Lib.hid hk
  have HG := Lib.hid hG
  have HKL := Lib.hid hkl
  obtain ⟨a, cap, rfl, r1, r2, r3, r4⟩ := id hk
  rw [List.length_map] at r1 HK ⊢
  unfold maxLen at r2
  have HB := Lib.hid (boxes2 w (ints .u8 (List.replicate 64 0)) (ints .u8 (List.replicate 64 0)) 42 42)
  clear hk hG hkl r3 r4
  go_enter Tryd.func19, Tryd.ntmps19
  go_upto_if 7 with (fail)
  obtain ⟨H1, H2, HE⟩ := HB.out
  change Code.wp _ _ _ _ ((w.alloc (.cells (ints .u8 (List.replicate 64 0)).toArray 42)).alloc (.cells (ints .u8 (List.replicate 64 0)).toArray 42))
  generalize (w.alloc (.cells (ints .u8 (List.replicate 64 0)).toArray 42)).alloc (.cells (ints .u8 (List.replicate 64 0)).toArray 42) = w1 at *
  obtain ⟨A, hA⟩ : ∃ A, A = w.heap.size := ⟨_, rfl⟩
  have HAW : Hid (w.heap.size ≤ A) := Lib.hid (by omega)
  rw [← hA] at H1 H2 ⊢
  have H1 := Lib.hid H1
  have H2 := Lib.hid H2
  have HE : Hid (Ext w w1) := Lib.hid HE
  clear hA HB
  go_cut [0, 4] from 5 to 11 (fun v u5 wc => ∃ (a' : Option Addr) (n cap' : Nat), v = .slice a' n cap' ∧ n = (hKey k).length ∧ Row1 wc (.slice a' n cap') ((hKey k).map bval) ∧ Blk wc A (ints .u8 (List.replicate 64 0)) 42 ∧ Blk wc (A + 1) (ints .u8 (List.replicate 64 0)) 42 ∧ Ext w wc)
  case first =>
    by_cases h64 : 64 < k.length
    · have h64' : (64 : Int) < (k.length : Int) := by omega
      have hkk := hKey_long h64
      go_wp2_with fail
      refine (Sum_one _ k _ (HK.out.below HE.out) HKL.out (HG.out.ext HE.out)).mono ?_
      rintro e w2 ⟨rfl, hb⟩
      have HE2 := Lib.hid (HE.out.trans hb)
      have H12 := Lib.hid (H1.out.same (hb.block _ H1.out.lt))
      have H22 := Lib.hid (H2.out.same (hb.block _ H2.out.lt))
      clear hb H1 H2 HE
      have HHK := Lib.hid hkk
      have HL := Lib.hid (sha256_length k)
      clear hkk
      generalize sha256 k = o at *
      have HZ := Lib.hid (Blk.made w2 (ints .u8 (List.replicate 32 0)) 25)
      have HA := Ext.alloc w2 (.cells (ints .u8 (List.replicate 32 0)).toArray 25)
      have HE3 := Lib.hid (HE2.out.trans HA)
      have H13 := Lib.hid (H12.out.same (HA.block _ H12.out.lt))
      have H23 := Lib.hid (H22.out.same (HA.block _ H22.out.lt))
      have HIo : Hid ((Tryd.prog.info? 25).map (·.size) = some (o.map bval).length) := Lib.hid (num_size HL.out)
      have HLo : Hid ((o.map bval).length = (ints .u8 (List.replicate 32 0)).length) := Lib.hid (by rw [List.length_map, HL.out, ints_length, List.length_replicate])
      have HS2 := Lib.hid HE2.out.size
      have HLT := Lib.hid H22.out.lt
      clear HA
      go_wp2_with (refine wpList_store_blk rfl _ _ _ rfl w2.heap.size (o.map bval) rfl rfl _ _ HZ.out HLo.out HIo.out (bval_one _) ?_; intro w7 hb7 hg7)
      go_meet
      exact ⟨_, _, _, rfl, by rw [HHK.out, HL.out], by rw [HHK.out]; exact blk_row (n := 32) hb7 (by rw [List.length_map, HL.out]) (by unfold maxLen; omega), H13.out.grown hg7 (fun e => by have h := Option.some.inj e; have := HLT.out; omega), H23.out.grown hg7 (fun e => by have h := Option.some.inj e; have := HLT.out; omega), ext_grown HE3.out hg7 HS2.out⟩
    · have h64' : ¬ (64 : Int) < (k.length : Int) := by omega
      have hkk := hKey_small (k := k) (by omega)
      go_wp2_with fail
      go_meet
      exact ⟨_, _, _, rfl, by rw [hkk], by rw [hkk]; exact HK.out.below HE.out, H1.out, H2.out, HE.out⟩
  case rest =>
    obtain ⟨a', n, cap', rfl, hn, hrow, hb1, hb2, hE⟩ := hcut
    clear HK H1 H2 HE r1 r2 HKL
    have hkl := hKey_length k
    have hpl := hPad_length hkl
    have hsp := splice_zeros 64 (hKey k)
    have hpp : (hKey k) ++ List.replicate (64 - (hKey k).length) 0 = hPad (hKey k) := rfl
    rw [hpp] at hsp
    clear hpp
    obtain ⟨p, hp⟩ : ∃ p, p = hPad (hKey k) := ⟨_, rfl⟩
    have HP := Lib.hid hp
    rw [← hp] at hsp hpl
    clear hp
    obtain ⟨q, hq⟩ : ∃ q, q = hKey k := ⟨_, rfl⟩
    rw [← hq] at hsp hkl hrow hn
    clear hq
    subst hn
    rw [show (ints .u8 (List.replicate 64 0)) = (zB 64).map bval from zero64_bytes] at hb2
    have HSP := Lib.hid hsp
    have HPL := Lib.hid hpl
    have HQL := Lib.hid hkl
    have HR := Lib.hid hrow
    have H1 := Lib.hid hb1
    have H2 := Lib.hid hb2
    have HE := Lib.hid hE
    have HSI := Lib.hid (row_src hrow q (by rw [List.take_length]) (Nat.le_refl _) (Ext.refl wc))
    have HN : Hid ((q.map bval).length = Nat.min q.length 64) := Lib.hid (by rw [List.length_map]; exact (Nat.min_eq_left HQL.out).symm)
    have HF : Hid (0 + (q.map bval).length ≤ ((zB 64).map bval).length) := Lib.hid (by rw [List.length_map, List.length_map, zB_length]; have := HQL.out; omega)
    clear hsp hpl hkl hrow hb1 hb2 hE
    go_upto_region 6 with (refine wpList_copy_blk rfl (.tmp 12) (.tmp 13) 22 22 rfl 5 Tryd.underlying22 one_u8 (some ⟨A + 1, 0, none⟩) a' 64 64 q.length cap' rfl rfl (A + 1) 0 ((zB 64).map bval) 42 H2.out (q.map bval) HN.out (fun h => ⟨rfl, HSI.out h⟩) HF.out (bval_one _) ?_; intro w3 hc3 hg3)
    simp only [Act.put, List.setIfInBounds_toArray, List.set_cons_zero, List.set_cons_succ]
    rw [HSP.out] at hc3
    have HE3 : Hid (Ext w w3) := Lib.hid (ext_grown HE.out hg3 (by have := HAW.out; omega))
    have H13 := Lib.hid (H1.out.grown hg3 (fun e => by have h := Option.some.inj e; omega))
    have H23 : Hid (Blk w3 (A + 1) (p.map bval) 42) := Lib.hid hc3
    have HIo : Hid ((Tryd.prog.info? 42).map (·.size) = some (p.map bval).length) := Lib.hid (mblock_size HPL.out)
    have HLo : Hid ((p.map bval).length = (ints .u8 (List.replicate 64 0)).length) := Lib.hid (by rw [List.length_map, HPL.out, ints_length, List.length_replicate])
    clear hc3 hg3 H1 H2 HE HSI HF HN HSP HR
    go_wp2_with (first | (refine wpList_load_blk rfl _ _ rfl (A + 1) rfl _ _ _ _ H23.out Tryd.underlying42 HIo.out ?_) | (refine wpList_store_blk rfl _ _ _ rfl A (p.map bval) rfl rfl _ _ H13.out HLo.out HIo.out (bval_one _) ?_; intro w4 hb4 hg4))
    refine bodyPost_ret (result_blk rfl _ A _ _ _ _ rfl hb4 Tryd.underlying42 HIo.out) rfl ?_
    exact ⟨by rw [HP.out], ext_grown HE3.out hg4 HAW.out⟩

end Go.Proofs.YtcfmobgnlejpeaaDoor

/- The walk of package mac's Sum. Each theorem names its own conditions. -/
namespace Go.Proofs.YtcfmobgnlejpeaaDoor
open Go.RowKit
set_option linter.unusedVariables false
set_option linter.unusedSimpArgs false

theorem Sum_val (v : Value) (ls : List (List UInt8)) (l : List UInt8) (w : World) (hv : RowB w v ls) (hf : ls.flatten = l) (hl : l.length ≤ 1099511627776) (hG : GlobR w) :
    Calls Tryd.prog 21 #[v] w fun e w' => e = .returned (.agg ((sha256 l).map bval).toArray) ∧ Below w.heap.size w w' := by
  subst hf
  exact Sum_num v ls w hv hl hG
theorem masked_in (l : List UInt8) (w : World) (hl : l.length = 64) :
    Calls Tryd.prog 20 #[.agg (l.map bval).toArray, .int .u8 54] w fun e w' => e = .returned (.agg ((l.map (· ^^^ 0x36)).map bval).toArray) ∧ Below w.heap.size w w' := masked_any l 0x36 w hl
theorem masked_out (l : List UInt8) (w : World) (hl : l.length = 64) :
    Calls Tryd.prog 20 #[.agg (l.map bval).toArray, .int .u8 92] w fun e w' => e = .returned (.agg ((l.map (· ^^^ 0x5c)).map bval).toArray) ∧ Below w.heap.size w w' := masked_any l 0x5c w hl
theorem info_rows : (Tryd.prog.info? 22).map (fun i => (i.zero, i.size, i.bytes)) = some (some (.slice none 0 0), 1, 24) := by kernel_rfl
theorem info_three {P : Program} {t : TypeId} {z : Value} {n m : Nat} (h : (P.info? t).map (fun i => (i.zero, i.size, i.bytes)) = some (some z, n, m)) : ∃ i, P.info? t = some i ∧ i.zero = some z ∧ i.size = n ∧ i.bytes = m := by
  cases hp : P.info? t with
  | none => rw [hp] at h; cases h
  | some i =>
    rw [hp] at h
    simp only [Option.map_some, Option.some.injEq, Prod.mk.injEq] at h
    exact ⟨i, rfl, h.1, h.2.1, h.2.2⟩
/-- A row of rows with one more ahead. -/
theorem rowB_cons {w : World} {v x : Value} {vals : List Value} {l : List UInt8} {ls : List (List UInt8)} (h : Row1 w v ([x] ++ vals)) (hx : Row1 w x (l.map bval)) (hn : vals.length = ls.length)
    (hall : ∀ (i : Nat) (y : Value) (m : List UInt8), vals[i]? = some y → ls[i]? = some m → Row1 w y (m.map bval)) : RowB w v (l :: ls) := by
  refine ⟨x :: vals, h, by simp [hn], fun i y m hy hm => ?_⟩
  cases i with
  | zero =>
    simp only [List.getElem?_cons_zero, Option.some.injEq] at hy hm
    subst hy hm
    exact hx
  | succ i =>
    simp only [List.getElem?_cons_succ] at hy hm
    exact hall i y m hy hm
theorem rows_one {w : World} {vals : List Value} {ls : List (List UInt8)} (hn : vals.length = ls.length)
    (hall : ∀ (i : Nat) (y : Value) (m : List UInt8), vals[i]? = some y → ls[i]? = some m → Row1 w y (m.map bval)) : ∀ u ∈ vals, u.oneCell' = true := fun u hu => by
  obtain ⟨i, hi, rfl⟩ := List.mem_iff_getElem.1 hu
  obtain ⟨a, n, c, e⟩ := row_form (hall i vals[i] (ls[i]'(by omega)) (List.getElem?_eq_getElem hi) (List.getElem?_eq_getElem (by omega)))
  rw [e]
  rfl

set_option maxRecDepth 100000 in
set_option maxHeartbeats 8000000 in
theorem MacSum_num (kv v : Value) (k : List UInt8) (ls : List (List UInt8)) (w : World) (hk : Row1 w kv (k.map bval)) (hv : RowB w v ls) (hkl : k.length ≤ 1099511627776) (hl : ls.flatten.length ≤ 1099511627712) (hn : ls.length ≤ 1000000) (hG : GlobR w) :
    Calls Tryd.prog 17 #[kv, v] w fun e w' => e = .returned (.agg ((hmac k ls.flatten).map bval).toArray) ∧ Below w.heap.size w w' := by
  obtain ⟨iq, hq0, hq1, hq2, hq3⟩ := info_three info_rows
  have HQ0 := Lib.hid hq0
  have HQ1 := Lib.hid hq1
  have HQ2 := Lib.hid hq2
  have HQ3 := Lib.hid hq3
  have HK := Lib.hid hk
  have HV := Lib.hid hv
  have HL := Lib.hid hl
  have HN := Lib.hid hn
  have HKL := Lib.hid hkl
  have HG := Lib.hid hG
  have HB0 := Lib.hid (Blk.made w (ints .u8 (List.replicate 32 0)) 25)
  have HE0 := Lib.hid (Ext.alloc w (.cells (ints .u8 (List.replicate 32 0)).toArray 25))
  clear hk hv hkl hl hn hG hq0 hq1 hq2 hq3
  go_enter Tryd.func17, Tryd.ntmps17
  go_upto_region 1 with (fail)
  change Code.wp _ _ _ _ (w.alloc (.cells (ints .u8 (List.replicate 32 0)).toArray 25))
  generalize hw1 : w.alloc (.cells (ints .u8 (List.replicate 32 0)).toArray 25) = w1 at *
  clear hw1
  go_wp2_with fail
  refine (blockOf_any kv k _ (HK.out.below HE0.out) HKL.out (HG.out.ext HE0.out)).mono ?_
  rintro e w2 ⟨rfl, hb⟩
  have HE2 := Lib.hid (HE0.out.trans hb)
  have HB2 := Lib.hid (HB0.out.same (hb.block _ HB0.out.lt))
  have hmac1 : hmac k ls.flatten = sha256 ((hPad (hKey k)).map (· ^^^ 0x5c) ++ sha256 ((hPad (hKey k)).map (· ^^^ 0x36) ++ ls.flatten)) := rfl
  have HPL := Lib.hid (hPad_length (hKey_length k))
  have HFIN := Lib.hid hmac1
  clear hb HB0 HE0 hmac1
  generalize hPad (hKey k) = p at *
  have HZ := Lib.hid (Blk.made w2 (ints .u8 (List.replicate 64 0)) 42)
  have HA := Ext.alloc w2 (.cells (ints .u8 (List.replicate 64 0)).toArray 42)
  have HE3 := Lib.hid (HE2.out.trans HA)
  have HB3 := Lib.hid (HB2.out.same (HA.block _ HB2.out.lt))
  have HIp : Hid ((Tryd.prog.info? 42).map (·.size) = some (p.map bval).length) := Lib.hid (mblock_size HPL.out)
  have HLp : Hid ((p.map bval).length = (ints .u8 (List.replicate 64 0)).length) := Lib.hid (by rw [List.length_map, HPL.out, ints_length, List.length_replicate])
  have HS2 := Lib.hid HE2.out.size
  have HLT := Lib.hid HB2.out.lt
  clear HA HB2
  go_upto_region 2 with (refine wpList_store_blk rfl _ _ _ rfl w2.heap.size (p.map bval) rfl rfl _ _ HZ.out HLp.out HIp.out (bval_one _) ?_; intro w4 hb4 hg4)
  have HE4 := Lib.hid (ext_grown HE3.out hg4 HS2.out)
  have HB4 := Lib.hid (HB3.out.grown hg4 (fun e => by have h := Option.some.inj e; have := HLT.out; omega))
  have HP4 := Lib.hid hb4
  obtain ⟨A, hA⟩ : ∃ A, A = w.heap.size := ⟨_, rfl⟩
  obtain ⟨K, hK⟩ : ∃ K, K = w2.heap.size := ⟨_, rfl⟩
  have HAW : Hid (w.heap.size ≤ A) := Lib.hid (by omega)
  rw [← hA] at HB4 ⊢
  rw [← hK] at HP4 ⊢
  clear hb4 hg4 HZ HE3 HB3 HLT HS2 HE2 hA hK HLp
  refine wp_region_from 4 4 6 rfl (by kernel_rfl) (by kernel_rfl) (fun d v c a w h => by cases d <;> exact h) (by kernel_rfl) ?_
  refine det_load 42 _ K (p.map bval) _ (by rfl) rfl rfl (fun w hw => bl_range HP4.out hw) Tryd.underlying42 rfl HIp.out ?_
  simp only [Act.put, List.setIfInBounds_toArray, List.set_cons_zero, List.set_cons_succ]
  refine det_call _ _ _ [.agg (p.map bval).toArray, .int .u8 54] (.agg ((p.map (· ^^^ 0x36)).map bval).toArray) (by rfl) rfl Tryd.call20 rfl (fun w hw => masked_in p w HPL.out) ?_
  simp only [Act.put, List.setIfInBounds_toArray, List.set_cons_zero, List.set_cons_succ]
  refine det_load 42 _ K (p.map bval) _ (by rfl) rfl rfl (fun w hw => bl_range HP4.out hw) Tryd.underlying42 rfl HIp.out ?_
  simp only [Act.put, List.setIfInBounds_toArray, List.set_cons_zero, List.set_cons_succ]
  refine det_call _ _ _ [.agg (p.map bval).toArray, .int .u8 92] (.agg ((p.map (· ^^^ 0x5c)).map bval).toArray) (by rfl) rfl Tryd.call20 rfl (fun w hw => masked_out p w HPL.out) ?_
  simp only [Act.put, List.setIfInBounds_toArray, List.set_cons_zero, List.set_cons_succ]
  have HQI : Hid ((p.map (· ^^^ 0x36)).length = 64) := Lib.hid (by rw [List.length_map]; exact HPL.out)
  have HQL : Hid ((p.map (· ^^^ 0x5c)).length = 64) := Lib.hid (by rw [List.length_map]; exact HPL.out)
  generalize p.map (· ^^^ 0x36) = pp at *
  generalize p.map (· ^^^ 0x5c) = qq at *
  have HLq : Hid ((qq.map bval).length = (ints .u8 (List.replicate 64 0)).length) := Lib.hid (by rw [List.length_map, HQL.out, ints_length, List.length_replicate])
  have HLi : Hid ((pp.map bval).length = (ints .u8 (List.replicate 64 0)).length) := Lib.hid (by rw [List.length_map, HQI.out, ints_length, List.length_replicate])
  refine det_nil (end_var2 (k := 4) 42 6 7 (.tmp 12) (.tmp 14) (ints .u8 (List.replicate 64 0)) (pp.map bval) (qq.map bval) rfl rfl rfl rfl (by kernel_rfl) (by kernel_rfl) (by kernel_rfl) (by kernel_rfl) (by kernel_rfl) (by kernel_rfl) (by kernel_rfl) (by kernel_rfl) (by kernel_rfl) (by kernel_rfl) rfl rfl rfl rfl rfl rfl rfl rfl (by decide) (fun w => by rw [Tryd.zeroValue42]; rfl) rfl rfl rfl rfl (by simp) (by simp) (fun p q => rfl) (fun p q => rfl) HLi.out HLq.out (mblock_size HQI.out) (mblock_size HQL.out) (bval_one _) (bval_one _) ?_)
  intro P Q w5 hpq hp hq hb1 hb2 he1
  simp only [Act.put, List.setIfInBounds_toArray, List.set_cons_zero, List.set_cons_succ]
  have HB5 := Lib.hid (ext_blk HB4.out he1)
  have HE5 := Lib.hid (HE4.out.trans he1)
  have HI5 := Lib.hid hb1
  have HQ5 := Lib.hid hb2
  have HPQ := Lib.hid hpq
  clear hpq hp hq hb1 hb2 he1 HB4 HE4 HP4 HIp HLq HLi
  -- the inner one
  have HXA := Ext.alloc w5 (.cells #[.slice (some ⟨P, 0, none⟩) 64 64] 22)
  have HOW := Lib.hid (own_made w5 #[.slice (some ⟨P, 0, none⟩) 64 64] w5.heap.size 22 1 [.slice (some ⟨P, 0, none⟩) 64 64] rfl rfl (by unfold maxLen; omega) (Nat.le_refl _))
  have HB6 := Lib.hid (ext_blk HB5.out HXA)
  have HI6 := Lib.hid (ext_blk HI5.out HXA)
  have HQ6 := Lib.hid (ext_blk HQ5.out HXA)
  have HE6 := Lib.hid (HE5.out.trans HXA)
  obtain ⟨vals, v1, v2, v3⟩ := HV.out
  have HONE := Lib.hid (rows_one v2 v3)
  have HV1 := Lib.hid (v1.below HE6.out)
  have HV2 := Lib.hid v2
  have HV3 := Lib.hid v3
  have HVN : Hid (vals.length ≤ 1000000) := Lib.hid (by rw [v2]; exact HN.out)
  have HSZ : Hid (w5.heap.size ≤ (w5.alloc (.cells #[.slice (some ⟨P, 0, none⟩) 64 64] 22)).heap.size) := Lib.hid HXA.size
  have HSW := Lib.hid HE5.out.size
  have HL5 := Lib.hid HB5.out.lt
  have HLI5 := Lib.hid HI5.out.lt
  have HLQ5 := Lib.hid HQ5.out.lt
  clear v1 v2 v3 HXA HB5 HI5 HQ5 HE5 HV
  go_wp2_with (at_builtin; refine wpList_append_row rfl _ _ 40 rfl w5.heap.size 22 iq (.slice none 0 0) 24 Tryd.underlying40 HQ0.out HQ1.out HQ2.out HQ3.out rfl _ 1 _ rfl HOW.out rfl HV1.out HONE.out (by have := HVN.out; unfold maxLen; omega) (by have := HVN.out; omega) HSZ.out ?_; intro x6 w6 hown6 hgrow6)
  have HR6 := Row1.of_own hown6
  have hgrow6 : (w5.alloc (.cells #[.slice (some ⟨P, 0, none⟩) 64 64] 22)).grownBy w6 (some w5.heap.size) := hgrow6
  have HFAR : ∀ {c : Nat} {cs : List Value} {t : TypeId}, Blk (w5.alloc (.cells #[.slice (some ⟨P, 0, none⟩) 64 64] 22)) c cs t → c < w5.heap.size → Blk w6 c cs t := fun h hc => h.grown hgrow6 (fun e => by have h := Option.some.inj e; omega)
  have HB7 := Lib.hid (HFAR HB6.out HL5.out)
  have HI7 := Lib.hid (HFAR HI6.out HLI5.out)
  have HQ7 := Lib.hid (HFAR HQ6.out HLQ5.out)
  have HE7 := Lib.hid (ext_own HE6.out HOW.out HSW.out hgrow6)
  have HRB : Hid (RowB w6 x6 (pp :: ls)) := Lib.hid (rowB_cons HR6 (blk_row (n := 64) HI7.out (by rw [List.length_map]; exact HQI.out) (by unfold maxLen; omega)) HV2.out (fun i y m h1 h2 => (HV3.out i y m h1 h2).below HE7.out))
  clear HR6 hgrow6 hown6 HFAR HB6 HI6 HQ6 HE6 HOW HSZ HSW HL5 HLI5 HLQ5 HV1 HV2 HV3 HVN HONE HPQ
  refine (Sum_val x6 (pp :: ls) (pp ++ ls.flatten) w6 HRB.out (by simp) (by rw [List.length_append, HQI.out]; have := HL.out; omega) (HG.out.ext HE7.out)).mono ?_
  rintro e w7 ⟨rfl, hb⟩
  have HB9 := Lib.hid (ext_blk HB7.out hb)
  have HQ9 := Lib.hid (ext_blk HQ7.out hb)
  have HE9 := Lib.hid (HE7.out.trans hb)
  have HDL := Lib.hid (sha256_length (pp ++ ls.flatten))
  clear hb HB7 HQ7 HE7 HI7 HRB
  generalize sha256 (pp ++ ls.flatten) = dd at *
  have HZ := Lib.hid (Blk.made w7 (ints .u8 (List.replicate 32 0)) 25)
  have HXA := Ext.alloc w7 (.cells (ints .u8 (List.replicate 32 0)).toArray 25)
  have HB10 := Lib.hid (ext_blk HB9.out HXA)
  have HQ10 := Lib.hid (ext_blk HQ9.out HXA)
  have HE10 := Lib.hid (HE9.out.trans HXA)
  have HS7 := Lib.hid HE9.out.size
  have HLB := Lib.hid HB9.out.lt
  have HLQ := Lib.hid HQ9.out.lt
  have HId : Hid ((Tryd.prog.info? 25).map (·.size) = some (dd.map bval).length) := Lib.hid (num_size HDL.out)
  have HLd : Hid ((dd.map bval).length = (ints .u8 (List.replicate 32 0)).length) := Lib.hid (by rw [List.length_map, HDL.out, ints_length, List.length_replicate])
  clear HXA HB9 HQ9 HE9
  go_upto_region 4 with (refine wpList_store_blk rfl _ _ _ rfl w7.heap.size (dd.map bval) rfl rfl _ _ HZ.out HLd.out HId.out (bval_one _) ?_; intro w8 hb8 hg8)
  have HA8 := Lib.hid (HB10.out.grown hg8 (fun e => by have h := Option.some.inj e; have := HLB.out; omega))
  have HQ8 := Lib.hid (HQ10.out.grown hg8 (fun e => by have h := Option.some.inj e; have := HLQ.out; omega))
  have HE8 := Lib.hid (ext_grown HE10.out hg8 HS7.out)
  have HD8 := Lib.hid hb8
  obtain ⟨D, hD⟩ : ∃ D, D = w7.heap.size := ⟨_, rfl⟩
  rw [← hD] at HD8 ⊢
  clear hb8 hg8 HZ HB10 HQ10 HE10 HS7 HLB HLQ HId HLd hD
  have hA := HA8.out
  have lA := HAW.out
  have B0 : Ext w w8.drew := (HE8.out).trans (Ext.drew _)
  refine wp_region_held_drew (S := fun w' => Ext w w') (by kernel_rfl) B0 (fun hHeld => ?_)
  have hA := hA.below (Ext.drew _)
  have rq := (blk_row (n := 64) HQ8.out (by rw [List.length_map]; exact HQL.out) (by unfold maxLen; omega)).below (Ext.drew _)
  have rd := (blk_row (n := 32) HD8.out (by rw [List.length_map]; exact HDL.out) (by unfold maxLen; omega)).below (Ext.drew _)
  refine wpAnyH_take (i := 0) (v := .slice (some ⟨Q, 0, none⟩) 64 64) rfl (by kernel_rfl) (by kernel_rfl) (by kernel_rfl) (fun _ _ _ h => h) (yi_slice _ _ _ _ (.pointer (some ⟨Q, 0, none⟩)) (.slice (some ⟨Q, 0, none⟩) 64 64) none none (by rfl) rfl rfl rfl rfl (fun w => cut_whole Tryd.underlying42 Tryd.sizeOf5 (by omega) _ w)) hHeld ?_
  simp only [Act.put, List.getElem_toArray, List.getElem_cons_zero, List.getElem_cons_succ, List.setIfInBounds_toArray, List.set_cons_zero, List.set_cons_succ]
  refine wpAnyH_take (i := 1) (v := .slice (some ⟨D, 0, none⟩) 32 32) rfl (by kernel_rfl) (by kernel_rfl) (by kernel_rfl) (fun _ _ _ h => h) (yi_slice _ _ _ _ (.pointer (some ⟨D, 0, none⟩)) (.slice (some ⟨D, 0, none⟩) 32 32) none none (by rfl) rfl rfl rfl rfl (fun w => cut_whole Tryd.underlying25 Tryd.sizeOf5 (by omega) _ w)) hHeld ?_
  simp only [Act.put, List.getElem_toArray, List.getElem_cons_zero, List.getElem_cons_succ, List.setIfInBounds_toArray, List.set_cons_zero, List.set_cons_succ]
  refine wpAnyH_ready (rs := [2]) (by kernel_rfl) (by simp) (AllReadyH.cons rfl (fun K hK => ?_) AllReadyH.nil)
  refine step_wp (by rfl) ?_
  refine wp_buildSlice_d (some 22) _ _ _ _ rfl rfl #[.slice (some ⟨Q, 0, none⟩) 64 64, .slice (some ⟨D, 0, none⟩) 32 32] iq (.slice none 0 0) Tryd.underlying40 HQ0.out HQ1.out (by rw [HQ2.out]; decide) (by rw [HQ2.out]; decide) (by rw [HQ2.out]; kernel_rfl) ?_
  obtain ⟨m1, hm1⟩ : ∃ wNew, wNew = World.alloc w8.drew (.cells #[.slice (some ⟨Q, 0, none⟩) 64 64, .slice (some ⟨D, 0, none⟩) 32 32] 22) := ⟨_, rfl⟩
  rw [← hm1]
  have b1 : Ext w8.drew m1 := by rw [hm1]; exact Ext.alloc _ _
  obtain ⟨g1, hg1⟩ : ∃ gNew, gNew = (w8.drew).heap.size := ⟨_, rfl⟩
  rw [← hg1]
  have rq := rq.below b1
  have rd := rd.below b1
  have hA := hA.below b1
  have r1 : Row1 m1 (.slice (some ⟨g1, 0, none⟩) 2 2) [.slice (some ⟨Q, 0, none⟩) 64 64, .slice (some ⟨D, 0, none⟩) 32 32] := by rw [hm1, hg1]; exact Row1.made _ _ _ _ _ _ rfl rfl rfl (by unfold maxLen; omega)
  clear hm1 hg1
  have N1 : Ext w m1 := B0.trans b1
  refine hK.out _ _ N1 (fun hHeld => ?_)
  clear hK K
  try simp only [Act.put, List.getElem_toArray, List.getElem_cons_zero, List.getElem_cons_succ, List.setIfInBounds_toArray, List.set_cons_zero, List.set_cons_succ]
  refine wpAnyH_ready (rs := [3]) (by kernel_rfl) (by simp) (AllReadyH.cons rfl (fun K hK => ?_) AllReadyH.nil)
  go_simp
  refine (Sum_val _ _ (qq ++ dd) _ (rowB2 r1 rq rd) (by simp) (by rw [List.length_append, HQL.out, HDL.out]; omega) (HG.out.ext N1)).mono ?_
  rintro e m2 ⟨rfl, b2⟩
  have rq := rq.below b2
  have rd := rd.below b2
  have r1 := r1.below b2
  have hA := hA.below b2
  have N2 : Ext w m2 := N1.trans b2
  refine hK.out _ _ N2 (fun hHeld => ?_)
  clear hK K
  try simp only [Act.put, List.getElem_toArray, List.getElem_cons_zero, List.getElem_cons_succ, List.setIfInBounds_toArray, List.set_cons_zero, List.set_cons_succ]
  refine wpAnyH_ready (rs := [4]) (by kernel_rfl) (by simp) (AllReadyH.cons rfl (fun K hK => ?_) AllReadyH.nil)
  refine step_wp (by rfl) ?_
  refine wp_store_blk _ _ _ rfl A ((sha256 (qq ++ dd)).map bval) rfl rfl _ _ hA (by rw [List.length_map, sha256_length _]; rfl) (num_size (sha256_length _)) (bval_one _) ?_
  intro m3 hb3 hg3
  have N3 : Ext w m3 := ext_grown N2 hg3 lA
  refine hK.out _ _ N3 (fun hHeld => ?_)
  clear hK K
  try simp only [Act.put, List.getElem_toArray, List.getElem_cons_zero, List.getElem_cons_succ, List.setIfInBounds_toArray, List.set_cons_zero, List.set_cons_succ]
  refine wpAnyH_done (by kernel_rfl) ?_ _
  have hfin := hb3
  have hNN := N3
  generalize m3 = w11 at hfin hNN ⊢
  have HIo : Hid ((Tryd.prog.info? 25).map (·.size) = some ((sha256 (qq ++ dd)).map bval).length) := Lib.hid (num_size (sha256_length _))
  go_wp2_with fail
  refine bodyPost_ret (result_blk rfl _ A _ _ _ _ rfl hfin Tryd.underlying25 HIo.out) rfl ?_
  exact ⟨by rw [HFIN.out], hNN⟩

end Go.Proofs.YtcfmobgnlejpeaaDoor

/- The code of one list under a key, the list laid in a slice that was just made. Each theorem names its own conditions. -/
namespace Go.Proofs.YtcfmobgnlejpeaaDoor
open Go.RowKit
set_option linter.unusedVariables false
set_option linter.unusedSimpArgs false

theorem MacSum_one (kv x : Value) (k l : List UInt8) (w : World) (hk : Row1 w kv (k.map bval)) (hx : Row1 w x (l.map bval)) (hkl : k.length ≤ 1099511627776) (hl : l.length ≤ 1099511627712) (hG : GlobR w) :
    Calls Tryd.prog 17 #[kv, .slice (some ⟨w.heap.size, 0, none⟩) 1 1] (w.alloc (.cells #[x] 22)) fun e w' => e = .returned (.agg ((hmac k l).map bval).toArray) ∧ Ext w w' := by
  have he := Ext.alloc w (.cells #[x] 22)
  have h := MacSum_num kv _ k [l] _ (hk.below he) (rowB1 (Row1.made w #[x] 22 _ 1 [x] rfl rfl rfl (by unfold maxLen; omega)) (hx.below he)) hkl (by simpa using hl) (by simp) (hG.ext he)
  refine h.mono fun e w' hh => ⟨?_, he.trans hh.2⟩
  rw [hh.1]
  simp
theorem MacSum_val (kv v : Value) (k : List UInt8) (ls : List (List UInt8)) (l : List UInt8) (w : World) (hk : Row1 w kv (k.map bval)) (hv : RowB w v ls) (hf : ls.flatten = l) (hkl : k.length ≤ 1099511627776) (hl : l.length ≤ 1099511627712) (hG : GlobR w) (hn : ls.length ≤ 1000000 := by simp) :
    Calls Tryd.prog 17 #[kv, v] w fun e w' => e = .returned (.agg ((hmac k l).map bval).toArray) ∧ Below w.heap.size w w' := by
  subst hf
  exact MacSum_num kv v k ls w hk hv hkl hl hn hG
theorem size_alloc_w (w : World) (o : Obj) : (w.alloc o).heap.size = w.heap.size + 1 := by simp

end Go.Proofs.YtcfmobgnlejpeaaDoor

/- The walks of package derive's Extract, Expand and Key. Each theorem names its own conditions. -/
namespace Go.Proofs.YtcfmobgnlejpeaaDoor
open Go.RowKit
set_option linter.unusedVariables false
set_option linter.unusedSimpArgs false

/-- What Expand has laid after j rounds. -/
def eB (k info : List UInt8) (n j : Nat) : List UInt8 := (hkAll k info j).take n ++ List.replicate (n - 32 * j) 0
theorem eB_length (k info : List UInt8) (n j : Nat) : (eB k info n j).length = n := by
  unfold eB
  rw [List.length_append, List.length_take, List.length_replicate, hkAll_length]
  omega
theorem eB_zero (k info : List UInt8) (n : Nat) : eB k info n 0 = zB n := by
  simp [eB, hkAll, zB]
theorem eB_full (k info : List UInt8) {n j : Nat} (h : n ≤ 32 * j) : eB k info n j = hExpand k info n := by
  unfold eB
  rw [hkAll_take k info j (by omega), show n - 32 * j = 0 by omega, List.replicate_zero, List.append_nil]
theorem eB_step (k info : List UInt8) {n j : Nat} (h : 32 * j < n) :
    splice ((eB k info n j).map bval) (32 * j) (((hkT k info (j + 1)).take (n - 32 * j)).map bval) = (eB k info n (j + 1)).map bval := by
  have h1 := hkAll_length k info j
  have h2 := hkT_length k info j
  have h3 : ((hkT k info (j + 1)).take (n - 32 * j)).length = min (n - 32 * j) 32 := by rw [List.length_take, h2]
  rw [splice_bytes]
  unfold eB
  rw [hkAll, h3, List.take_of_length_le (l := hkAll k info j) (by omega), List.take_append_of_le_length (by omega), List.take_of_length_le (l := hkAll k info j) (by omega), List.drop_append, List.drop_of_length_le (l := hkAll k info j) (by omega), List.nil_append, List.drop_replicate, List.take_append, List.take_of_length_le (l := hkAll k info j) (by omega), h1]
  congr 3
  omega

/-- s[i:] of a slice that begins a block. -/
theorem cut_tail {P : Program} {t e : TypeId} (ht : P.underlying t = some (.slice e)) (hs : ∀ w, (sizeOf e).run P w = .ok 1 w) (M n i : Nat) (h : i < n) (w : World) :
    (Instr.sliceAt t (.slice (some ⟨M, 0, none⟩) n n) (some (.int .i64 (i : Int))) none none).run P w = .ok (.slice (some ⟨M, i, none⟩) (n - i) (n - i)) w := by
  have e2 : P.elem t = e := by unfold Program.elem; rw [ht]
  have ht2 : P.underlying t = some (.slice (P.elem t)) := by rw [e2]; exact ht
  rw [run_sliceAt_slice w t _ _ _ _ ht2, run_slice_l (ht := ht2) (kl := .i64) (l := (i : Int)) (h0 := by omega) (h1 := by omega), e2, hs]
  simp [sliced, Addr.add, show ¬ n = i by omega]
  omega
theorem MacSum_three (kv t v : Value) (k a b : List UInt8) (y : UInt8) (z : Int) (w : World) (hz : z = (y.toNat : Int)) (hk : Row1 w kv (k.map bval)) (ht : Row1 w t (a.map bval)) (hv : Row1 w v (b.map bval)) (hkl : k.length ≤ 1099511627776) (hal : a.length ≤ 32) (hbl : b.length ≤ 1099511627000) (hG : GlobR w) :
    Calls Tryd.prog 17 #[kv, .slice (some ⟨w.heap.size + 1, 0, none⟩) 3 3] ((w.alloc (.cells #[.int .u8 z] 5)).alloc (.cells #[t, v, .slice (some ⟨w.heap.size, 0, none⟩) 1 1] 22)) fun e w' => e = .returned (.agg ((hmac k (a ++ b ++ [y])).map bval).toArray) ∧ Ext w w' := by
  subst hz
  have e1 := Ext.alloc w (.cells #[.int .u8 (y.toNat : Int)] 5)
  have r1 : Row1 (w.alloc (.cells #[.int .u8 (y.toNat : Int)] 5)) (.slice (some ⟨w.heap.size, 0, none⟩) 1 1) ([y].map bval) := Row1.made w _ _ _ 1 _ rfl rfl rfl (by unfold maxLen; omega)
  have hs : (w.alloc (.cells #[.int .u8 (y.toNat : Int)] 5)).heap.size = w.heap.size + 1 := by simp
  have e2 := Ext.alloc (w.alloc (.cells #[.int .u8 (y.toNat : Int)] 5)) (.cells #[t, v, .slice (some ⟨w.heap.size, 0, none⟩) 1 1] 22)
  have e3 := e1.trans e2
  have h := MacSum_val kv (.slice (some ⟨w.heap.size + 1, 0, none⟩) 3 3) k [a, b, [y]] (a ++ b ++ [y]) _ (hk.below e3) (rowB3 (Row1.made _ #[t, v, .slice (some ⟨w.heap.size, 0, none⟩) 1 1] 22 _ 3 _ hs rfl rfl (by unfold maxLen; omega)) (ht.below e3) (hv.below e3) (r1.below e2)) (by simp) hkl (by simp only [List.length_append, List.length_cons, List.length_nil]; omega) (hG.ext e3)
  exact h.mono fun e w' hh => ⟨hh.1, e3.trans hh.2⟩

set_option maxRecDepth 100000 in
set_option maxHeartbeats 4000000 in
theorem DExtract_num (kv bv : Value) (k m : List UInt8) (w : World) (hk : Row1 w kv (k.map bval)) (hm : Row1 w bv (m.map bval)) (hkl : k.length ≤ 1099511627000) (hml : m.length ≤ 1099511627000) (hG : GlobR w) (hK : GlobK w) :
    Calls Tryd.prog 10 #[kv, bv] w fun e w' => e = .returned (.agg ((hmac k m).map bval).toArray) ∧ Below w.heap.size w w' := by
  obtain ⟨ab, cb, hmv, _, _, _, _⟩ := id hm
  rw [List.length_map] at hmv
  subst hmv
  have HK := Lib.hid hk
  have HM := Lib.hid hm
  have HG := Lib.hid hG
  have HB0 := Lib.hid (Blk.made w (ints .u8 (List.replicate 32 0)) 25)
  have HE0 := Lib.hid (Ext.alloc w (.cells (ints .u8 (List.replicate 32 0)).toArray 25))
  clear hk hm hG hK
  go_enter Tryd.func10, Tryd.ntmps10
  go_upto_region 1 with (fail)
  change Code.wp _ _ _ _ (w.alloc (.cells (ints .u8 (List.replicate 32 0)).toArray 25))
  generalize hw1 : w.alloc (.cells (ints .u8 (List.replicate 32 0)).toArray 25) = w1 at *
  clear hw1
  go_wp2_with fail
  refine (MacSum_one kv _ k m w1 (HK.out.below HE0.out) (HM.out.below HE0.out) (by omega) (by omega) (HG.out.ext HE0.out)).mono ?_
  rintro e w3 ⟨rfl, hb⟩
  have HE3 := Lib.hid (HE0.out.trans hb)
  have HB3 := Lib.hid (HB0.out.same (hb.block _ HB0.out.lt))
  obtain ⟨o2, ho2⟩ : ∃ o2, o2 = hmac k m := ⟨_, rfl⟩
  rw [← ho2]
  have HL : Hid (o2.length = 32) := Lib.hid (by rw [ho2]; exact hmac_length _ _)
  have HO2 := Lib.hid ho2
  clear ho2 hb
  have HIo : Hid ((Tryd.prog.info? 25).map (·.size) = some (o2.map bval).length) := Lib.hid (num_size HL.out)
  have HLo : Hid ((o2.map bval).length = (ints .u8 (List.replicate 32 0)).length) := Lib.hid (by rw [List.length_map, HL.out, ints_length, List.length_replicate])
  go_wp2_with (refine wpList_store_blk rfl _ _ _ rfl w.heap.size (o2.map bval) rfl rfl _ _ HB3.out HLo.out HIo.out (bval_one _) ?_; intro w10 hb10 hg10)
  refine bodyPost_ret (result_blk rfl _ w.heap.size _ _ _ _ rfl hb10 Tryd.underlying25 HIo.out) rfl ?_
  exact ⟨by rw [HO2.out], ext_grown HE3.out hg10 (Nat.le_refl _)⟩

set_option maxRecDepth 100000 in
set_option maxHeartbeats 8000000 in
theorem DExpand_num (iv : Value) (kb info : List UInt8) (n : Int) (w : World) (hk : kb.length = 32) (hi : Row1 w iv (info.map bval)) (hil : info.length ≤ 1099511627000) (hn1 : -9223372036854775808 ≤ n) (hn2 : n ≤ 9223372036854775807) (hG : GlobR w) (hK : GlobK w) :
    Calls Tryd.prog 11 #[.agg (kb.map bval).toArray, iv, .int .i64 n] w fun e w' => ∃ x, e = .returned (.tuple #[x, .int .i64 (dErr n)]) ∧ Row1 w' x ((dOut kb info n).map bval) ∧ Below w.heap.size w w' := by
  obtain ⟨i0, hi0, hz0, hz1, hz2⟩ := info_parts Tryd.info5
  obtain ⟨ai, ci, hiv, _, _, _, _⟩ := id hi
  rw [List.length_map] at hiv
  subst hiv
  have HI0 := Lib.hid hi0
  have HZ0 := Lib.hid hz0
  have HZ1 := Lib.hid hz1
  have HZ2 := Lib.hid hz2
  have HI := Lib.hid hi
  have HIL := Lib.hid hil
  have HG := Lib.hid hG
  have HE0 := Lib.hid (Ext.alloc w (.cells (kb.map bval).toArray 25))
  have HKB := Lib.hid (Blk.made w (kb.map bval) 25)
  have HSZ : Hid ((w.alloc (.cells (kb.map bval).toArray 25)).heap.size = w.heap.size + 1) := Lib.hid (by simp)
  have HKL := Lib.hid hk
  clear hi hG hK hk hil hi0 hz0 hz1 hz2
  go_enter Tryd.func11, Tryd.ntmps11
  go_upto_region 1 with (fail)
  change Code.wp _ _ _ _ (w.alloc (.cells (kb.map bval).toArray 25))
  generalize hw1 : w.alloc (.cells (kb.map bval).toArray 25) = w1 at *
  clear hw1
  by_cases h0 : n < 0
  · have hb : dBad n := Or.inl h0
    go_wp2_with fail
    go_ret2
    exact ⟨.slice none 0 0, by rw [dErr_bad hb]; rfl, by rw [dOut_bad _ _ hb]; exact Row1.nil _, HE0.out⟩
  · by_cases h1 : 8160 < n
    · have hb : dBad n := Or.inr h1
      have d0 : decide (n < 0) = false := decide_eq_false h0
      go_wp2_with fail
      go_ret2
      exact ⟨.slice none 0 0, by rw [dErr_bad hb]; rfl, by rw [dOut_bad _ _ hb]; exact Row1.nil _, HE0.out⟩
    · obtain ⟨q, rfl⟩ : ∃ q : Nat, n = (q : Int) := ⟨n.toNat, by omega⟩
      have d0 : decide ((q : Int) < 0) = false := decide_eq_false h0
      have d1 : decide (8160 < (q : Int)) = false := decide_eq_false h1
      have HQ : Hid (q ≤ 8160) := Lib.hid (by omega)
      clear h0 h1 hn1 hn2
      have hmk := run_make_zeros w1 22 5 Tryd.underlying22 i0 HI0.out HZ0.out HZ1.out HZ2.out q (by have := HQ.out; omega)
      have HMA := Lib.hid (Blk.made w1 ((zB q).map bval) 5)
      have HEM := Lib.hid (Ext.alloc w1 (.cells ((zB q).map bval).toArray 5))
      go_upto_region 4 with (fail)
      change Code.wp _ _ _ _ (w1.alloc (.cells ((zB q).map bval).toArray 5))
      clear hmk
      generalize hw2 : w1.alloc (.cells ((zB q).map bval).toArray 5) = w2 at *
      clear hw2
      have hma := HMA.out
      rw [HSZ.out] at hma ⊢
      have HE2 := Lib.hid (HE0.out.trans HEM.out)
      have HKB2 := Lib.hid (HKB.out.below HEM.out)
      have HM2 := Lib.hid hma
      clear hma HMA HSZ HEM HKB
      obtain ⟨K, hK⟩ : ∃ K, K = w.heap.size := ⟨_, rfl⟩
      obtain ⟨M, hM⟩ : ∃ M, M = w.heap.size + 1 := ⟨_, rfl⟩
      have HMW : Hid (w.heap.size ≤ M) := Lib.hid (by omega)
      have HKM : Hid (K ≠ M) := Lib.hid (by omega)
      rw [← hM] at HM2 ⊢
      rw [← hK] at HKB2 ⊢
      clear hK hM
      obtain ⟨n, hn⟩ : ∃ n, n = q := ⟨_, rfl⟩
      rw [← hn] at HM2 HQ ⊢
      have HN := Lib.hid hn
      clear hn d0 d1
      go_wp2_with fail
      go_loopw [9, 10, 11] (fun tv dv iv' wr => ∃ (j : Nat), j ≤ 255 ∧ dv = .int .i64 ((min (32 * j) n : Nat) : Int) ∧ iv' = .int .u8 (((j + 1) % 256 : Nat) : Int) ∧ Row1 wr tv ((hkT kb info j).map bval) ∧ Blk wr M ((eB kb info n j).map bval) 5 ∧ Blk wr K (kb.map bval) 25 ∧ Ext w wr) (fun _ dv _ _ => n - (intOf dv).toNat)
      case atStart => exact ⟨0, by omega, by simp, rfl, by simpa [hkT] using Row1.nil _, by rw [eB_zero]; exact HM2.out, HKB2.out, HE2.out⟩
      case round =>
        clear HM2 HKB2 HE2
        obtain ⟨j, hj, rfl, rfl, ht, hm, hkb, hE⟩ := hrel
        obtain ⟨atv, ctv, htv, _, _, _, _⟩ := id ht
        rw [List.length_map] at htv
        subst htv
        have HE := Lib.hid hE
        have HT := Lib.hid ht
        have HM := Lib.hid hm
        have HKB := Lib.hid hkb
        clear hE ht hm hkb
        by_cases hlt : 32 * j < n
        · have hmn : min (32 * j) n = 32 * j := by omega
          have hlt2 : ((32 * j : Nat) : Int) < (n : Int) := by omega
          rw [hmn]
          have HIN := Lib.hid (HI.out.below HE.out)
          have HTL := Lib.hid (hkT_le kb info j)
          have HJ := Lib.hid hj
          have HLT := Lib.hid hlt
          clear hj hmn hlt
          obtain ⟨i, hi⟩ : ∃ i, i = (j + 1) % 256 := ⟨_, rfl⟩
          rw [← hi]
          have HIJ := Lib.hid hi
          have HIB : Hid ((i : Int) = ((UInt8.ofNat i).toNat : Int)) := Lib.hid (by rw [UInt8.toNat_ofNat']; omega)
          have HKR := Lib.hid (blk_row (n := 32) HKB.out (by rw [List.length_map]; exact HKL.out) (by unfold maxLen; omega))
          have hmc : hkT kb info (j + 1) = hmac kb (hkT kb info j ++ info ++ [UInt8.ofNat i]) := by rw [hi]; rfl
          have HMC := Lib.hid hmc
          clear hi hmc
          go_wp2_with fail
          refine (MacSum_three _ _ _ kb (hkT kb info j) info (UInt8.ofNat i) _ wr HIB.out HKR.out HT.out HIN.out (by rw [HKL.out]; omega) HTL.out HIL.out (HG.out.ext HE.out)).mono ?_
          rintro e w4 ⟨rfl, hb⟩
          rw [← HMC.out]
          have HE4 := Lib.hid (HE.out.trans hb)
          have HM4 := Lib.hid (HM.out.below hb)
          have HKB4 := Lib.hid (HKB.out.below hb)
          clear hb HT HIN HTL HKR HMC HM HKB
          obtain ⟨o, ho⟩ : ∃ o, o = hkT kb info (j + 1) := ⟨_, rfl⟩
          rw [← ho]
          have HO := Lib.hid ho
          have HOL : Hid (o.length = 32) := Lib.hid (by rw [ho]; exact hkT_length _ _ _)
          clear ho
          have HZ := Lib.hid (Blk.made w4 (ints .u8 (List.replicate 32 0)) 25)
          have HA := Lib.hid (Ext.alloc w4 (.cells (ints .u8 (List.replicate 32 0)).toArray 25))
          have HIo : Hid ((Tryd.prog.info? 25).map (·.size) = some (o.map bval).length) := Lib.hid (num_size HOL.out)
          have HLo : Hid ((o.map bval).length = (ints .u8 (List.replicate 32 0)).length) := Lib.hid (by rw [List.length_map, HOL.out, ints_length, List.length_replicate])
          have HLM := Lib.hid HM4.out.lt
          have HLK := Lib.hid HKB4.out.lt
          go_upto_region 9 with (refine wpList_store_blk rfl _ _ _ rfl w4.heap.size (o.map bval) rfl rfl _ _ HZ.out HLo.out HIo.out (bval_one _) ?_; intro w7 hb7 hg7)
          have HC := Lib.hid hb7
          have HM := Lib.hid ((HM4.out.below HA.out).grown hg7 (fun e => by have h := Option.some.inj e; have := HLM.out; omega))
          have HKB := Lib.hid ((HKB4.out.below HA.out).grown hg7 (fun e => by have h := Option.some.inj e; have := HLK.out; omega))
          have HE7 := Lib.hid (ext_grown (HE4.out.trans HA.out) hg7 HE4.out.size)
          have HCM : Hid (w4.heap.size ≠ M) := Lib.hid (by have := HLM.out; omega)
          obtain ⟨C, hC⟩ : ∃ C, C = w4.heap.size := ⟨_, rfl⟩
          rw [← hC] at HC HCM ⊢
          clear hb7 hg7 hC HZ HA HLo HLM HLK HM4 HKB4 HE4
          have HRO := Lib.hid (blk_row (n := 32) HC.out (by rw [List.length_map]; exact HOL.out) (by unfold maxLen; omega))
          have HTK : Hid (o.take (n - 32 * j) = o.take (o.take (n - 32 * j)).length) := Lib.hid (by rw [List.length_take]; exact (List.take_eq_take_iff.2 (by omega)))
          have HTL2 : Hid ((o.take (n - 32 * j)).length ≤ o.length) := Lib.hid (by rw [List.length_take]; omega)
          have HCL : Hid (((o.take (n - 32 * j)).map bval).length = Nat.min 32 (n - 32 * j)) := Lib.hid (by rw [List.length_map, List.length_take, HOL.out]; exact Nat.min_comm _ _)
          have HGI : Hid (goInt ((o.take (n - 32 * j)).map bval).length = .int .i64 ((min (n - 32 * j) 32 : Nat) : Int)) := Lib.hid (by rw [List.length_map, List.length_take, HOL.out]; rfl)
          have HFIT : Hid (32 * j + ((o.take (n - 32 * j)).map bval).length ≤ ((eB kb info n j).map bval).length) := Lib.hid (by rw [List.length_map, List.length_map, List.length_take, HOL.out, eB_length]; have := HLT.out; omega)
          have HADD : Hid (IntKind.i64.wrap (((32 * j : Nat) : Int) + ((min (n - 32 * j) 32 : Nat) : Int)) = ((min (32 * (j + 1)) n : Nat) : Int)) := Lib.hid (by have := HLT.out; have := HQ.out; rw [IntKind.wrap_i64]; omega)
          have HCUT : Hid (∀ wx, (Instr.sliceAt 22 (.slice (some ⟨M, 0, none⟩) n n) (some (.int .i64 ((32 * j : Nat) : Int))) none none).run Tryd.prog wx = .ok (.slice (some ⟨M, 32 * j, none⟩) (n - 32 * j) (n - 32 * j)) wx) := Lib.hid (fun wx => cut_tail Tryd.underlying22 Tryd.sizeOf5 M n (32 * j) HLT.out wx)
          have B0 : Ext w w7.drew := (HE7.out).trans (Ext.drew _)
          refine wp_region_held_drew (S := fun w' => Ext w w') (by kernel_rfl) B0 (fun hHeld => ?_)
          refine wpAnyH_take (i := 0) (v := .int .i64 ((32 * j : Nat) : Int)) rfl (by kernel_rfl) (by kernel_rfl) (by kernel_rfl) (fun _ _ _ h => h) (yi_move _ (.int .i64 ((32 * j : Nat) : Int)) (by rfl) rfl rfl) hHeld ?_
          simp only [Act.put, List.getElem_toArray, List.getElem_cons_zero, List.getElem_cons_succ, List.setIfInBounds_toArray, List.set_cons_zero, List.set_cons_succ]
          refine wpAnyH_take (i := 1) (v := .slice (some ⟨M, 0, none⟩) n n) rfl (by kernel_rfl) (by kernel_rfl) (by kernel_rfl) (fun _ _ _ h => h) (yi_move _ (.slice (some ⟨M, 0, none⟩) n n) (by rfl) rfl rfl) hHeld ?_
          simp only [Act.put, List.getElem_toArray, List.getElem_cons_zero, List.getElem_cons_succ, List.setIfInBounds_toArray, List.set_cons_zero, List.set_cons_succ]
          refine wpAnyH_take (i := 2) (v := .int .i64 ((32 * j : Nat) : Int)) rfl (by kernel_rfl) (by kernel_rfl) (by kernel_rfl) (fun _ _ _ h => h) (yi_move _ (.int .i64 ((32 * j : Nat) : Int)) (by rfl) rfl rfl) hHeld ?_
          simp only [Act.put, List.getElem_toArray, List.getElem_cons_zero, List.getElem_cons_succ, List.setIfInBounds_toArray, List.set_cons_zero, List.set_cons_succ]
          refine wpAnyH_take (i := 3) (v := .slice (some ⟨M, 32 * j, none⟩) (n - 32 * j) (n - 32 * j)) rfl (by kernel_rfl) (by kernel_rfl) (by kernel_rfl) (fun _ _ _ h => h) (yi_slice _ _ _ _ (.slice (some ⟨M, 0, none⟩) n n) (.slice (some ⟨M, 32 * j, none⟩) (n - 32 * j) (n - 32 * j)) (some (.int .i64 ((32 * j : Nat) : Int))) none (by rfl) rfl rfl rfl rfl HCUT.out) hHeld ?_
          simp only [Act.put, List.getElem_toArray, List.getElem_cons_zero, List.getElem_cons_succ, List.setIfInBounds_toArray, List.set_cons_zero, List.set_cons_succ]
          refine wpAnyH_take (i := 4) (v := .slice (some ⟨C, 0, none⟩) 32 32) rfl (by kernel_rfl) (by kernel_rfl) (by kernel_rfl) (fun _ _ _ h => h) (yi_slice _ _ _ _ (.pointer (some ⟨C, 0, none⟩)) (.slice (some ⟨C, 0, none⟩) 32 32) none none (by rfl) rfl rfl rfl rfl (fun w => cut_whole Tryd.underlying25 Tryd.sizeOf5 (by omega) _ w)) hHeld ?_
          simp only [Act.put, List.getElem_toArray, List.getElem_cons_zero, List.getElem_cons_succ, List.setIfInBounds_toArray, List.set_cons_zero, List.set_cons_succ]
          refine wpAnyH_ready (rs := [5]) (by kernel_rfl) (by simp) (AllReadyH.cons rfl (fun K hK => ?_) AllReadyH.nil)
          refine step_wp (by rfl) ?_
          refine wp_copy_blk _ _ 22 22 rfl 5 Tryd.underlying22 one_u8 _ _ _ _ _ _ rfl rfl M (32 * j) _ _ (HM.out.below (Ext.drew _)) ((o.take (n - 32 * j)).map bval) HCL.out (fun h => ⟨rfl, row_src HRO.out (o.take (n - 32 * j)) HTK.out HTL2.out (Ext.drew _) h⟩) HFIT.out (bval_one _) ?_
          intro m1 hb1 hg1
          have N1 : Ext w m1 := ext_grown B0 hg1 HMW.out
          rw [show goInt ((o.take (n - 32 * j)).map bval).length = .int .i64 ((min (n - 32 * j) 32 : Nat) : Int) from HGI.out]
          refine hK.out _ _ N1 (fun hHeld => ?_)
          clear hK K
          try simp only [Act.put, List.getElem_toArray, List.getElem_cons_zero, List.getElem_cons_succ, List.setIfInBounds_toArray, List.set_cons_zero, List.set_cons_succ]
          refine wpAnyH_take (i := 6) (v := .int .i64 ((min (32 * (j + 1)) n : Nat) : Int)) rfl (by kernel_rfl) (by kernel_rfl) (by kernel_rfl) (fun _ _ _ h => h) (yi_add .i64 _ _ _ _ _ _ _ HADD.out (by rfl) rfl rfl rfl) hHeld ?_
          simp only [Act.put, List.getElem_toArray, List.getElem_cons_zero, List.getElem_cons_succ, List.setIfInBounds_toArray, List.set_cons_zero, List.set_cons_succ]
          refine wpAnyH_ready (rs := [7]) (by kernel_rfl) (by simp) (AllReadyH.cons rfl (fun K hK => ?_) AllReadyH.nil)
          go_simp
          refine hK.out _ _ N1 (fun hHeld => ?_)
          clear hK K
          try simp only [Act.put, List.getElem_toArray, List.getElem_cons_zero, List.getElem_cons_succ, List.setIfInBounds_toArray, List.set_cons_zero, List.set_cons_succ]
          refine wpAnyH_done (by kernel_rfl) ?_ _
          have hb := hb1
          rw [HO.out, eB_step kb info HLT.out] at hb
          have HM1 := Lib.hid hb
          have HC1 := Lib.hid ((HC.out.below (Ext.drew _)).grown hg1 (fun e => by have h := Option.some.inj e; exact HCM.out h.symm))
          have HKB1 := Lib.hid ((HKB.out.below (Ext.drew _)).grown hg1 (fun e => by have h := Option.some.inj e; exact HKM.out h.symm))
          have HE1 := Lib.hid N1
          clear hb hb1 hg1 N1 B0 HC HM HKB HE7 HRO HTK HTL2 HCL HGI HFIT HADD HCUT
          go_wp2_with fail
          go_roundw
          case rel =>
            refine ⟨j + 1, by have := HLT.out; have := HQ.out; omega, rfl, ?_, ?_, HM1.out, HKB1.out, HE1.out⟩
            · rw [HIJ.out]; congr 1; omega
            · rw [← HO.out]; exact blk_row (n := 32) HC1.out (by rw [List.length_map]; exact HOL.out) (by unfold maxLen; omega)
          case measure => have := HLT.out; simp [intOf]; omega
        · have hmn : min (32 * j) n = n := by omega
          have hlt2 : ¬ ((n : Int) < (n : Int)) := by omega
          have hfin : eB kb info n j = hExpand kb info n := eB_full kb info (by omega)
          rw [hmn]
          have hb := HM.out
          rw [hfin] at hb
          have HB := Lib.hid (blk_row (n := n) hb (by rw [List.length_map, hExpand_length]) (by have := HQ.out; unfold maxLen; omega))
          clear hb hfin HM hmn hlt
          go_wp2_with fail
          go_ret2
          have hq : n ≤ 8160 := HQ.out
          exact ⟨_, by rw [← HN.out, dErr_good hq]; rfl, by rw [← HN.out, dOut_good _ _ hq]; exact HB.out, HE.out⟩

set_option maxRecDepth 100000 in
set_option maxHeartbeats 4000000 in
theorem DKey_num (kb nm : List UInt8) (w : World) (hk : kb.length = 32) (hnl : nm.length ≤ 1099511627000) (hG : GlobR w) (hK : GlobK w) :
    Calls Tryd.prog 15 #[.agg (kb.map bval).toArray, .string ⟨nm.toArray⟩] w fun e w' => e = .returned (.agg ((hExpand kb nm 32).map bval).toArray) ∧ Below w.heap.size w w' := by
  have HG := Lib.hid hG
  have HGK := Lib.hid hK
  have HNL := Lib.hid hnl
  have HBX := Lib.hid (boxes3 w (kb.map bval) ((zB 32).map bval) ((zB 32).map bval) 25 25 25)
  have HIK : Hid ((Tryd.prog.info? 25).map (·.size) = some (kb.map bval).length) := Lib.hid (num_size hk)
  have HKL := Lib.hid hk
  clear hG hK hk hnl
  go_enter Tryd.func15, Tryd.ntmps15
  go_upto_region 2 with (fail)
  change Code.wp _ _ _ _ (((w.alloc (.cells (kb.map bval).toArray 25)).alloc (.cells ((zB 32).map bval).toArray 25)).alloc (.cells ((zB 32).map bval).toArray 25))
  generalize ((w.alloc (.cells (kb.map bval).toArray 25)).alloc (.cells ((zB 32).map bval).toArray 25)).alloc (.cells ((zB 32).map bval).toArray 25) = w2 at *
  obtain ⟨b1, b2, b3, b4⟩ := HBX.out
  obtain ⟨K, hK⟩ : ∃ K, K = w.heap.size := ⟨_, rfl⟩
  obtain ⟨A5, hA5⟩ : ∃ A5, A5 = w.heap.size + 2 := ⟨_, rfl⟩
  obtain ⟨R4, hR4⟩ : ∃ R4, R4 = w.heap.size + 1 := ⟨_, rfl⟩
  have HKW : Hid (w.heap.size ≤ A5) := Lib.hid (by omega)
  have HRW : Hid (w.heap.size ≤ R4) := Lib.hid (by omega)
  have HRA : Hid (R4 ≠ A5) := Lib.hid (by omega)
  try rw [show w.heap.size + 1 + 1 = w.heap.size + 2 from rfl] at b3 ⊢
  rw [← hA5] at b3 ⊢
  rw [← hR4] at b2 ⊢
  rw [← hK] at b1 ⊢
  have HKB := Lib.hid b1
  have HRB := Lib.hid b2
  have HAB := Lib.hid b3
  have HE2 : Hid (Ext w w2) := Lib.hid b4
  clear hK hA5 hR4 b1 b2 b3 b4 HBX
  obtain ⟨a1, c1, m1, hcv1, r1, e1⟩ := run_bytes_row (P := Tryd.prog) w2 9 22 5 nm Tryd.underlying9 Tryd.underlying22 Tryd.underlying5 (by have := HNL.out; unfold maxLen; omega)
  have HR1 := Lib.hid r1
  have HE1 := Lib.hid (HE2.out.trans e1)
  have HRB1 := Lib.hid (HRB.out.below e1)
  have HAB1 := Lib.hid (HAB.out.below e1)
  clear r1 e1
  go_wp2_with (refine wpList_load_blk rfl _ _ rfl K rfl _ _ _ _ HKB.out Tryd.underlying25 HIK.out ?_)
  refine (DExpand_num _ kb nm 32 m1 HKL.out HR1.out HNL.out (by decide) (by decide) (HG.out.ext HE1.out) (HGK.out.ext HE1.out)).mono ?_
  rintro e m2 ⟨x, rfl, hr, hb⟩
  have hx32 : dOut kb nm 32 = hExpand kb nm 32 := dOut_good kb nm (n := 32) (by omega)
  rw [show dErr 32 = 0 from rfl]
  rw [hx32] at hr
  have HE3 := Lib.hid (HE1.out.trans hb)
  have HRB3 := Lib.hid (HRB1.out.below hb)
  have HAB3 := Lib.hid (HAB1.out.below hb)
  obtain ⟨o, ho⟩ : ∃ o, o = hExpand kb nm 32 := ⟨_, rfl⟩
  rw [← ho] at hr
  have HL : Hid (o.length = 32) := Lib.hid (by rw [ho]; exact hExpand_length _ _ _)
  obtain ⟨a2, c2, hx2, _, _, _, _⟩ := id hr
  rw [List.length_map, HL.out] at hx2
  subst hx2
  have HR3 := Lib.hid hr
  have HO := Lib.hid ho
  clear hr ho hb hx32 hcv1 HR1
  have HSI := Lib.hid (row_src HR3.out o (by rw [List.take_length]) (Nat.le_refl _) (Ext.refl m2))
  have HCN : Hid ((o.map bval).length = Nat.min 32 32) := Lib.hid (by rw [List.length_map, HL.out]; rfl)
  have HFT : Hid (0 + (o.map bval).length ≤ ((zB 32).map bval).length) := Lib.hid (by rw [List.length_map, List.length_map, HL.out, zB_length]; omega)
  go_upto_region 4 with (refine wpList_copy_blk rfl _ _ 22 22 rfl 5 Tryd.underlying22 one_u8 _ _ _ _ _ _ rfl rfl A5 0 _ _ HAB3.out (o.map bval) HCN.out (fun h => ⟨rfl, HSI.out h⟩) HFT.out (bval_one _) ?_; intro m3 hb3 hg3)
  have hsp := splice_zeros 32 o
  rw [show List.replicate (32 - o.length) (0 : UInt8) = [] from by rw [HL.out]; rfl, List.append_nil] at hsp
  rw [hsp] at hb3
  have HA := Lib.hid hb3
  have HRB4 := Lib.hid (HRB3.out.grown hg3 (fun e => by have h := Option.some.inj e; exact HRA.out h.symm))
  have HE4 := Lib.hid (ext_grown HE3.out hg3 HKW.out)
  have HIO : Hid ((Tryd.prog.info? 25).map (·.size) = some (o.map bval).length) := Lib.hid (num_size HL.out)
  have HLO : Hid ((o.map bval).length = ((zB 32).map bval).length) := Lib.hid (by rw [List.length_map, List.length_map, HL.out, zB_length])
  clear hsp hb3 hg3
  go_wp2_with (first | (refine wpList_load_blk rfl _ _ rfl A5 rfl _ _ _ _ HA.out Tryd.underlying25 HIO.out ?_) | (refine wpList_store_blk rfl _ _ _ rfl R4 (o.map bval) rfl rfl _ _ HRB4.out HLO.out HIO.out (bval_one _) ?_; intro w12 hb12 hg12))
  refine bodyPost_ret (result_blk rfl _ R4 _ _ _ _ rfl hb12 Tryd.underlying25 HIO.out) rfl ?_
  exact ⟨by rw [HO.out], ext_grown HE4.out hg12 HRW.out⟩

end Go.Proofs.YtcfmobgnlejpeaaDoor

/- The walk of what every law of chapter 8 begins with: alive. Each theorem names its own conditions. -/
namespace Go.Proofs.YtcfmobgnlejpeaaDoor
open Go.RowKit
set_option linter.unusedVariables false
set_option linter.unusedSimpArgs false

theorem key_nought : decide (hExpand (smL 1) [120] 32 = zer) = false := by decide +kernel
set_option maxRecDepth 100000 in
set_option maxHeartbeats 4000000 in
theorem num8_any (z : Int) (w : World) : Calls Tryd.prog 13 #[.int .i64 z] w fun e w' => e = .returned (.int .i64 z) ∧ Below w.heap.size w w' := by
  go_enter Tryd.func13, Tryd.ntmps13
  go_wp2_with fail
  go_ret
  exact ⟨rfl, Ext.refl w⟩

set_option maxRecDepth 100000 in
set_option maxHeartbeats 4000000 in
theorem alive_any8 (w : World) (hG : GlobR w) (hK : GlobK w) : Calls Tryd.prog 9 #[] w fun e w' => e = .returned (.bool true) ∧ Below w.heap.size w w' := by
  have HG := Lib.hid hG
  have HK := Lib.hid hK
  have kb1 := build_one
  have HNZ : Hid (decide (hExpand (smL 1) [120] 32 = zer) = !true) := Lib.hid key_nought
  clear hG hK
  go_enter Tryd.func9, Tryd.ntmps9
  go_wp2_with fail
  refine (DExpand_num _ (smL 1) [] 0 w (smL_length _) (Row1.nil _) (by decide) (by decide) (by decide) HG.out HK.out).mono ?_
  rintro e w1 ⟨x, rfl, hx, hb⟩
  have hx' : Row1 w1 x (([] : List UInt8).map bval) := hx
  obtain ⟨ax, cx, hxv, x1, x2, x3, x4⟩ := id hx'
  have HE1 : Hid (Ext w w1) := Lib.hid hb
  have HX1 := Lib.hid hx'
  obtain ⟨nx, hnx⟩ : ∃ nx, nx = (([] : List UInt8).map bval).length := ⟨_, rfl⟩
  rw [← hnx] at hxv
  subst hxv
  have HNX : Hid (nx = 0) := Lib.hid hnx
  clear hx hx' hb x1 x2 x3 x4 hnx
  rw [show dErr 0 = 0 from rfl]
  go_wp2_with fail
  refine (DKey_num (smL 1) [120] w1 (smL_length _) (by decide) (HG.out.ext HE1.out) (HK.out.ext HE1.out)).mono ?_
  rintro e w4 ⟨rfl, hb⟩
  have HE4 := Lib.hid (HE1.out.trans hb)
  have HX4 := Lib.hid (HX1.out.below hb)
  clear hb
  have HZ := Lib.hid (Blk.made w4 (ints .u8 (List.replicate 32 0)) 25)
  have HEA := Lib.hid (Ext.alloc w4 (.cells (ints .u8 (List.replicate 32 0)).toArray 25))
  have HI3 : Hid ((Tryd.prog.info? 25).map (·.size) = some ((hExpand (smL 1) [120] 32).map bval).length) := Lib.hid (num_size (hExpand_length _ _ _))
  have HLo : Hid (((hExpand (smL 1) [120] 32).map bval).length = (ints .u8 (List.replicate 32 0)).length) := Lib.hid (by rw [List.length_map, hExpand_length, ints_length, List.length_replicate])
  go_upto_region 3 with (refine wpList_store_blk rfl _ _ _ rfl w4.heap.size ((hExpand (smL 1) [120] 32).map bval) rfl rfl _ _ HZ.out HLo.out HI3.out (bval_one _) ?_; intro w7 hb7 hg7)
  have HE7 := Lib.hid (ext_grown HEA.out hg7 (Nat.le_refl _))
  have HE := Lib.hid (HE4.out.trans HE7.out)
  have HX := Lib.hid (HX4.out.below HE7.out)
  have HB3 := Lib.hid hb7
  obtain ⟨B3, hB3⟩ : ∃ B3, B3 = w4.heap.size := ⟨_, rfl⟩
  rw [← hB3] at HB3 ⊢
  clear hb7 hg7 HZ HEA HLo HE7 HE4 HX4 hB3 kb1
  have B0 : Ext w7 w7.drew := Ext.drew _
  refine wp_region_held_drew (S := fun w' => Ext w7 w') (by kernel_rfl) B0 (fun hHeld => ?_)
  refine wpAnyH_take (i := 0) (v := .int .i64 0) rfl (by kernel_rfl) (by kernel_rfl) (by kernel_rfl) (fun _ _ _ h => h) (yi_move _ (.int .i64 0) (by rfl) rfl rfl) hHeld ?_
  simp only [Act.put, List.getElem_toArray, List.getElem_cons_zero, List.getElem_cons_succ, List.setIfInBounds_toArray, List.set_cons_zero, List.set_cons_succ]
  refine wpAnyH_ready (rs := [1]) (by kernel_rfl) (by simp) (AllReadyH.cons rfl (fun K hK => ?_) AllReadyH.nil)
  go_simp
  refine (num8_any (0) _).mono ?_
  rintro e m1 ⟨rfl, b1⟩
  have N1 : Ext w7 m1 := B0.trans b1
  refine hK.out _ _ N1 (fun hHeld => ?_)
  clear hK K
  try simp only [Act.put, List.getElem_toArray, List.getElem_cons_zero, List.getElem_cons_succ, List.setIfInBounds_toArray, List.set_cons_zero, List.set_cons_succ]
  refine wpAnyH_take (i := 2) (v := .bool true) rfl (by kernel_rfl) (by kernel_rfl) (by kernel_rfl) (fun _ _ _ h => h) (yi_eqi .i64 _ _ _ _ _ _ true (decide_eq_true (rfl)) (by rfl) rfl rfl rfl) hHeld ?_
  simp only [Act.put, List.getElem_toArray, List.getElem_cons_zero, List.getElem_cons_succ, List.setIfInBounds_toArray, List.set_cons_zero, List.set_cons_succ]
  refine wpAnyH_take (i := 3) (v := .bool true) rfl (by kernel_rfl) (by kernel_rfl) (by kernel_rfl) (fun _ _ _ h => h) (yi_move _ (.bool true) (by rfl) rfl rfl) hHeld ?_
  simp only [Act.put, List.getElem_toArray, List.getElem_cons_zero, List.getElem_cons_succ, List.setIfInBounds_toArray, List.set_cons_zero, List.set_cons_succ]
  refine wpAnyH_take (i := 4) (v := .slice ax nx cx) rfl (by kernel_rfl) (by kernel_rfl) (by kernel_rfl) (fun _ _ _ h => h) (yi_move _ (.slice ax nx cx) (by rfl) rfl rfl) hHeld ?_
  simp only [Act.put, List.getElem_toArray, List.getElem_cons_zero, List.getElem_cons_succ, List.setIfInBounds_toArray, List.set_cons_zero, List.set_cons_succ]
  refine wpAnyH_take (i := 5) (v := .int .i64 ((nx : Nat) : Int)) rfl (by kernel_rfl) (by kernel_rfl) (by kernel_rfl) (fun _ _ _ h => h) (yi_len _ _ _ _ _ _ Tryd.underlying22 (by rfl) rfl rfl) hHeld ?_
  simp only [Act.put, List.getElem_toArray, List.getElem_cons_zero, List.getElem_cons_succ, List.setIfInBounds_toArray, List.set_cons_zero, List.set_cons_succ]
  refine wpAnyH_take (i := 6) (v := .bool true) rfl (by kernel_rfl) (by kernel_rfl) (by kernel_rfl) (fun _ _ _ h => h) (yi_eqi .i64 _ _ _ _ _ _ true (decide_eq_true (by have := HNX.out; omega)) (by rfl) rfl rfl rfl) hHeld ?_
  simp only [Act.put, List.getElem_toArray, List.getElem_cons_zero, List.getElem_cons_succ, List.setIfInBounds_toArray, List.set_cons_zero, List.set_cons_succ]
  refine wpAnyH_take (i := 7) (v := .bool true) rfl (by kernel_rfl) (by kernel_rfl) (by kernel_rfl) (fun _ _ _ h => h) (yi_pick _ _ _ true _ (by rfl) rfl rfl rfl) hHeld ?_
  simp only [Act.put, List.getElem_toArray, List.getElem_cons_zero, List.getElem_cons_succ, List.setIfInBounds_toArray, List.set_cons_zero, List.set_cons_succ]
  refine wpAnyH_take (i := 8) (v := .bool true) rfl (by kernel_rfl) (by kernel_rfl) (by kernel_rfl) (fun _ _ _ h => h) (yi_move _ (.bool true) (by rfl) rfl rfl) hHeld ?_
  simp only [Act.put, List.getElem_toArray, List.getElem_cons_zero, List.getElem_cons_succ, List.setIfInBounds_toArray, List.set_cons_zero, List.set_cons_succ]
  refine wpAnyH_take (i := 9) (v := .agg ((hExpand (smL 1) [120] 32).map bval).toArray) rfl (by kernel_rfl) (by kernel_rfl) (by kernel_rfl) (fun _ _ _ h => h) (yieldsIf_load_mid (by rfl) _ _ rfl B3 0 rfl _ _ (fun w h => bl_range HB3.out h) Tryd.underlying25 rfl HI3.out) hHeld ?_
  simp only [Act.put, List.getElem_toArray, List.getElem_cons_zero, List.getElem_cons_succ, List.setIfInBounds_toArray, List.set_cons_zero, List.set_cons_succ]
  refine wpAnyH_take (i := 10) (v := .agg ((zer).map bval).toArray) rfl (by kernel_rfl) (by kernel_rfl) (by kernel_rfl) (fun _ _ _ h => h) (yi_build _ _ _ _ build_zer (by rfl) rfl (by simp)) hHeld ?_
  simp only [Act.put, List.getElem_toArray, List.getElem_cons_zero, List.getElem_cons_succ, List.setIfInBounds_toArray, List.set_cons_zero, List.set_cons_succ]
  refine wpAnyH_take (i := 11) (v := .bool true) rfl (by kernel_rfl) (by kernel_rfl) (by kernel_rfl) (fun _ _ _ h => h) (yi_neqB _ _ _ _ _ 32 _ (hExpand (smL 1) [120] 32) zer true (by rfl) rfl HNZ.out Tryd.underlying25 Tryd.underlying5 num_info num_cells num_guard rfl rfl (hExpand_length _ _ _) zer_length) hHeld ?_
  simp only [Act.put, List.getElem_toArray, List.getElem_cons_zero, List.getElem_cons_succ, List.setIfInBounds_toArray, List.set_cons_zero, List.set_cons_succ]
  refine wpAnyH_take (i := 12) (v := .bool true) rfl (by kernel_rfl) (by kernel_rfl) (by kernel_rfl) (fun _ _ _ h => h) (yi_pick _ _ _ true _ (by rfl) rfl rfl rfl) hHeld ?_
  simp only [Act.put, List.getElem_toArray, List.getElem_cons_zero, List.getElem_cons_succ, List.setIfInBounds_toArray, List.set_cons_zero, List.set_cons_succ]
  refine wpAnyH_take (i := 13) (v := .bool true) rfl (by kernel_rfl) (by kernel_rfl) (by kernel_rfl) (fun _ _ _ h => h) (yi_move _ (.bool true) (by rfl) rfl rfl) hHeld ?_
  simp only [Act.put, List.getElem_toArray, List.getElem_cons_zero, List.getElem_cons_succ, List.setIfInBounds_toArray, List.set_cons_zero, List.set_cons_succ]
  refine wpAnyH_take (i := 14) (v := .agg ((hExpand (smL 1) [120] 32).map bval).toArray) rfl (by kernel_rfl) (by kernel_rfl) (by kernel_rfl) (fun _ _ _ h => h) (yieldsIf_load_mid (by rfl) _ _ rfl B3 0 rfl _ _ (fun w h => bl_range HB3.out h) Tryd.underlying25 rfl HI3.out) hHeld ?_
  simp only [Act.put, List.getElem_toArray, List.getElem_cons_zero, List.getElem_cons_succ, List.setIfInBounds_toArray, List.set_cons_zero, List.set_cons_succ]
  refine wpAnyH_take (i := 15) (v := .agg ((smL 1).map bval).toArray) rfl (by kernel_rfl) (by kernel_rfl) (by kernel_rfl) (fun _ _ _ h => h) (yi_build _ _ _ _ build_one (by rfl) rfl (by simp [Act.eval])) hHeld ?_
  simp only [Act.put, List.getElem_toArray, List.getElem_cons_zero, List.getElem_cons_succ, List.setIfInBounds_toArray, List.set_cons_zero, List.set_cons_succ]
  refine wpAnyH_ready (rs := [16]) (by kernel_rfl) (by simp) (AllReadyH.cons rfl (fun K hK => ?_) AllReadyH.nil)
  go_simp
  refine (rKey_any (smL 1) [120] _ (smL_length _) (by decide) (HK.out.ext (HE.out.trans N1))).mono ?_
  rintro e m2 ⟨rfl, b2⟩
  have N2 : Ext w7 m2 := N1.trans b2
  refine hK.out _ _ N2 (fun hHeld => ?_)
  clear hK K
  try simp only [Act.put, List.getElem_toArray, List.getElem_cons_zero, List.getElem_cons_succ, List.setIfInBounds_toArray, List.set_cons_zero, List.set_cons_succ]
  refine wpAnyH_take (i := 17) (v := .bool true) rfl (by kernel_rfl) (by kernel_rfl) (by kernel_rfl) (fun _ _ _ h => h) (yi_eql _ _ _ _ _ 32 _ (hExpand (smL 1) [120] 32) (hExpand (smL 1) [120] 32) true (by rfl) rfl (decide_eq_true (rfl)) Tryd.underlying25 Tryd.underlying5 num_info num_cells num_guard rfl rfl ((hExpand_length _ _ _)) ((hExpand_length _ _ _))) hHeld ?_
  simp only [Act.put, List.getElem_toArray, List.getElem_cons_zero, List.getElem_cons_succ, List.setIfInBounds_toArray, List.set_cons_zero, List.set_cons_succ]
  refine wpAnyH_take (i := 18) (v := .bool true) rfl (by kernel_rfl) (by kernel_rfl) (by kernel_rfl) (fun _ _ _ h => h) (yi_pick _ _ _ true _ (by rfl) rfl rfl rfl) hHeld ?_
  simp only [Act.put, List.getElem_toArray, List.getElem_cons_zero, List.getElem_cons_succ, List.setIfInBounds_toArray, List.set_cons_zero, List.set_cons_succ]
  refine wpAnyH_ready (rs := [19]) (by kernel_rfl) (by simp) (AllReadyH.cons rfl (fun K hK => ?_) AllReadyH.nil)
  go_simp
  refine hK.out _ _ N2 (fun hHeld => ?_)
  clear hK K
  try simp only [Act.put, List.getElem_toArray, List.getElem_cons_zero, List.getElem_cons_succ, List.setIfInBounds_toArray, List.set_cons_zero, List.set_cons_succ]
  refine wpAnyH_done (by kernel_rfl) ?_ _
  go_wp2_with fail
  go_ret
  exact ⟨rfl, HE.out.trans N2⟩
end Go.Proofs.YtcfmobgnlejpeaaDoor

/- The walk of DeriveMost. Each theorem names its own conditions. -/
namespace Go.Proofs.YtcfmobgnlejpeaaDoor
open Go.RowKit
set_option linter.unusedVariables false
set_option linter.unusedSimpArgs false

set_option maxRecDepth 100000 in
set_option maxHeartbeats 8000000 in
theorem deriveMost_any (kb : List UInt8) (n : Int) (w : World) (hk : kb.length = 32) (hn1 : -9223372036854775808 ≤ n) (hn2 : n ≤ 9223372036854775807) (hG : GlobR w) (hK : GlobK w) :
    Calls Tryd.prog 8 #[.agg (kb.map bval).toArray, .int .i64 n] w fun e w' => e = .returned (.bool true) ∧ Below w.heap.size w w' := by
  have HG := Lib.hid hG
  have HK := Lib.hid hK
  have HKL := Lib.hid hk
  have HIK : Hid ((Tryd.prog.info? 25).map (·.size) = some (kb.map bval).length) := Lib.hid (num_size hk)
  have HKB0 := Lib.hid (Blk.made w (kb.map bval) 25)
  have HE0 := Lib.hid (Ext.alloc w (.cells (kb.map bval).toArray 25))
  have kc := fun (w : World) (C : Array Value) (n c : Nat) => Lib.run_convert_bytes_const (P := Tryd.prog) w 22 5 C n c Tryd.underlying22 Tryd.underlying5
  clear hG hK hk
  go_enter Tryd.func8, Tryd.ntmps8
  go_upto_region 1 with (fail)
  change Code.wp _ _ _ _ (w.alloc (.cells (kb.map bval).toArray 25))
  generalize w.alloc (.cells (kb.map bval).toArray 25) = wb at *
  obtain ⟨K, hK⟩ : ∃ K, K = w.heap.size := ⟨_, rfl⟩
  rw [← hK] at HKB0 ⊢
  have HEB := Lib.hid HE0.out
  have HKB := Lib.hid HKB0.out
  clear hK HKB0 HE0
  go_wp2_with fail
  refine (alive_any8 wb (HG.out.ext HEB.out) (HK.out.ext HEB.out)).mono ?_
  rintro e w1 ⟨rfl, hb⟩
  have HE : Hid (Ext w w1) := Lib.hid (HEB.out.trans hb)
  have HKB1 := Lib.hid (HKB.out.below hb)
  clear hb HKB HEB
  by_cases c1 : n < -1
  · go_wp2_with fail
    go_ret
    exact ⟨rfl, HE.out⟩
  by_cases c2 : 1000 < n
  · have d1 : decide (n < -1) = false := decide_eq_false c1
    go_wp2_with fail
    go_ret
    exact ⟨rfl, HE.out⟩
  have d1 : decide (n < -1) = false := decide_eq_false c1
  have d2 : decide (1000 < n) = false := decide_eq_false c2
  obtain ⟨q, hq⟩ : ∃ q : Nat, 8160 + n = (q : Int) := ⟨(8160 + n).toNat, by omega⟩
  have HEA := Lib.hid (Ext.alloc w1 (.cells (([120] : List UInt8).map bval).toArray 5 (1, 2)))
  have HR1 : Hid (Row1 (w1.alloc (.cells (([120] : List UInt8).map bval).toArray 5 (1, 2))) (.slice (some ⟨w1.heap.size, 0, none⟩) 1 1) (([120] : List UInt8).map bval)) := Lib.hid (Row1.made_mark w1 _ _ _ _ _ _ rfl rfl rfl (by unfold maxLen; omega))
  go_wp2_with (refine wpList_load_blk rfl _ _ rfl K rfl _ _ _ _ HKB1.out Tryd.underlying25 HIK.out ?_)
  refine (DExpand_num _ kb [120] (q : Int) _ HKL.out HR1.out (by decide) (by omega) (by omega) (HG.out.ext (HE.out.trans HEA.out)) (HK.out.ext (HE.out.trans HEA.out))).mono ?_
  rintro e w4 ⟨x, rfl, hx, hb⟩
  have HE := Lib.hid ((HE.out.trans HEA.out).trans hb)
  clear hb HR1 HEA kc HKB1
  by_cases c3 : 0 < n
  · have hbad : dBad (q : Int) := Or.inr (by omega)
    rw [dErr_bad hbad]
    rw [dOut_bad _ _ hbad] at hx
    obtain ⟨ax, cx, hxv, x1, x2, x3, x4⟩ := id hx
    rw [show (([] : List UInt8).map bval).length = 0 from rfl] at hxv
    subst hxv
    have d3 : decide (0 < n) = true := decide_eq_true c3
    clear hx x1 x2 x3 x4
    go_wp2_with fail
    refine (num8_any 1 _).mono ?_
    rintro e w5 ⟨rfl, hb⟩
    have HE := Lib.hid (HE.out.trans hb)
    clear hb
    go_wp2_with fail
    go_ret
    exact ⟨rfl, HE.out⟩
  · have hg : q ≤ 8160 := by omega
    rw [dErr_good hg]
    rw [dOut_good _ _ hg] at hx
    obtain ⟨ax, cx, hxv, x1, x2, x3, x4⟩ := id hx
    rw [List.length_map, hExpand_length] at hxv
    subst hxv
    have d3 : decide (0 < n) = false := decide_eq_false c3
    clear hx x1 x2 x3 x4
    go_wp2_with fail
    refine (num8_any 0 _).mono ?_
    rintro e w5 ⟨rfl, hb⟩
    have HE := Lib.hid (HE.out.trans hb)
    clear hb
    go_wp2_with fail
    go_ret
    exact ⟨rfl, HE.out⟩

end Go.Proofs.YtcfmobgnlejpeaaDoor
