/- The walk of the document's own way out: the bytes of a number from 0 to p - 1. Each theorem names its own conditions. -/
import Derived.Test.YtdjdalaghfknoaaRefOut
namespace Go.Proofs.Ytdjdalaghfknoaa
open Go.RowKit
set_option linter.unusedVariables false

/-- How great the number may be still, when k rounds are done. -/
def bndK (k : Nat) : Int := if k = 0 then bigM else if k = 1 then pP + 38 else pP
/-- What holds when k rounds are done. -/
structure OutR (x : Int) (zs : List Int) (k : Nat) : Prop where
  len : zs.length = 16
  dig : ∀ i, i < 16 → 0 ≤ zs.getD i 0 ∧ zs.getD i 0 ≤ 65535
  val : ∃ q, dV zs = x + pP * q
  bnd : 0 ≤ dV zs ∧ dV zs < bndK k

theorem OutR.keep {x : Int} {zs : List Int} {k : Nat} (h : OutR x zs k) (hk : k < 3) (hp : ¬ pP ≤ dV zs) : OutR x zs (k + 1) := by
  obtain ⟨h1, h2, h3, h4, h5⟩ := h
  refine ⟨h1, h2, h3, h4, ?_⟩
  have hp0 : (0 : Int) < pP := by decide +kernel
  unfold bndK
  rw [if_neg (by omega)]
  split <;> omega
theorem OutR.less {x : Int} {zs ms : List Int} {k : Nat} (h : OutR x zs k) (hk : k < 3) (hm : ms.length = 16) (hd : ∀ i, i < 16 → 0 ≤ ms.getD i 0 ∧ ms.getD i 0 ≤ 65535) (hv : dV ms = dV zs - pP) (hp : pP ≤ dV zs) : OutR x ms (k + 1) := by
  obtain ⟨h1, h2, ⟨q, h3⟩, h4, h5⟩ := h
  refine ⟨hm, hd, ⟨q - 1, by rw [hv, h3]; grind⟩, by omega, ?_⟩
  have hM := bigM_p
  have hp0 : (0 : Int) < pP := by decide +kernel
  unfold bndK at *
  rw [if_neg (by omega)]
  have hp38 : (38 : Int) < pP := by decide +kernel
  generalize pP = p at *
  generalize bigM = M at *
  rcases (by omega : k = 0 ∨ k = 1 ∨ k = 2) with rfl | rfl | rfl
  · simp at *
    omega
  · simp at *
    omega
  · simp at *
    omega

theorem OutR.start {x qa : Int} {xs z1 z2 z3 z4 : List Int} (hv : dV xs = x + pP * qa) (h1 : CZ xs z1 131072) (h2 : CZ z1 z2 131072) (h3 : CZ z2 z3 131072) (h4 : CZ z3 z4 131072) : OutR x z4 0 := by
  obtain ⟨_, q1, e1⟩ := h1.el (by omega)
  obtain ⟨_, q2, e2⟩ := h2.el (by omega)
  have n1 := h1.near (by omega)
  have r2 := h2.second (E := 1152921504606846976) (by omega) (by have := n1.1; omega) (by have := n1.2; omega)
  obtain ⟨e3, _⟩ := h3.tidy r2.1 r2.2
  obtain ⟨e4, d4⟩ := h4.tidy (by rw [e3]; exact r2.1) (by rw [e3]; exact r2.2)
  refine ⟨h4.len, d4, ⟨qa + q1 + q2, ?_⟩, ?_⟩
  · rw [e4, e3, e2, e1, hv]
    grind
  · rw [e4, e3]
    exact r2


/-- The bytes, when those of k digits are laid. -/
structure OutB (zs bs : List Int) (k : Nat) : Prop where
  len : bs.length = 32
  low : ∀ j, j < k → bs.getD (2 * j) 0 = zs.getD j 0 % 256 ∧ bs.getD (2 * j + 1) 0 = zs.getD j 0 / 256 % 256
theorem OutB.step {zs bs : List Int} {k : Nat} (h : OutB zs bs k) (hk : k < 16) : OutB zs ((bs.set (2 * k) (bits .and .i64 (zs.getD k 0) 255 % 256)).set (2 * k + 1) (bits .and .i64 (zs.getD k 0 / 256) 255 % 256)) (k + 1) := by
  obtain ⟨h1, h2⟩ := h
  refine ⟨by simp [h1], fun j hj => ?_⟩
  rw [and8, and8, Int.emod_emod, Int.emod_emod]
  by_cases e : j = k
  · subst e
    rw [getD_set_far (by omega), getD_set_same (by omega), getD_set_same (by simp; omega)]
    exact ⟨rfl, rfl⟩
  · rw [getD_set_far (by omega), getD_set_far (by omega), getD_set_far (by omega), getD_set_far (by omega)]
    exact h2 j (by omega)
theorem OutB.done {x : Int} {zs bs : List Int} (h : OutB zs bs 16) (hr : OutR x zs 3) : ints .u8 bs = (bytesN 32 (x % pP).toNat).map bval := by
  obtain ⟨h1, h2⟩ := h
  have hb : ∀ i, i < 32 → 0 ≤ bs.getD i 0 ∧ bs.getD i 0 ≤ 255 := fun i hi => by
    have := h2 (i / 2) (by omega)
    rcases (by omega : i = 2 * (i / 2) ∨ i = 2 * (i / 2) + 1) with e | e
    · rw [e, this.1]
      omega
    · rw [e, this.2]
      omega
  have hg : ∀ i, i < 32 → ((bs.map fun z => UInt8.ofNat z.toNat).getD i 0).toNat = (bs.getD i 0).toNat := fun i hi => by
    have := hb i hi
    have e : (bs.map fun z => UInt8.ofNat z.toNat).getD i 0 = UInt8.ofNat (bs.getD i 0).toNat := by simp [List.getD, show i < bs.length from by omega]
    rw [e, UInt8.toNat_ofNat']
    omega
  have hv : dV zs = leN (bs.map fun z => UInt8.ofNat z.toNat) := dV_pairs zs _ hr.len (by simp [h1]) (fun i hi => by
    unfold pairAt
    rw [hg _ (by omega), hg _ (by omega), (h2 i hi).1, (h2 i hi).2]
    have := hr.dig i hi
    omega)
  have hx : x % pP = dV zs := by
    obtain ⟨q, hq⟩ := hr.val
    have hb := hr.bnd
    have : bndK 3 = pP := rfl
    rw [this] at hb
    have e : x = dV zs + pP * (-q) := by rw [hq]; grind
    rw [e, Int.add_mul_emod_self_left]
    exact Int.emod_eq_of_lt hb.1 hb.2
  rw [hx, hv, Int.toNat_natCast]
  have := bytesN_leN (bs.map fun z => UInt8.ofNat z.toNat)
  rw [List.length_map, h1] at this
  rw [this, List.map_map]
  unfold ints
  refine List.map_congr_left (fun z hz => ?_)
  have hz2 := (all_of_getD (P := fun z => 0 ≤ z ∧ z ≤ 255) h1 hb) z hz
  simp only [Function.comp, bval]
  congr 1
  rw [UInt8.toNat_ofNat']
  omega

set_option maxRecDepth 100000 in
set_option maxHeartbeats 4000000 in
theorem rout_any (v : Value) (x : Int) (w : World) (hv : IsEl v x) :
    Calls Try.prog 31 #[v] w fun e w' => e = .returned (.agg ((bytesN 32 (x % pP).toNat).map bval).toArray) ∧ Below w.heap.size w w' := by
  obtain ⟨xs, rfl, la, ba, qa, va⟩ := hv
  have LA := Lib.hid la
  have VA := Lib.hid va
  have HBX := Lib.hid (boxes2 w (ints .i64 xs) (ints .u8 (List.replicate 32 0)) 48 23)
  have hi0 : Hid ((Try.prog.info? 48).map (·.size) = some (ints .i64 xs).length) := Lib.hid (by rw [ints_length, la]; exact Try.arr48)
  have HC := Lib.hid (carry_any xs 131072 ((w.alloc (.cells (ints .i64 xs).toArray 48)).alloc (.cells (ints .u8 (List.replicate 32 0)).toArray 23)) la ba (by omega) (by omega))
  have BA := Lib.hid ba
  clear la ba va
  go_enter Try.func31, Try.ntmps31
  go_wp2_with (refine wpList_load_blk rfl _ _ rfl w.heap.size rfl _ _ _ _ HBX.out.1 Try.underlying48 hi0.out ?_)
  change Calls _ _ _ ((w.alloc (.cells (ints .i64 xs).toArray 48)).alloc (.cells (ints .u8 (List.replicate 32 0)).toArray 23)) _
  generalize (w.alloc (.cells (ints .i64 xs).toArray 48)).alloc (.cells (ints .u8 (List.replicate 32 0)).toArray 23) = w0 at *
  obtain ⟨h1, h2, h3⟩ := HBX.out
  obtain ⟨A, hA⟩ : ∃ A, A = w.heap.size := ⟨_, rfl⟩
  rw [← hA] at h1 h2 ⊢
  have hA2 : w.heap.size ≤ A := by omega
  have H1 := Lib.hid h1
  have H2 := Lib.hid h2
  have H3 := Lib.hid h3
  clear h1 h2 h3 HBX hA
  refine HC.out.mono ?_
  rintro e w1 ⟨z1, rfl, hz1, hb1⟩
  have HC1 := Lib.hid (carry_any z1 131072 w1 hz1.len (hz1.el (by omega)).1 (by omega) (by omega))
  have HZ1 := Lib.hid hz1
  have HB1 := Lib.hid hb1
  clear hz1 hb1
  go_wp2_with fail
  refine HC1.out.mono ?_
  rintro e w2 ⟨z2, rfl, hz2, hb2⟩
  have HC2 := Lib.hid (carry_any z2 131072 w2 hz2.len (hz2.el (by omega)).1 (by omega) (by omega))
  have HZ2 := Lib.hid hz2
  have HB2 := Lib.hid (HB1.out.trans (hb2.mono HB1.out.size))
  clear hz2 hb2
  go_wp2_with fail
  refine HC2.out.mono ?_
  rintro e w3 ⟨z3, rfl, hz3, hb3⟩
  have HC3 := Lib.hid (carry_any z3 131072 w3 hz3.len (hz3.el (by omega)).1 (by omega) (by omega))
  have HZ3 := Lib.hid hz3
  have HB3 := Lib.hid (HB2.out.trans (hb3.mono HB2.out.size))
  clear hz3 hb3
  go_wp2_with fail
  refine HC3.out.mono ?_
  rintro e w4 ⟨z4, rfl, hz4, hb4⟩
  have hbB := HB3.out.trans (hb4.mono HB3.out.size)
  have hOR := OutR.start VA.out HZ1.out HZ2.out HZ3.out hz4
  have H14 := Lib.hid (H1.out.same (hbB.block _ H1.out.lt))
  have H24 := Lib.hid (H2.out.same (hbB.block _ H2.out.lt))
  have H34 := Lib.hid (H3.out.trans (hbB.mono H3.out.size))
  have hi4 : Hid ((Try.prog.info? 48).map (·.size) = some (ints .i64 z4).length) := Lib.hid (by rw [ints_length, hz4.len]; exact Try.arr48)
  have hl4 : Hid ((ints .i64 z4).length = (ints .i64 xs).length) := Lib.hid (by rw [ints_length, ints_length, hz4.len, LA.out])
  have HOR := Lib.hid hOR
  clear hz4 hb4 hbB hOR
  go_wp2_with (refine wpList_store_blk rfl _ _ _ rfl A _ rfl rfl _ _ H14.out hl4.out hi4.out (ints_one _ _) ?_; intro w5 hb5 hg5)
  have H15 := Lib.hid hb5
  have H25 := Lib.hid (H24.out.grown hg5 (by simp))
  have H35 := Lib.hid (H34.out.grown hg5 H34.out.size (fun r hr => by cases hr; omega))
  clear hb5 hg5
  go_loopw [3] (fun i wr => ∃ (k : Nat) (zs : List Int), k ≤ 3 ∧ i = .int .i64 k ∧ OutR x zs k ∧ Blk wr A (ints .i64 zs) 48 ∧ Blk wr (A + 1) (ints .u8 (List.replicate 32 0)) 23 ∧ Below w.heap.size w wr) (fun i _ => 3 - (intOf i).toNat)
  case atStart => exact ⟨0, z4, by omega, rfl, HOR.out, H15.out, H25.out, H35.out⟩
  case round =>
    clear H1 H2 H3 HC HB1 HB2 HB3 HZ1 HZ2 HZ3 H14 H24 H34 H15 H25 H35 HC1 HC2 HC3 hi4 hl4 HOR hi0 VA LA BA
    obtain ⟨k, zs, hk, rfl, hor, hb1, hb2, hbel⟩ := hrel
    have i0' : (0 : Int) ≤ (k : Int) := Int.natCast_nonneg _
    by_cases hlt : k < 3
    · have i1 : (k : Int) < 3 := by omega
      obtain ⟨M, hM⟩ : ∃ M, M = wr.heap.size := ⟨_, rfl⟩
      have hMA : A + 1 < M := by have := hb2.lt; omega
      have hmk := Blk.made wr (ints .i64 ((List.replicate 16 0).set 0 (zs.getD 0 0 - 65517))) 48
      rw [← hM] at hmk
      have e0 : (wr.alloc (.cells #[.int .i64 0, .int .i64 0, .int .i64 0, .int .i64 0, .int .i64 0, .int .i64 0, .int .i64 0, .int .i64 0, .int .i64 0, .int .i64 0, .int .i64 0, .int .i64 0, .int .i64 0, .int .i64 0, .int .i64 0, .int .i64 0] 48)).cell? ⟨A, 0, none⟩ = some (.int .i64 (zs.getD 0 0)) := by
        have := (hb1.alloc (.cells (ints .i64 (List.replicate 16 0)).toArray 48)).cell 0
        rw [ints_get (by have := hor.len; omega)] at this
        exact this
      have d0 := hor.dig 0 (by omega)
      have hst := SubP.start (m := List.replicate 16 0) rfl hor.len d0
      have H1 := Lib.hid (hb1.alloc (.cells (ints .i64 ((List.replicate 16 0).set 0 (zs.getD 0 0 - 65517))).toArray 48))
      have H2 := Lib.hid (hb2.alloc (.cells (ints .i64 ((List.replicate 16 0).set 0 (zs.getD 0 0 - 65517))).toArray 48))
      have H3 := Lib.hid (hbel.alloc hbel.size (.cells (ints .i64 ((List.replicate 16 0).set 0 (zs.getD 0 0 - 65517))).toArray 48))
      have H4 := Lib.hid hmk
      have HST := Lib.hid hst
      have HOR := Lib.hid hor
      generalize zs.getD 0 0 = a0 at *
      clear hb1 hb2 hbel hmk hst hor
      go_wp2_with fail
      rw [← hM]
      change Code.wp _ _ _ _ (wr.alloc (.cells (ints .i64 ((List.replicate 16 0).set 0 (a0 - 65517))).toArray 48))
      generalize wr.alloc (.cells (ints .i64 ((List.replicate 16 0).set 0 (a0 - 65517))).toArray 48) = w6 at *
      clear hM e0 d0
      obtain ⟨wo, rfl⟩ : ∃ wo : World, wo = wr := ⟨_, rfl⟩
      go_loopw [5] (fun i wr => ∃ (j : Nat) (ms : List Int), j ≤ 14 ∧ i = .int .i64 ((j + 1 : Nat) : Int) ∧ SubP zs ms j ∧ Blk wr A (ints .i64 zs) 48 ∧ Blk wr (A + 1) (ints .u8 (List.replicate 32 0)) 23 ∧ Blk wr M (ints .i64 ms) 48 ∧ Below w.heap.size w wr) (fun i _ => 16 - (intOf i).toNat)
      case atStart => exact ⟨0, _, by omega, rfl, HST.out, H1.out, H2.out, H4.out, H3.out⟩
      case round =>
        clear H1 H2 H3 H4 HST
        obtain ⟨j, ms, hj, rfl, hsp, hb1, hb2, hbm, hbel⟩ := hrel
        have hz16 := HOR.out.len
        have hm16 := hsp.len
        have j0' : (0 : Int) ≤ (j : Int) := Int.natCast_nonneg _
        by_cases hlt2 : j < 14
        · have e1 := hb1.cell (j + 1)
          rw [ints_get (by omega)] at e1
          have e2 := hbm.cell j
          rw [ints_get (by omega)] at e2
          have e3 := hbm.cell (j + 1)
          rw [ints_get (by omega)] at e3
          have f2 := hbm.free j
          have f3 := hbm.free (j + 1)
          have d1 := HOR.out.dig (j + 1) (by omega)
          have hpL : pL.getD (j + 1) 0 = 65535 := by
            have : ∀ j, j < 14 → pL.getD (j + 1) 0 = 65535 := by decide +kernel
            exact this j hlt2
          have hst := hsp.step (by omega) hz16 d1 hpL (by omega) (by omega)
          have ht := hsp.top
          generalize zs.getD (j + 1) 0 = a at *
          generalize ms.getD j 0 = m at *
          obtain ⟨d11, d12⟩ := d1
          obtain ⟨ht1, ht2⟩ := ht
          have s1 : IntKind.i64.wrap ((j : Int) + 1 - 1) = (j : Int) := IntWalk.i64_in _ (by omega) |>.trans (by omega)
          have s2 : ((j : Int) + 1 - 1) = (j : Int) := by omega
          have s3 : ((j : Int) + 1).toNat = j + 1 := by omega
          have s4 : (0 : Int) ≤ (j : Int) + 1 := by omega
          have s5 : (j : Int) + 1 < 16 := by omega
          have s6 : (j : Int) < 16 := by omega
          have hb01 : bits .and .i64 (m / 65536) 1 = -(m / 65536) := and1 (by omega)
          have W1 : Hid (wrap64 (a - 65535 - bits .and .i64 (m / 65536) 1) = a - 65535 - bits .and .i64 (m / 65536) 1) := Lib.hid (by rw [← IntWalk.i64_left]; exact IntWalk.i64_in _ (by rw [hb01]; omega))
          have HST := Lib.hid hst
          have H1 := Lib.hid hb1
          have H2 := Lib.hid hb2
          have H3 := Lib.hid hbel
          have H4 := Lib.hid hbm
          clear hb1 hb2 hbel hbm hst hsp hpL hz16 hm16 hb01
          go_wp2_with fail
          go_region
          go_wp2_with fail
          go_roundw
          case rel =>
            rw [W1.out]
            refine ⟨j + 1, _, by omega, by go_num, HST.out, (H1.out.far (by simp; omega) _).far (by simp; omega) _, (H2.out.far (by simp; omega) _).far (by simp; omega) _, ?_, ((H3.out.setCell (by simp; omega) _).setCell (by simp; omega) _).drew⟩
            rw [← ints_set, ← ints_set]
            exact (H4.out.set (j + 1) _).set j _
          case measure => simp [intOf]; omega
        · have hj' : j = 14 := by omega
          subst hj'
          have e1 := hb1.cell 15
          rw [ints_get (by omega)] at e1
          have e2 := hbm.cell 14
          rw [ints_get (by omega)] at e2
          have e3 := hbm.cell 15
          rw [ints_get (by omega)] at e3
          have f2 := hbm.free 14
          have f3 := hbm.free 15
          have d1 := HOR.out.dig 15 (by omega)
          have hst := hsp.step (by omega) hz16 d1 (P := 32767) rfl (by omega) (by omega)
          have ht := hsp.top
          generalize zs.getD 15 0 = a at *
          generalize ms.getD 14 0 = m at *
          obtain ⟨d11, d12⟩ := d1
          obtain ⟨ht1, ht2⟩ := ht
          have hb01 : bits .and .i64 (m / 65536) 1 = -(m / 65536) := and1 (by omega)
          have b0 : 0 ≤ bits .and .i64 (m / 65536) 1 := by rw [hb01]; omega
          have b1 : bits .and .i64 (m / 65536) 1 ≤ 1 := by rw [hb01]; omega
          have hdone := hst.done hz16
          have hlen := hst.len
          have h15 : ((ms.set 15 (a - 32767 - bits .and .i64 (m / 65536) 1)).set 14 (bits .and .i64 m 65535)).getD 15 0 = a - 32767 - bits .and .i64 (m / 65536) 1 := by
            rw [getD_set_far (by omega), getD_set_same (by omega)]
          simp only [Nat.reduceAdd] at hdone hlen
          rw [h15] at hdone
          obtain ⟨v1, v2, v3⟩ := hdone
          have H1 := Lib.hid hb1
          have H2 := Lib.hid hb2
          have H3 := Lib.hid hbel
          have H4 := Lib.hid hbm
          have V1 := Lib.hid v1
          have V2 := Lib.hid v2
          have V3 := Lib.hid v3
          have HLEN := Lib.hid hlen
          have Z16 := Lib.hid hz16
          clear hb1 hb2 hbel hbm hst hsp hz16 hm16 hb01 h15 v1 v2 v3 hlen
          have HM2 : Hid (Blk ((wr.setCell ⟨M, 15, none⟩ (.int .i64 (a - 32767 - bits .and .i64 (m / 65536) 1))).setCell ⟨M, 14, none⟩ (.int .i64 (bits .and .i64 m 65535))) M (ints .i64 ((ms.set 15 (a - 32767 - bits .and .i64 (m / 65536) 1)).set 14 (bits .and .i64 m 65535))) 48) := Lib.hid (by
            rw [← ints_set, ← ints_set]
            exact (H4.out.set 15 _).set 14 _)
          have HA2 := Lib.hid ((H1.out.far (a := ⟨M, 15, none⟩) (by simp; omega) (.int .i64 (a - 32767 - bits .and .i64 (m / 65536) 1))).far (a := ⟨M, 14, none⟩) (by simp; omega) (.int .i64 (bits .and .i64 m 65535)))
          have HN2 := Lib.hid ((H2.out.far (a := ⟨M, 15, none⟩) (by simp; omega) (.int .i64 (a - 32767 - bits .and .i64 (m / 65536) 1))).far (a := ⟨M, 14, none⟩) (by simp; omega) (.int .i64 (bits .and .i64 m 65535)))
          have HBE2 : Hid (Below w.heap.size w ((wr.setCell ⟨M, 15, none⟩ (.int .i64 (a - 32767 - bits .and .i64 (m / 65536) 1))).setCell ⟨M, 14, none⟩ (.int .i64 (bits .and .i64 m 65535)))) := Lib.hid ((H3.out.setCell (by simp; omega) _).setCell (by simp; omega) _)
          have hiN : Hid ((Try.prog.info? 48).map (·.size) = some (ints .i64 ((ms.set 15 (a - 32767 - bits .and .i64 (m / 65536) 1)).set 14 (bits .and .i64 m 65535))).length) := Lib.hid (by rw [ints_length, HLEN.out]; exact Try.arr48)
          have hlN : Hid ((ints .i64 ((ms.set 15 (a - 32767 - bits .and .i64 (m / 65536) 1)).set 14 (bits .and .i64 m 65535))).length = (ints .i64 zs).length) := Lib.hid (by rw [ints_length, ints_length, HLEN.out, Z16.out])
          by_cases hge : 0 ≤ a - 32767 - bits .and .i64 (m / 65536) 1
          · have hge2 : bits .and .i64 (m / 65536) 1 ≤ a - 32767 := by omega
            go_wp2_with (first | (refine wpList_load_blk rfl _ _ rfl M rfl _ _ _ _ HM2.out Try.underlying48 hiN.out ?_) | (refine wpList_store_blk rfl _ _ _ rfl A _ rfl rfl _ _ HA2.out hlN.out hiN.out (ints_one _ _) ?_; intro w7 hb7 hg7))
            go_roundw
            case rel => exact ⟨k + 1, _, by omega, by go_num, HOR.out.less hlt HLEN.out (V3.out hge) V1.out (V2.out.1 hge), hb7, HN2.out.grown hg7 (by simp), HBE2.out.grown hg7 HBE2.out.size (fun r hr => by cases hr; omega)⟩
            case measure => simp [intOf]; omega
          · have hlt3 : a - 32767 - bits .and .i64 (m / 65536) 1 < 0 := by omega
            go_wp2_with fail
            go_roundw
            case rel => exact ⟨k + 1, zs, by omega, by go_num, HOR.out.keep hlt (fun h => hge (V2.out.2 h)), HA2.out, HN2.out, HBE2.out⟩
            case measure => simp [intOf]; omega
    · have hk' : k = 3 := by omega
      subst hk'
      obtain ⟨N, hN⟩ : ∃ N, N = wr.heap.size := ⟨_, rfl⟩
      have hNA : A + 1 < N := by have := hb2.lt; omega
      have hmk := Blk.made wr (ints .u8 (List.replicate 32 0)) 23
      rw [← hN] at hmk
      have H1 := Lib.hid (hb1.alloc (.cells (ints .u8 (List.replicate 32 0)).toArray 23))
      have H2 := Lib.hid (hb2.alloc (.cells (ints .u8 (List.replicate 32 0)).toArray 23))
      have H3 := Lib.hid (hbel.alloc hbel.size (.cells (ints .u8 (List.replicate 32 0)).toArray 23))
      have H4 := Lib.hid hmk
      have HOR := Lib.hid hor
      clear hb1 hb2 hbel hmk hor
      go_wp2_with fail
      rw [← hN]
      change Code.wp _ _ _ _ (wr.alloc (.cells (ints .u8 (List.replicate 32 0)).toArray 23))
      generalize wr.alloc (.cells (ints .u8 (List.replicate 32 0)).toArray 23) = w6 at *
      clear hN
      obtain ⟨wo, rfl⟩ : ∃ wo : World, wo = wr := ⟨_, rfl⟩
      go_loopw [7] (fun i wr => ∃ (j : Nat) (bs : List Int), j ≤ 16 ∧ i = .int .i64 j ∧ OutB zs bs j ∧ Blk wr A (ints .i64 zs) 48 ∧ Blk wr (A + 1) (ints .u8 (List.replicate 32 0)) 23 ∧ Blk wr N (ints .u8 bs) 23 ∧ Below w.heap.size w wr) (fun i _ => 16 - (intOf i).toNat)
      case atStart => exact ⟨0, _, by omega, rfl, ⟨rfl, fun j hj => by omega⟩, H1.out, H2.out, H4.out, H3.out⟩
      case round =>
        clear H1 H2 H3 H4
        obtain ⟨j, bs, hj, rfl, hob, hb1, hb2, hbn, hbel⟩ := hrel
        have hz16 := HOR.out.len
        have hb32 := hob.len
        have j0' : (0 : Int) ≤ (j : Int) := Int.natCast_nonneg _
        by_cases hlt2 : j < 16
        · have e1 := hb1.cell j
          rw [ints_get (by omega)] at e1
          have e2 := hbn.cell (2 * j)
          rw [ints_get (by omega)] at e2
          have e3 := hbn.cell (2 * j + 1)
          rw [ints_get (by omega)] at e3
          have f2 := hbn.free (2 * j)
          have f3 := hbn.free (2 * j + 1)
          have j1 : (j : Int) < 16 := by omega
          have s3 : (2 * (j : Int)).toNat = 2 * j := by omega
          have s4 : (2 * (j : Int) + 1).toNat = 2 * j + 1 := by omega
          have s5 : (0 : Int) ≤ 2 * (j : Int) := by omega
          have s6 : (0 : Int) ≤ 2 * (j : Int) + 1 := by omega
          have s7 : 2 * (j : Int) < 32 := by omega
          have s8 : 2 * (j : Int) + 1 < 32 := by omega
          have hst := hob.step hlt2
          generalize zs.getD j 0 = a at *
          have HST := Lib.hid hst
          have H1 := Lib.hid hb1
          have H2 := Lib.hid hb2
          have H3 := Lib.hid hbel
          have H4 := Lib.hid hbn
          clear hb1 hb2 hbel hbn hst hob hz16 hb32
          go_wp2_with fail
          go_roundw
          case rel =>
            refine ⟨j + 1, _, by omega, by go_num, HST.out, (H1.out.far (by simp; omega) _).far (by simp; omega) _, (H2.out.far (by simp; omega) _).far (by simp; omega) _, ?_, (H3.out.setCell (by simp; omega) _).setCell (by simp; omega) _⟩
            rw [← ints_set, ← ints_set]
            exact (H4.out.set (2 * j) _).set (2 * j + 1) _
          case measure => simp [intOf]; omega
        · have hj' : j = 16 := by omega
          subst hj'
          have hfin := hob.done HOR.out
          have hi1 : Hid ((Try.prog.info? 23).map (·.size) = some (ints .u8 bs).length) := Lib.hid (by rw [ints_length, hb32]; exact Try.arr23)
          have hl1 : Hid ((ints .u8 bs).length = (ints .u8 (List.replicate 32 0)).length) := Lib.hid (by rw [ints_length, ints_length, hb32]; rfl)
          have H2 := Lib.hid hb2
          have H3 := Lib.hid hbel
          have H4 := Lib.hid hbn
          have HF := Lib.hid hfin
          clear hb1 hb2 hbel hbn hob hz16 hb32 hfin
          go_wp2_with (first | (refine wpList_load_blk rfl _ _ rfl N rfl _ _ _ _ H4.out Try.underlying23 hi1.out ?_) | (refine wpList_store_blk rfl _ _ _ rfl (A + 1) _ rfl rfl _ _ H2.out hl1.out hi1.out (ints_one _ _) ?_; intro w7 hb7 hg7))
          exact bodyPost_ret (v := .agg (ints .u8 bs).toArray) (result_blk (by rfl) _ (A + 1) _ _ _ _ (by rfl) hb7 Try.underlying23 hi1.out) rfl ⟨by rw [HF.out], H3.out.grown hg7 H3.out.size (fun r hr => by cases hr; omega)⟩

end Go.Proofs.Ytdjdalaghfknoaa
