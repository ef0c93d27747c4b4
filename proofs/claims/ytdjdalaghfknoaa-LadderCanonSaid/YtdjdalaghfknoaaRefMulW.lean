/- The walk of the document's own product modulo 2^255 - 19. Each theorem names its own conditions. -/
import Derived.Test.YtdjdalaghfknoaaRefMul
namespace Go.Proofs.Ytdjdalaghfknoaa
open Go.RowKit
set_option linter.unusedVariables false

theorem bound_i64 {z : Int} {i k : Nat} (hi : i ≤ 16) (hk : k ≤ 16) (h : -((16 * (i : Int) + k) * 17179869184) ≤ z ∧ z ≤ (16 * (i : Int) + k) * 17179869184) : -4672924418048 ≤ z ∧ z ≤ 4672924418048 := by omega

theorem OutS.step1 {T o : List Int} {i : Nat} (h : OutS T o i) (hi : i < 15) : OutS T ((o.set i (T.getD i 0)).set i (T.getD i 0 + 38 * T.getD (i + 16) 0)) (i + 1) := by
  obtain ⟨h1, h2⟩ := h
  refine ⟨by simp [h1], fun j hj hj2 => ?_⟩
  by_cases e : j = i
  · subst e
    rw [getD_set_same (by simp; omega), if_pos hi]
  · rw [getD_set_far (by omega), getD_set_far (by omega)]
    exact h2 j (by omega) hj2
theorem OutS.step2 {T o : List Int} (h : OutS T o 15) : OutS T (o.set 15 (T.getD 15 0)) 16 := by
  obtain ⟨h1, h2⟩ := h
  refine ⟨by simp [h1], fun j hj hj2 => ?_⟩
  by_cases e : j = 15
  · subst e
    rw [getD_set_same (by omega), if_neg (by omega)]
  · rw [getD_set_far (by omega)]
    exact h2 j (by omega) hj2
theorem OutS.bnd {T o : List Int} (h : OutS T o 16) (hT : ∀ j, j < 31 → -4672924418048 ≤ T.getD j 0 ∧ T.getD j 0 ≤ 4672924418048) : ∀ z ∈ o, -281474976710656 ≤ z ∧ z ≤ 281474976710656 := by
  refine all_of_getD (P := fun z => -281474976710656 ≤ z ∧ z ≤ 281474976710656) h.len (fun i hi => ?_)
  rw [h.low i hi hi]
  have h1 := hT i (by omega)
  split
  · have h2 := hT (i + 16) (by omega)
    omega
  · omega

theorem Try.arr67 : (Try.prog.info? 67).map (·.size) = some 31 := by kernel_rfl

set_option maxRecDepth 100000 in
set_option maxHeartbeats 4000000 in
theorem rmul_any (u v : Value) (x y : Int) (w : World) (hu : IsEl u x) (hv : IsEl v y) :
    Calls Try.prog 29 #[u, v] w fun e w' => ∃ r, e = .returned r ∧ IsEl r (x * y) ∧ Below w.heap.size w w' := by
  obtain ⟨xs, rfl, la, ba, qa, va⟩ := hu
  obtain ⟨ys, rfl, lb, bb, qb, vb⟩ := hv
  have HA := Lib.hid ba
  have HB := Lib.hid bb
  have LA := Lib.hid la
  have LB := Lib.hid lb
  have VA := Lib.hid va
  have VB := Lib.hid vb
  have HBX := Lib.hid (boxes4 w (ints .i64 xs) (ints .i64 ys) (ints .i64 (List.replicate 16 0)) (ints .i64 (List.replicate 31 0)) 48 48 48 67)
  clear ba bb la lb va vb
  go_enter Try.func29, Try.ntmps29
  go_wp2_with fail
  change Code.wp _ _ _ _ ((((w.alloc (.cells (ints .i64 xs).toArray 48)).alloc (.cells (ints .i64 ys).toArray 48)).alloc (.cells (ints .i64 (List.replicate 16 0)).toArray 48)).alloc (.cells (ints .i64 (List.replicate 31 0)).toArray 67))
  generalize (((w.alloc (.cells (ints .i64 xs).toArray 48)).alloc (.cells (ints .i64 ys).toArray 48)).alloc (.cells (ints .i64 (List.replicate 16 0)).toArray 48)).alloc (.cells (ints .i64 (List.replicate 31 0)).toArray 67) = w0 at *
  obtain ⟨h1, h2, h3, h4, h5⟩ := HBX.out
  obtain ⟨A, hA⟩ : ∃ A, A = w.heap.size := ⟨_, rfl⟩
  rw [← hA] at h1 h2 h3 h4 ⊢
  have hA2 : w.heap.size ≤ A := by omega
  have H1 := Lib.hid h1
  have H2 := Lib.hid h2
  have H3 := Lib.hid h3
  have H4 := Lib.hid h4
  have H5 := Lib.hid h5
  clear h1 h2 h3 h4 h5 HBX hA
  go_loopw [6] (fun i wr => ∃ (k : Nat) (T : List Int), k ≤ 16 ∧ i = .int .i64 k ∧ MulS xs ys T k 0 ∧ Blk wr A (ints .i64 xs) 48 ∧ Blk wr (A + 1) (ints .i64 ys) 48 ∧ Blk wr (A + 1 + 1) (ints .i64 (List.replicate 16 0)) 48 ∧ Blk wr (A + 1 + 1 + 1) (ints .i64 T) 67 ∧ Below w.heap.size w wr) (fun i _ => 16 - (intOf i).toNat)
  case atStart => exact ⟨0, _, by omega, rfl, MulS.start, H1.out, H2.out, H3.out, H4.out, H5.out⟩
  case round =>
    clear H1 H2 H3 H4 H5
    obtain ⟨i, T0, hi, rfl, hms0, hb1, hb2, hb3, hb4, hbel⟩ := hrel
    have i0' : (0 : Int) ≤ (i : Int) := Int.natCast_nonneg _
    by_cases hlt : i < 16
    · have i1 : (i : Int) < 16 := by omega
      have H1 := Lib.hid hb1
      have H2 := Lib.hid hb2
      have H3 := Lib.hid hb3
      have H4 := Lib.hid hb4
      have H5 := Lib.hid hbel
      have H6 := Lib.hid hms0
      clear hb1 hb2 hb3 hb4 hbel hms0
      go_wp2_with fail
      obtain ⟨wo, rfl⟩ : ∃ wo : World, wo = wr := ⟨_, rfl⟩
      go_loopw [7] (fun j wr => ∃ (k : Nat) (T : List Int), k ≤ 16 ∧ j = .int .i64 k ∧ MulS xs ys T i k ∧ Blk wr A (ints .i64 xs) 48 ∧ Blk wr (A + 1) (ints .i64 ys) 48 ∧ Blk wr (A + 1 + 1) (ints .i64 (List.replicate 16 0)) 48 ∧ Blk wr (A + 1 + 1 + 1) (ints .i64 T) 67 ∧ Below w.heap.size w wr) (fun j _ => 16 - (intOf j).toNat)
      case atStart => exact ⟨0, T0, by omega, rfl, H6.out, H1.out, H2.out, H3.out, H4.out, H5.out⟩
      case round =>
        clear H1 H2 H3 H4 H5 H6
        obtain ⟨k, T, hk, rfl, hms, hb1, hb2, hb3, hb4, hbel⟩ := hrel
        have j0' : (0 : Int) ≤ (k : Int) := Int.natCast_nonneg _
        by_cases hlt2 : k < 16
        · have j1 : (k : Int) < 16 := by omega
          have e1 := hb1.cell i
          rw [ints_get (by have := LA.out; omega)] at e1
          have e2 := hb2.cell k
          rw [ints_get (by have := LB.out; omega)] at e2
          have e3 := hb4.cell (i + k)
          rw [ints_get (by have := hms.len; omega)] at e3
          have f3 := hb4.free (i + k)
          have hst := hms.step hlt hlt2 HA.out HB.out LA.out LB.out
          have b1 := getD_of_all (P := fun z => -131072 ≤ z ∧ z ≤ 131072) HA.out (i := i) (by have := LA.out; omega)
          have b2 := getD_of_all (P := fun z => -131072 ≤ z ∧ z ≤ 131072) HB.out (i := k) (by have := LB.out; omega)
          have b3 := bound_i64 (by omega) (by omega) (hms.bnd (i + k) (by omega))
          have b4 := prod_bound b1.1 b1.2 b2.1 b2.2
          generalize xs.getD i 0 = a at *
          generalize ys.getD k 0 = b at *
          generalize T.getD (i + k) 0 = t at *
          obtain ⟨b31, b32⟩ := b3
          obtain ⟨b41, b42⟩ := b4
          have s1 : IntKind.i64.wrap ((i : Int) + (k : Int)) = (i : Int) + k := IntWalk.i64_in _ (by omega)
          have s2 : ((i : Int) + (k : Int)).toNat = i + k := by omega
          have s3 : (0 : Int) ≤ (i : Int) + (k : Int) := by omega
          have s4 : (i : Int) + (k : Int) < 31 := by omega
          have W1 : Hid (wrap64 (a * b) = a * b) := Lib.hid (by rw [← IntWalk.i64_left]; exact IntWalk.i64_in _ (by omega))
          have W2 : Hid (wrap64 (t + a * b) = t + a * b) := Lib.hid (by rw [← IntWalk.i64_left]; exact IntWalk.i64_in _ (by omega))
          have HST := Lib.hid hst
          have H1 := Lib.hid hb1
          have H2 := Lib.hid hb2
          have H3 := Lib.hid hb3
          have H4 := Lib.hid hb4
          have H5 := Lib.hid hbel
          clear hb1 hb2 hb3 hb4 hbel hst hms b1 b2 b31 b32 b41 b42
          go_wp2_with fail
          go_region
          go_wp2_with fail
          go_roundw
          case rel =>
            rw [W1.out, W2.out]
            refine ⟨k + 1, _, by omega, by go_num, HST.out, H1.out.far (by simp; omega) _, H2.out.far (by simp; omega) _, H3.out.far (by simp) _, ?_, (H5.out.setCell (by simp; omega) _).drew⟩
            rw [← ints_set]
            exact H4.out.set (i + k) _
          case measure => simp [intOf]; omega
        · have hk' : k = 16 := by omega
          subst hk'
          have hnx := hms.next hlt LA.out LB.out
          have H1 := Lib.hid hb1
          have H2 := Lib.hid hb2
          have H3 := Lib.hid hb3
          have H4 := Lib.hid hb4
          have H5 := Lib.hid hbel
          have HNX := Lib.hid hnx
          clear hb1 hb2 hb3 hb4 hbel hms hnx
          go_wp2_with fail
          go_roundw
          case rel => exact ⟨i + 1, T, by omega, by go_num, HNX.out, H1.out, H2.out, H3.out, H4.out, H5.out⟩
          case measure => simp [intOf]; omega
    · have hi' : i = 16 := by omega
      subst hi'
      have hT31 := hms0.len
      have hTb : ∀ j, j < 31 → -4672924418048 ≤ T0.getD j 0 ∧ T0.getD j 0 ≤ 4672924418048 := fun j hj => bound_i64 (i := 16) (k := 0) (by omega) (by omega) (hms0.bnd j hj)
      have hTv := hms0.val
      rw [List.take_of_length_le (l := xs) (by have := LA.out; omega), List.take_zero] at hTv
      simp only [dV, Int.mul_zero, Int.zero_mul, Int.add_zero] at hTv
      have HT31 := Lib.hid hT31
      have HTB := Lib.hid hTb
      have HTV := Lib.hid hTv
      obtain ⟨O, hO⟩ : ∃ O, O = wr.heap.size := ⟨_, rfl⟩
      have hO4 : A + 1 + 1 + 1 < O := by have := hb4.lt; omega
      have HO0 := Lib.hid (Blk.made wr (ints .i64 (List.replicate 16 0)) 48)
      rw [← hO] at HO0
      have H3 := Lib.hid (hb3.alloc (.cells (ints .i64 (List.replicate 16 0)).toArray 48))
      have H4 := Lib.hid (hb4.alloc (.cells (ints .i64 (List.replicate 16 0)).toArray 48))
      have H5 := Lib.hid (hbel.alloc hbel.size (.cells (ints .i64 (List.replicate 16 0)).toArray 48))
      clear hb1 hb2 hb3 hb4 hbel hms0 hT31 hTb hTv
      go_wp2_with fail
      rw [← hO]
      change Code.wp _ _ _ _ (wr.alloc (.cells (ints .i64 (List.replicate 16 0)).toArray 48))
      generalize wr.alloc (.cells (ints .i64 (List.replicate 16 0)).toArray 48) = w2 at *
      clear hO
      obtain ⟨wo, rfl⟩ : ∃ wo : World, wo = wr := ⟨_, rfl⟩
      go_loopw [9] (fun j wr => ∃ (k : Nat) (o : List Int), k ≤ 16 ∧ j = .int .i64 k ∧ OutS T0 o k ∧ Blk wr (A + 1 + 1) (ints .i64 (List.replicate 16 0)) 48 ∧ Blk wr (A + 1 + 1 + 1) (ints .i64 T0) 67 ∧ Blk wr O (ints .i64 o) 48 ∧ Below w.heap.size w wr) (fun j _ => 16 - (intOf j).toNat)
      case atStart => exact ⟨0, _, by omega, rfl, ⟨rfl, fun j hj => by omega⟩, H3.out, H4.out, HO0.out, H5.out⟩
      case round =>
        clear H3 H4 H5 HO0
        obtain ⟨k, o, hk, rfl, hos, hb3, hb4, hbo, hbel⟩ := hrel
        have j0' : (0 : Int) ≤ (k : Int) := Int.natCast_nonneg _
        have ho16 := hos.len
        by_cases hlt2 : k < 16
        · have j1 : (k : Int) < 16 := by omega
          have e1 := hb4.cell k
          rw [ints_get (by have := HT31.out; omega)] at e1
          have e2 := hbo.cell k
          rw [ints_get (by omega)] at e2
          have f2 := hbo.free k
          have b1 := HTB.out k (by omega)
          by_cases h15 : k < 15
          · have e3 := hb4.cell (k + 16)
            rw [ints_get (by have := HT31.out; omega)] at e3
            have b2 := HTB.out (k + 16) (by omega)
            have hst := hos.step1 h15
            generalize T0.getD k 0 = a at *
            generalize T0.getD (k + 16) 0 = b at *
            obtain ⟨b11, b12⟩ := b1
            obtain ⟨b21, b22⟩ := b2
            have s1 : IntKind.i64.wrap ((k : Int) + 16) = (k : Int) + 16 := IntWalk.i64_in _ (by omega)
            have s2 : ((k : Int) + 16).toNat = k + 16 := by omega
            have s3 : (0 : Int) ≤ (k : Int) + 16 := by omega
            have s4 : (k : Int) + 16 < 31 := by omega
            have j2 : (k : Int) < 15 := by omega
            have W1 : Hid (wrap64 (38 * b) = 38 * b) := Lib.hid (by rw [← IntWalk.i64_left]; exact IntWalk.i64_in _ (by omega))
            have W2 : Hid (wrap64 (a + 38 * b) = a + 38 * b) := Lib.hid (by rw [← IntWalk.i64_left]; exact IntWalk.i64_in _ (by omega))
            have HST := Lib.hid hst
            have H3 := Lib.hid hb3
            have H4 := Lib.hid hb4
            have H5 := Lib.hid hbel
            have HO := Lib.hid hbo
            clear hb3 hb4 hbo hbel hst hos b11 b12 b21 b22 ho16
            go_wp2_with fail
            go_region
            go_wp2_with fail
            go_roundw
            case rel =>
              rw [W1.out, W2.out]
              refine ⟨k + 1, _, by omega, by go_num, HST.out, (H3.out.far (by simp; omega) _).far (by simp; omega) _, (H4.out.far (by simp; omega) _).far (by simp; omega) _, ?_, ((H5.out.setCell (by simp; omega) _).setCell (by simp; omega) _).drew⟩
              rw [← ints_set, ← ints_set]
              exact (HO.out.set k _).set k _
            case measure => simp [intOf]; omega
          · have hk15 : k = 15 := by omega
            subst hk15
            have hst := hos.step2
            generalize T0.getD 15 0 = a at *
            have HST := Lib.hid hst
            have H3 := Lib.hid hb3
            have H4 := Lib.hid hb4
            have H5 := Lib.hid hbel
            have HO := Lib.hid hbo
            clear hb3 hb4 hbo hbel hst hos b1 ho16
            go_wp2_with fail
            go_roundw
            case rel =>
              refine ⟨16, _, by omega, by go_num, HST.out, H3.out.far (by simp; omega) _, H4.out.far (by simp; omega) _, ?_, H5.out.setCell (by simp; omega) _⟩
              rw [← ints_set]
              exact HO.out.set 15 _
            case measure => simp [intOf]
        · have hk' : k = 16 := by omega
          subst hk'
          have hdone := hos.done HT31.out
          have hbd := hos.bnd HTB.out
          have H3 := Lib.hid hb3
          have H5 := Lib.hid hbel
          have HO := Lib.hid hbo
          have HD := Lib.hid hdone
          have hi1 : Hid ((Try.prog.info? 48).map (·.size) = some (ints .i64 o).length) := Lib.hid (by rw [ints_length, ho16]; exact Try.arr48)
          have HC := Lib.hid (carry_any o 281474976710656 wr ho16 hbd (by omega) (by omega))
          clear hb3 hb4 hbo hbel hos ho16 hdone hbd
          go_wp2_with (refine wpList_load_blk rfl _ _ rfl O rfl _ _ _ _ HO.out Try.underlying48 hi1.out ?_)
          refine HC.out.mono ?_
          rintro e w5 ⟨z1, rfl, hz1, hb5⟩
          have hn1 := hz1.near (by omega)
          have hbz1 : ∀ z ∈ z1, -1099511627776 ≤ z ∧ z ≤ 1099511627776 := all_of_getD (P := fun z => -1099511627776 ≤ z ∧ z ≤ 1099511627776) hz1.len (fun i hi => by
            obtain ⟨_, ⟨c, c1, c2, _, c4, c5⟩, h3⟩ := hz1
            rcases Nat.eq_zero_or_pos i with rfl | h0
            · omega
            · have := h3 i h0 hi
              omega)
          have HC2 := Lib.hid (carry_any z1 1099511627776 w5 hz1.len hbz1 (by omega) (by omega))
          have H35 := Lib.hid (H3.out.same (hb5.block _ H3.out.lt))
          have H55 := Lib.hid (H5.out.trans (hb5.mono H5.out.size))
          have HZ1 := Lib.hid hz1
          have HN1 := Lib.hid hn1
          clear hb5 hz1 hn1 hbz1
          go_wp2_with fail
          refine HC2.out.mono ?_
          rintro e w6 ⟨z2, rfl, hz2, hb6⟩
          have H36 := Lib.hid (H35.out.same (hb6.block _ H35.out.lt))
          have H56 := Lib.hid (H55.out.trans (hb6.mono H55.out.size))
          have hi2 : Hid ((Try.prog.info? 48).map (·.size) = some (ints .i64 z2).length) := Lib.hid (by rw [ints_length, hz2.len]; exact Try.arr48)
          have hl2 : Hid ((ints .i64 z2).length = (ints .i64 (List.replicate 16 0)).length) := Lib.hid (by rw [ints_length, ints_length, hz2.len]; rfl)
          have HZ2 := Lib.hid hz2
          clear hb6 hz2
          go_wp2_with (refine wpList_store_blk rfl _ _ _ rfl (A + 1 + 1) _ rfl rfl _ _ H36.out hl2.out hi2.out (ints_one _ _) ?_; intro w7 hb7 hg7)
          obtain ⟨_, ⟨c1, _, _, v1, _, _⟩, _⟩ := HZ1.out
          obtain ⟨hlen2, ⟨c2, _, _, v2, _, _⟩, _⟩ := id HZ2.out
          refine bodyPost_ret (v := .agg (ints .i64 z2).toArray) (result_blk (by rfl) _ (A + 1 + 1) _ _ _ _ (by rfl) hb7 Try.underlying48 hi2.out) rfl ⟨_, rfl, ⟨z2, rfl, hlen2, fun z hz => ?_, qa * y + qb * x + qa * qb * pP - 2 * dV (T0.drop 16) - 2 * c1 - 2 * c2, ?_⟩, H56.out.grown hg7 H56.out.size (fun r hr => by cases hr; omega)⟩
          · have := HZ2.out.sharp (E := 1152921504606846976) (by omega) (by omega) (by have := HN1.out.1; omega) (by have := HN1.out.2; omega) z hz
            omega
          · rw [v2, v1, HD.out, HTV.out, VA.out, VB.out, bigM_p]
            grind

end Go.Proofs.Ytdjdalaghfknoaa
