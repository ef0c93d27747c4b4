/- The walk of the document's own Reduce. Each theorem names its own conditions. -/
import Derived.Test.YtoebokeehhfboaaDoorRefSubQ
import Derived.Test.YtoebokeehhfboaaDoorSclTop
import Derived.Deep.CutRange
namespace Go.Proofs.YtoebokeehhfboaaDoor
open Go.RowKit
set_option linter.unusedVariables false
set_option linter.unusedSimpArgs false

set_option maxRecDepth 100000 in
set_option maxHeartbeats 8000000 in
theorem rReduce_num (v : Value) (l : List UInt8) (w : World) (hv : Row1 w v (l.map bval)) (hG : GlobO w) :
    Calls Tryd.prog 10 #[v] w fun e w' => e = .returned (.agg ((nq (leN (l.take 64) : Nat)).map bval).toArray) ∧ Below w.heap.size w w' := by
  have HV := Lib.hid hv
  obtain ⟨a, cap, rfl, r1, r2, r3, r4⟩ := hv
  have HG := Lib.hid hG
  have HLM : Hid ((l.map bval).length = l.length) := Lib.hid (List.length_map _)
  clear hG r4 r3
  rw [HLM.out] at r1 ⊢
  unfold maxLen at r2
  have HB := Lib.hid (boxes2 w (ints .u8 (List.replicate 32 0)) (ints .i64 (List.replicate 33 0)) 25 38)
  have HB1 := Lib.hid (Ext.alloc w (.cells (ints .u8 (List.replicate 32 0)).toArray 25))
  go_enter Tryd.func10, Tryd.ntmps10
  go_upto_if 12 with (fail)
  change Code.wp _ _ _ _ (w.alloc (.cells (ints .u8 (List.replicate 32 0)).toArray 25))
  go_cut [0] from 13 to 14 (fun v wc => ∃ n : Nat, v = .slice a n cap ∧ n = (l.take 64).length ∧ Row1 w (.slice a n cap) ((l.take 64).map bval) ∧ wc = w.alloc (.cells (ints .u8 (List.replicate 32 0)).toArray 25))
  case first =>
    by_cases hle : l.length ≤ 64
    · have hle2 : (l.length : Int) ≤ 64 := by omega
      have HRW : Hid (Row1 w (.slice a l.length cap) ((l.take 64).map bval)) := Lib.hid (by rw [List.take_of_length_le hle]; have := HV.out; rwa [HLM.out] at this)
      go_wp2_with fail
      go_meet
      exact ⟨_, rfl, by rw [List.take_of_length_le hle], HRW.out, rfl⟩
    · have hle2 : (64 : Int) < (l.length : Int) := by omega
      have HRW : Hid (Row1 w (.slice a 64 cap) ((l.take 64).map bval)) := Lib.hid (by rw [List.map_take]; exact HV.out.head 64 (by rw [HLM.out]; omega))
      go_wp2_with fail
      go_meet
      exact ⟨_, rfl, by rw [List.length_take]; omega, HRW.out, rfl⟩
  case rest =>
    obtain ⟨n, rfl, hn, hrow, rfl⟩ := hcut
    have hL64 : (l.take 64).length ≤ 64 := by simp; omega
    obtain ⟨L, hL⟩ : ∃ L, L = l.take 64 := ⟨_, rfl⟩
    rw [← hL] at hn hrow hL64
    have HLT := Lib.hid hL
    clear hL
    subst hn
    obtain ⟨a', cap', hv1, hv2, hv3, hv4, hv5⟩ := id hrow
    rw [List.length_map] at hv1
    cases hv1
    unfold maxLen at hv3
    have HR := Lib.hid hv5
    have HBS : Hid ((L.map bval).length = L.length) := Lib.hid (List.length_map _)
    have HRL := Lib.hid hL64
    rw [HBS.out] at hv2
    clear r1 r2 HV HLM hrow hv4 hv5
    go_wp2_with fail
    change Code.wp _ _ _ _ ((w.alloc (.cells (ints .u8 (List.replicate 32 0)).toArray 25)).alloc (.cells (ints .i64 (List.replicate 33 0)).toArray 38))
    generalize (w.alloc (.cells (ints .u8 (List.replicate 32 0)).toArray 25)).alloc (.cells (ints .i64 (List.replicate 33 0)).toArray 38) = w0 at *
    obtain ⟨b1, b2, b4⟩ := HB.out
    obtain ⟨A, hA⟩ : ∃ A, A = w.heap.size := ⟨_, rfl⟩
    rw [← hA] at b1 b2 ⊢
    have hA2 : w.heap.size ≤ A := by omega
    have H1 := Lib.hid b1
    have H2 := Lib.hid b2
    have HE : Hid (Ext w w0) := Lib.hid b4
    clear b1 b2 b4 hA HB HB1 hL64
    have h64 := HRL.out
    go_loopw [4] (fun i wr => ∃ (j : Nat), j ≤ 8 * L.length ∧ i = .int .i64 ((j : Int) - 1) ∧ Blk wr (A + 1) (ints .i64 (dig 33 (upQ (leN L) j))) 38 ∧ Blk wr A (ints .u8 (List.replicate 32 0)) 25 ∧ Ext w wr) (fun i _ => (intOf i + 1).toNat)
    case atStart => exact ⟨8 * L.length, Nat.le_refl _, by congr 1, by rw [upQ_start]; exact H2.out, H1.out, HE.out⟩
    case round =>
      clear H1 H2 HE
      obtain ⟨j, hj, rfl, hb1, hb2, hbel⟩ := hrel
      by_cases hlt : 1 ≤ j
      · obtain ⟨i, rfl⟩ : ∃ i, j = i + 1 := ⟨j - 1, by omega⟩
        have hi1 : ((i + 1 : Nat) : Int) - 1 = (i : Int) := by omega
        rw [hi1]
        have i0 : (0 : Int) ≤ (i : Int) := Int.natCast_nonneg _
        have i1 : (i : Int) < 8 * (L.length : Int) := by omega
        have i8 : i / 8 < L.length := by omega
        obtain ⟨b, off, rfl, hbs, hcell⟩ := HR.out (by intro e; rw [List.map_eq_nil_iff] at e; rw [e] at i8; exact absurd i8 (by simp))
        have hc := hcell (i / 8) (by rw [HBS.out]; exact i8)
        rw [bval_get i8] at hc
        have hc2 : wr.cell? ⟨b, off + i / 8, none⟩ = some (.int .u8 ((L.getD (i / 8) 0).toNat : Int)) := by rw [← hc]; exact hbel.cell (p := ⟨b, off + i / 8, none⟩) hbs
        have hbit := leN_bit L i (by omega)
        have hby := UInt8.toNat_lt (L.getD (i / 8) 0)
        obtain ⟨p, hp⟩ : ∃ p : Nat, p = i / 8 := ⟨_, rfl⟩
        obtain ⟨s, hs⟩ : ∃ s : Nat, s = i % 8 := ⟨_, rfl⟩
        rw [← hp] at hc2 hby hbit i8
        rw [← hs] at hbit
        have hp2 : (i : Int) / 8 = (p : Int) := by omega
        have hs2 : (i : Int) % 8 = (s : Int) := by omega
        have pL : (p : Int) < (L.length : Int) := by omega
        have s8 : (s : Int) < 8 := by omega
        have hand : bits .and .i64 (((L.getD p 0).toNat : Int) / 2 ^ s) 1 = ((leN L / 2 ^ i % 2 : Nat) : Int) := by
          have e : (((L.getD p 0).toNat : Int) / 2 ^ s) = (((L.getD p 0).toNat / 2 ^ s : Nat) : Int) := by simp
          have h3 : (L.getD p 0).toNat / 2 ^ s ≤ (L.getD p 0).toNat := Nat.div_le_self _ _
          rw [e, hbit]
          generalize (L.getD p 0).toNat / 2 ^ s = z at *
          rw [and_i64_1 _ (by omega) (by omega)]
          omega
        have HSTEP := Lib.hid (upQ_step (leN L) i)
        have HX := Lib.hid (upQ_lt (leN L) (i + 1))
        have HB2 : Hid (leN L / 2 ^ i % 2 = 0 ∨ leN L / 2 ^ i % 2 = 1) := Lib.hid (by omega)
        generalize leN L / 2 ^ i % 2 = bn at *
        generalize upQ (leN L) (i + 1) = x at *
        generalize (L.getD p 0).toNat = c at *
        have H1 := Lib.hid hb1
        have H2 := Lib.hid hb2
        have HE := Lib.hid hbel
        clear hb1 hb2 hbel hcell hc hbit hp hs hi1
        go_wp2_with fail
        have HX33 : Hid (x < 256 ^ 33) := Lib.hid (by have h1 := HX.out; have h2 : qN < 256 ^ 33 := (by decide +kernel); omega)
        have HY33 : Hid (2 * x + bn < 256 ^ 33) := Lib.hid (by have h1 := HX.out; have h0 := HB2.out; have h2 : 2 * qN + 1 < 256 ^ 33 := (by decide +kernel); omega)
        have HDL := Lib.hid (dig_length 33 x)
        have HDD := Lib.hid (dig_digits 33 x)
        have HDN : Hid (∀ z c, DB (dig 33 x) z (bn : Int) c 33 → z = dig 33 (2 * x + bn)) := Lib.hid (fun z c h => h.done HX33.out HY33.out)
        have HDS : Hid (DB (dig 33 x) (dig 33 x) (bn : Int) (bn : Int) 0) := Lib.hid (DB.start HDL.out (by have := HB2.out; omega))
        generalize dig 33 x = d at *
        obtain ⟨wo, rfl⟩ : ∃ wo : World, wo = wr := ⟨_, rfl⟩
        go_loopw [5, 6] (fun cv kv wr => ∃ (k : Nat) (c : Int) (z : List Int), k ≤ 33 ∧ kv = .int .i64 (k : Int) ∧ cv = .int .i64 c ∧ DB d z (bn : Int) c k ∧ Blk wr (A + 1) (ints .i64 z) 38 ∧ Blk wr A (ints .u8 (List.replicate 32 0)) 25 ∧ Ext w wr) (fun _ kv _ => 33 - (intOf kv).toNat)
        case atStart => exact ⟨0, _, d, by omega, rfl, rfl, HDS.out, H1.out, H2.out, HE.out⟩
        case round =>
          clear H1 H2 HE hc2
          obtain ⟨k, cc, z, hk, rfl, rfl, hdb, hb1, hb2, hbel⟩ := hrel
          have k0 : (0 : Int) ≤ (k : Int) := Int.natCast_nonneg _
          have hcar := hdb.car
          by_cases hlk : k < 33
          · have k1 : (k : Int) < 33 := by omega
            have hzl := hdb.len
            have e1 := hb1.cell k
            rw [ints_get (by omega)] at e1
            have f1 := hb1.free k
            have q1 := HDD.out k hlk
            rw [← hdb.far k (Nat.le_refl _)] at q1
            have hst := hdb.step hlk HDL.out (HDD.out k hlk)
            have hm := and_i64_255 (2 * z.getD k 0 + cc) (by omega) (by omega)
            have HST := Lib.hid hst
            generalize z.getD k 0 = u at *
            have H1 := Lib.hid hb1
            have H2 := Lib.hid hb2
            have HE := Lib.hid hbel
            clear hst hb1 hb2 hbel hdb hzl
            go_wp2_with fail
            go_roundw
            case rel => exact ⟨k + 1, _, _, by omega, by go_num, rfl, HST.out, H1.out.seti k _, H2.out.far (by simp <;> omega) _, Below.setCell HE.out (by simp <;> omega) _⟩
            case measure => simp [intOf]; omega
          · have hk33 : k = 33 := by omega
            subst hk33
            have hz := HDN.out z cc hdb
            subst hz
            have HSUB := Lib.hid (fun w hw => rsub_any (2 * x + bn) w HY33.out hw)
            have HF : Hid ((if 2 * x + bn < qN then 2 * x + bn else 2 * x + bn - qN) = upQ (leN L) i) := Lib.hid (by rw [sub_once _ (by have := HX.out; have := HB2.out; omega), HSTEP.out])
            have hi1 : Hid ((Tryd.prog.info? 38).map (·.size) = some (ints .i64 (dig 33 (2 * x + bn))).length) := Lib.hid (by rw [ints_length, dig_length]; exact Tryd.arr38)
            have hi2 : Hid ((Tryd.prog.info? 38).map (·.size) = some (ints .i64 (dig 33 (upQ (leN L) i))).length) := Lib.hid (by rw [ints_length, dig_length]; exact Tryd.arr38)
            have hl2 : Hid ((ints .i64 (dig 33 (upQ (leN L) i))).length = (ints .i64 (dig 33 (2 * x + bn))).length) := Lib.hid (by rw [ints_length, ints_length, dig_length, dig_length])
            rw [HF.out] at HSUB
            have H1 := Lib.hid hb1
            have H2 := Lib.hid hb2
            have HE := Lib.hid hbel
            clear hb1 hb2 hbel hdb hcar hand
            generalize 2 * x + bn = y at *
            obtain ⟨x2, hx2⟩ : ∃ x2, x2 = upQ (leN L) i := ⟨_, rfl⟩
            rw [← hx2] at HSUB hi2 hl2
            have HX2 := Lib.hid hx2
            clear hx2 HF
            go_wp2_with (refine wpList_load_blk rfl _ _ rfl (A + 1) rfl _ _ _ _ H1.out Tryd.underlying38 hi1.out ?_)
            refine (HSUB.out _ (HG.out.ext HE.out)).mono ?_
            rintro e w5 ⟨rfl, hb5⟩
            have H1 := Lib.hid (ext_blk H1.out hb5)
            have H2 := Lib.hid (ext_blk H2.out hb5)
            have HE := Lib.hid (HE.out.trans hb5)
            clear hb5
            go_wp2_with (refine wpList_store_blk rfl _ _ _ rfl (A + 1) _ rfl rfl _ _ H1.out hl2.out hi2.out (ints_one _ _) ?_; intro w6 hb6 hg6)
            go_roundw
            case rel =>
              rw [HX2.out] at hb6
              exact ⟨i, by omega, rfl, hb6, H2.out.grown hg6 (by simp), ext_grown HE.out hg6 (by omega)⟩
            case measure => simp [intOf]
      · have hj0 : j = 0 := by omega
        subst hj0
        have he0 : ((0 : Nat) : Int) - 1 = -1 := rfl
        rw [he0]
        have HNQ : Hid (nq (leN L : Nat) = bytesN 32 (upQ (leN L) 0)) := Lib.hid (by rw [nq_nat]; unfold upQ; rw [Nat.pow_zero, Nat.div_one])
        have HDG : Hid (∀ k, k < 33 → (dig 33 (upQ (leN L) 0)).getD k 0 = ((upQ (leN L) 0 / 256 ^ k % 256 : Nat) : Int)) := Lib.hid (fun k hk => dig_cut 33 _ k hk)
        have HNL := Lib.hid (nq_length (leN L : Nat))
        generalize upQ (leN L) 0 = x at *
        have HNB : Hid (∀ k, k < 32 → ((nq (leN L : Nat)).getD k 0).toNat = x / 256 ^ k % 256) := Lib.hid (fun k hk => by rw [HNQ.out, bytesN_getD 32 x k hk])
        obtain ⟨N, hN⟩ : ∃ N, N = nq (leN L : Nat) := ⟨_, rfl⟩
        rw [← hN] at HNB HNL
        have HNN : Hid (N = nq (leN (l.take 64) : Nat)) := Lib.hid (by rw [hN, HLT.out])
        clear hN
        have HDL := Lib.hid (dig_length 33 x)
        generalize dig 33 x = d at *
        have HD := Lib.hid (Blk.made wr (ints .u8 (List.replicate 32 0)) 25)
        have H1 := Lib.hid (hb1.alloc (.cells (ints .u8 (List.replicate 32 0)).toArray 25))
        have H2 := Lib.hid (hb2.alloc (.cells (ints .u8 (List.replicate 32 0)).toArray 25))
        have HE := Lib.hid (Ext.trans hbel (Ext.alloc wr (.cells (ints .u8 (List.replicate 32 0)).toArray 25)))
        have hDA : A + 1 < wr.heap.size := hb1.lt
        clear hb1 hb2 hbel HNQ
        go_wp2_with fail
        change Code.wp _ _ _ _ (wr.alloc (.cells (ints .u8 (List.replicate 32 0)).toArray 25))
        generalize wr.alloc (.cells (ints .u8 (List.replicate 32 0)).toArray 25) = w3 at *
        generalize wr.heap.size = D at *
        go_loopw [9] (fun iv wr => ∃ (k : Nat), k ≤ 32 ∧ iv = .int .i64 (k : Int) ∧ Blk wr D ((fill 32 N k).map bval) 25 ∧ Blk wr (A + 1) (ints .i64 d) 38 ∧ Blk wr A (ints .u8 (List.replicate 32 0)) 25 ∧ Ext w wr) (fun iv _ => 32 - (intOf iv).toNat)
        case atStart => exact ⟨0, by omega, rfl, by rw [fill_start]; exact HD.out, H1.out, H2.out, HE.out⟩
        case round =>
          clear HD H1 H2 HE
          obtain ⟨k, hk, rfl, hb3, hb1, hb2, hbel⟩ := hrel
          have k0 : (0 : Int) ≤ (k : Int) := Int.natCast_nonneg _
          by_cases hlk : k < 32
          · have k1 : (k : Int) < 32 := by omega
            have k2 : (k : Int) < 33 := by omega
            have hdl := HDL.out
            have e1 := hb1.cell k
            rw [ints_get (by omega), HDG.out k (by omega)] at e1
            have hln : ((fill 32 N k).map bval).length = 32 := by rw [List.length_map, fill_length HNL.out (by omega)]
            have e3 := hb3.cell k
            rw [List.getElem?_eq_getElem (by omega)] at e3
            have f3 := hb3.free k
            generalize ((fill 32 N k).map bval)[k]'(by omega) = c3 at e3
            have hz : ((x / 256 ^ k % 256 : Nat) : Int) % 256 = ((N.getD k 0).toNat : Int) := by rw [HNB.out k hlk]; omega
            have HST := Lib.hid (fill_set_val HNL.out hlk hz)
            have hzb : x / 256 ^ k % 256 < 256 := Nat.mod_lt _ (by omega)
            have hz2 : ((x / 256 ^ k % 256 : Nat) : Int) % 256 = ((x / 256 ^ k % 256 : Nat) : Int) := by omega
            rw [hz2] at HST
            clear hz hz2
            generalize x / 256 ^ k % 256 = y at *
            have H1 := Lib.hid hb1
            have H2 := Lib.hid hb2
            have HD := Lib.hid hb3
            have HE := Lib.hid hbel
            clear hb1 hb2 hb3 hbel hdl hln
            go_wp2_with fail
            go_roundw
            case rel =>
              refine ⟨k + 1, by omega, by go_num, ?_, H1.out.far (by simp <;> omega) _, H2.out.far (by simp <;> omega) _, Below.setCell HE.out (by simp <;> omega) _⟩
              rw [← HST.out]
              exact HD.out.set k _
            case measure => simp [intOf]; omega
          · have hk32 : k = 32 := by omega
            subst hk32
            rw [fill_full HNL.out] at hb3
            have H2 := Lib.hid hb2
            have HD := Lib.hid hb3
            have HE := Lib.hid hbel
            clear hb1 hb2 hb3 hbel
            have hi1 : Hid ((Tryd.prog.info? 25).map (·.size) = some (N.map bval).length) := Lib.hid (num_size HNL.out)
            have hl1 : Hid ((N.map bval).length = (ints .u8 (List.replicate 32 0)).length) := Lib.hid (by rw [List.length_map, HNL.out]; rfl)
            go_wp2_with (first | (refine wpList_load_blk rfl _ _ rfl D rfl _ _ _ _ HD.out Tryd.underlying25 hi1.out ?_) | (refine wpList_store_blk rfl _ _ _ rfl A _ rfl rfl _ _ H2.out hl1.out hi1.out (bval_one _) ?_; intro w7 hb7 hg7))
            exact bodyPost_ret (v := .agg (N.map bval).toArray) (result_row (by rfl) _ A _ _ _ (by rfl) hb7 Tryd.underlying25 rfl hi1.out) rfl ⟨by rw [HNN.out], ext_grown HE.out hg7 (by omega)⟩

end Go.Proofs.YtoebokeehhfboaaDoor
