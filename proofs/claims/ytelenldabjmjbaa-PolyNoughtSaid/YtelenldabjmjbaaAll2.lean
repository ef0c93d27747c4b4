/- Texts that belong together, one behind the other; each says in its own first remark what it shows. -/
import Derived.Test.YtelenldabjmjbaaAll1
import Derived.Test.YtelenldabjmjbaaProg
import Derived.Laws.CopyOwn
import Derived.Deep.CutRange
import Derived.Deep.RegionWith
import Derived.ScopeJumps
import Derived.Control
import Derived.StillTailTactics
import Derived.Deep.LoopGhost
import Derived.Laws.MakeOwn
import Derived.BigQuiet
import Derived.Great.BuildSlice
import Derived.Deep.RegionHeld

/- The walks of package poly's word and limbsOf. Each theorem names its own conditions. -/
namespace Go.Proofs.Ytelenldabjmjbaa
open Go.RowKit
set_option linter.unusedVariables false
set_option linter.unusedSimpArgs false

theorem Try.arr43 : (Try.prog.info? 43).map (·.size) = some 17 := by kernel_rfl
theorem blk_size17 {l : List Int} (h : l.length = 17) : (Try.prog.info? 43).map (·.size) = some (ints .u8 l).length := by rw [ints_length, h]; exact Try.arr43
theorem or4q {y0 y1 y2 y3 : Int} (h0 : 0 ≤ y0 ∧ y0 ≤ 255) (h1 : 0 ≤ y1 ∧ y1 ≤ 255) (h2 : 0 ≤ y2 ∧ y2 ≤ 255) (h3 : 0 ≤ y3 ∧ y3 ≤ 255) :
    bits .or .u64 (bits .or .u64 (bits .or .u64 y0 (y1 * 256)) (y2 * 65536)) (y3 * 16777216) = y0 + 256 * y1 + 65536 * y2 + 16777216 * y3 := by
  obtain ⟨x0, rfl⟩ : ∃ n : Nat, y0 = (n : Int) := ⟨y0.toNat, by omega⟩
  obtain ⟨x1, rfl⟩ : ∃ n : Nat, y1 = (n : Int) := ⟨y1.toNat, by omega⟩
  obtain ⟨x2, rfl⟩ : ∃ n : Nat, y2 = (n : Int) := ⟨y2.toNat, by omega⟩
  obtain ⟨x3, rfl⟩ : ∃ n : Nat, y3 = (n : Int) := ⟨y3.toNat, by omega⟩
  have a1 : (x1 : Int) * 256 = ((256 * x1 : Nat) : Int) := by omega
  have a2 : (x2 : Int) * 65536 = ((65536 * x2 : Nat) : Int) := by omega
  have a3 : (x3 : Int) * 16777216 = ((16777216 * x3 : Nat) : Int) := by omega
  have b1 : x0 ||| 256 * x1 = x0 + 256 * x1 := (Nat.or_comm _ _).trans ((or_sum 8 x0 x1 (by omega)).trans (Nat.add_comm _ _))
  have b2 : x0 + 256 * x1 ||| 65536 * x2 = x0 + 256 * x1 + 65536 * x2 := (Nat.or_comm _ _).trans ((or_sum 16 (x0 + 256 * x1) x2 (by omega)).trans (Nat.add_comm _ _))
  have b3 : x0 + 256 * x1 + 65536 * x2 ||| 16777216 * x3 = x0 + 256 * x1 + 65536 * x2 + 16777216 * x3 := (Nat.or_comm _ _).trans ((or_sum 24 (x0 + 256 * x1 + 65536 * x2) x3 (by omega)).trans (Nat.add_comm _ _))
  rw [a1, a2, a3, or64 _ _ (by omega) (by omega), b1, or64 _ _ (by omega) (by omega), b2, or64 _ _ (by omega) (by omega), b3]
  omega

set_option maxHeartbeats 2000000 in
/-- A word is read off four bytes of a block. -/
theorem pword_any (c off len cap : Nat) (zs : List Int) (t : TypeId) (w : World) (hb : Blk w c (ints .u8 zs) t) (hz : D17 zs) (hl : off + 4 ≤ 17) (h4 : 4 ≤ len) :
    Calls Try.prog 26 #[.slice (some ⟨c, off, none⟩) len cap] w fun e w' => e = .returned (.int .u64 (w4 zs off)) ∧ w' = w.drew := by
  have cc : ∀ j, j ≤ 3 → w.cell? ⟨c, off + j, none⟩ = some (.int .u8 (zs.getD (off + j) 0)) := fun j hj => digit_b hb (by have := hz.1; omega)
  have c0 := cc 0 (by omega)
  have c1 := cc 1 (by omega)
  have c2 := cc 2 (by omega)
  have c3 := cc 3 (by omega)
  simp only [Nat.add_zero] at c0
  have d0 := hz.2 off
  have d1 := hz.2 (off + 1)
  have d2 := hz.2 (off + 2)
  have d3 := hz.2 (off + 3)
  have HBE := Lib.hid (or4q d0 d1 d2 d3)
  have HW : Hid (w4 zs off = zs.getD off 0 + 256 * zs.getD (off + 1) 0 + 65536 * zs.getD (off + 2) 0 + 16777216 * zs.getD (off + 3) 0) := Lib.hid rfl
  generalize zs.getD off 0 = x0 at *
  generalize zs.getD (off + 1) 0 = x1 at *
  generalize zs.getD (off + 2) 0 = x2 at *
  generalize zs.getD (off + 3) 0 = x3 at *
  obtain ⟨d00, d01⟩ := d0
  obtain ⟨d10, d11⟩ := d1
  obtain ⟨d20, d21⟩ := d2
  obtain ⟨d30, d31⟩ := d3
  clear cc hb hl hz
  have i0 : (0 : Int) < (len : Int) ∧ (1 : Int) < (len : Int) ∧ (2 : Int) < (len : Int) ∧ (3 : Int) < (len : Int) := by omega
  obtain ⟨i0, i1, i2, i3⟩ := i0
  go_enter Try.func26, Try.ntmps26
  go_wp2_with fail
  go_region
  go_wp2_with fail
  go_ret
  exact ⟨by rw [HW.out, ← HBE.out]; rfl, rfl⟩

set_option maxRecDepth 100000 in
set_option maxHeartbeats 8000000 in
theorem plimbs_any (zs : List Int) (w : World) (hz : D17 zs) :
    Calls Try.prog 17 #[.agg (ints .u8 zs).toArray] w fun e w' => e = .returned (.agg (ints .u64 (limL zs)).toArray) ∧ Below w.heap.size w w' := by
  have HZ := Lib.hid hz
  have HB := Lib.hid (boxes3 w (ints .u8 zs) (ints .u64 (List.replicate 5 0)) (ints .u64 (List.replicate 5 0)) 43 46 46)
  clear hz
  go_enter Try.func17, Try.ntmps17
  go_upto_region 2 with (fail)
  obtain ⟨H1, H2, H3, HE⟩ := HB.out
  change Code.wp _ _ _ _ (((w.alloc (.cells (ints .u8 zs).toArray 43)).alloc (.cells (ints .u64 (List.replicate 5 0)).toArray 46)).alloc (.cells (ints .u64 (List.replicate 5 0)).toArray 46))
  generalize ((w.alloc (.cells (ints .u8 zs).toArray 43)).alloc (.cells (ints .u64 (List.replicate 5 0)).toArray 46)).alloc (.cells (ints .u64 (List.replicate 5 0)).toArray 46) = wa at *
  obtain ⟨A, hA⟩ : ∃ A, A = w.heap.size := ⟨_, rfl⟩
  have HAW : Hid (w.heap.size ≤ A) := Lib.hid (by omega)
  rw [← hA] at H1 H2 H3 ⊢
  have H1 := Lib.hid H1
  have H2 := Lib.hid H2
  have H3 : Hid (Blk wa (A + 1 + 1) (ints .u64 (lO zs 0)) 46) := Lib.hid H3
  have HE : Hid (Ext w wa) := Lib.hid HE
  clear hA HB
  go_wp2_with fail
  go_loopw [6] (fun iv wr => ∃ (k : Nat), k ≤ 5 ∧ iv = .int .i64 (k : Int) ∧ Blk wr A (ints .u8 zs) 43 ∧ Blk wr (A + 1) (ints .u64 (List.replicate 5 0)) 46 ∧ Blk wr (A + 1 + 1) (ints .u64 (lO zs k)) 46 ∧ Ext w wr) (fun iv _ => 5 - (intOf iv).toNat)
  case atStart => exact ⟨0, by omega, rfl, H1.out, H2.out, H3.out, HE.out⟩
  case round =>
    clear H1 H2 H3 HE
    obtain ⟨k, hk, rfl, hb1, hb2, hb3, hbel⟩ := hrel
    have k0 : (0 : Int) ≤ (k : Int) := Int.natCast_nonneg _
    have H1 := Lib.hid hb1
    have H2 := Lib.hid hb2
    have H3 := Lib.hid hb3
    have HE := Lib.hid hbel
    by_cases hlk : k < 5
    · have k1 : (k : Int) < 5 := by omega
      obtain ⟨d, hd⟩ : ∃ d, d = 26 * k / 8 := ⟨_, rfl⟩
      obtain ⟨s, hs⟩ : ∃ s, s = 26 * k % 8 := ⟨_, rfl⟩
      have d1 : 26 * (k : Int) / 8 = (d : Int) := by omega
      have d2 : Int.tdiv (26 * (k : Int)) 8 = (d : Int) := by rw [Int.tdiv_eq_ediv_of_nonneg (by omega)]; exact d1
      have s1 : 26 * (k : Int) % 8 = (s : Int) := by omega
      have s2 : Int.tmod (26 * (k : Int)) 8 = (s : Int) := by rw [Int.tmod_eq_emod_of_nonneg (by omega)]; exact s1
      have s3 : (s : Int) < 64 := by omega
      have s4 : (0 : Int) ≤ (s : Int) := by omega
      have hcut := cut_from Try.underlying43 Try.sizeOf5 wr A d (by omega)
      have HW := Lib.hid (pword_any A d (17 - d) (17 - d) zs 43 wr hb1 HZ.out (by omega) (by omega))
      have HS : Hid (lO zs (k + 1) = (lO zs k).set k (w4 zs d / 2 ^ s % 67108864)) := Lib.hid (by rw [lO, hd, hs])
      have hwr : 0 ≤ w4 zs d ∧ w4 zs d ≤ 4294967295 := by
        have h0 := HZ.out.2 d
        have h1 := HZ.out.2 (d + 1)
        have h2 := HZ.out.2 (d + 2)
        have h3 := HZ.out.2 (d + 3)
        unfold w4
        omega
      have hdv : 0 ≤ w4 zs d / 2 ^ s ∧ w4 zs d / 2 ^ s ≤ 4294967295 := by
        have hp : (0 : Int) < 2 ^ s := Int.pow_pos (by omega)
        exact ⟨Int.ediv_nonneg hwr.1 (by omega), Int.le_trans (Int.ediv_le_self _ hwr.1) hwr.2⟩
      have m1 := mask26 (w4 zs d / 2 ^ s) hdv.1 (by omega)
      have f1 := hb3.free k
      have q3 := digit_q hb3 (i := k) (by rw [lO_length]; exact hlk)
      generalize (lO zs k).getD k 0 = old at q3
      clear hb1 hb2 hb3 hbel hd hs
      generalize w4 zs d = p at *
      obtain ⟨p0, p1⟩ := hwr
      go_wp2_with fail
      refine HW.out.mono ?_
      rintro e w5 ⟨rfl, rfl⟩
      go_wp2_with fail
      go_roundw
      case rel => exact ⟨k + 1, by omega, by go_num, (H1.out.drewN 1).far (by simp; omega) _, (H2.out.drewN 1).far (by simp) _, by rw [HS.out]; exact (H3.out.drewN 1).seti k _, Below.setCell (HE.out.trans (Ext.drew _)) (by have := HAW.out; simp; omega) _⟩
      case measure => simp [intOf]; omega
    · have hk5 : k = 5 := by omega
      subst hk5
      clear hb1 hb2 hb3 hbel
      have HL : Hid ((lO zs 5).length = 5) := Lib.hid (lO_length zs 5)
      have HR : Hid (limL zs = lO zs 5) := Lib.hid rfl
      generalize lO zs 5 = s at *
      have HI : Hid ((Try.prog.info? 46).map (·.size) = some (ints .u64 s).length) := Lib.hid (lim_size HL.out)
      have HLz : Hid ((ints .u64 s).length = (ints .u64 (List.replicate 5 0)).length) := Lib.hid (by rw [ints_length, HL.out]; rfl)
      go_wp2_with (first | (refine wpList_load_blk rfl _ _ rfl (A + 1 + 1) rfl _ _ _ _ H3.out Try.underlying46 HI.out ?_) | (refine wpList_store_blk rfl _ _ _ rfl (A + 1) (ints .u64 s) rfl rfl _ _ H2.out HLz.out HI.out (ints_one _ _) ?_; intro w5 hb5 hg5))
      refine bodyPost_ret (result_blk rfl _ (A + 1) _ _ _ _ rfl hb5 Try.underlying46 HI.out) rfl ?_
      exact ⟨by rw [HR.out], ext_grown HE.out hg5 (by have := HAW.out; omega)⟩

end Go.Proofs.Ytelenldabjmjbaa

/- The walk of package poly's product of limbs. Laid by wip/gen/gplytim.py. Each theorem names its own conditions. -/
namespace Go.Proofs.Ytelenldabjmjbaa
open Go.RowKit
set_option linter.unusedVariables false
set_option linter.unusedSimpArgs false

theorem lim_build (a b c d e : Int) (w : World) : (Instr.build 46 #[(0, .int .u64 a), (1, .int .u64 b), (2, .int .u64 c), (3, .int .u64 d), (4, .int .u64 e)]).run Try.prog w = .ok (.agg #[.int .u64 a, .int .u64 b, .int .u64 c, .int .u64 d, .int .u64 e]) w := by
  simp [Instr.build, Try.zeroValue46]
  rfl
theorem carL_len (a b c d e : Int) : (carL [a, b, c, d, e]).length = 5 := rfl

set_option maxRecDepth 100000 in
set_option maxHeartbeats 16000000 in
theorem ptimes_any (a b c d e f g h i j : Int) (ba : 0 ≤ a ∧ a ≤ 268435455) (bb : 0 ≤ b ∧ b ≤ 268435455) (bc : 0 ≤ c ∧ c ≤ 268435455) (bd : 0 ≤ d ∧ d ≤ 268435455) (be : 0 ≤ e ∧ e ≤ 268435455)
    (bf : 0 ≤ f ∧ f ≤ 67108863) (bg : 0 ≤ g ∧ g ≤ 67108863) (bh : 0 ≤ h ∧ h ≤ 67108863) (bi : 0 ≤ i ∧ i ≤ 67108863) (bj : 0 ≤ j ∧ j ≤ 67108863) (w : World) :
    Calls Try.prog 25 #[.agg (ints .u64 [a, b, c, d, e]).toArray, .agg (ints .u64 [f, g, h, i, j]).toArray] w fun x w' => x = .returned (.agg (ints .u64 (timL [a, b, c, d, e] [f, g, h, i, j])).toArray) ∧ Below w.heap.size w w' := by
  obtain ⟨v2, hv2⟩ : ∃ v, v = 5 * g := ⟨_, rfl⟩
  have bv2 : 0 ≤ v2 ∧ v2 ≤ 335544315 := by omega
  have Wv2 : Hid (IntKind.u64.wrap (5 * g) = v2) := Lib.hid (by rw [← hv2, IntKind.wrap_u64]; omega)
  obtain ⟨v5, hv5⟩ : ∃ v, v = 5 * h := ⟨_, rfl⟩
  have bv5 : 0 ≤ v5 ∧ v5 ≤ 335544315 := by omega
  have Wv5 : Hid (IntKind.u64.wrap (5 * h) = v5) := Lib.hid (by rw [← hv5, IntKind.wrap_u64]; omega)
  obtain ⟨v8, hv8⟩ : ∃ v, v = 5 * i := ⟨_, rfl⟩
  have bv8 : 0 ≤ v8 ∧ v8 ≤ 335544315 := by omega
  have Wv8 : Hid (IntKind.u64.wrap (5 * i) = v8) := Lib.hid (by rw [← hv8, IntKind.wrap_u64]; omega)
  obtain ⟨v11, hv11⟩ : ∃ v, v = 5 * j := ⟨_, rfl⟩
  have bv11 : 0 ≤ v11 ∧ v11 ≤ 335544315 := by omega
  have Wv11 : Hid (IntKind.u64.wrap (5 * j) = v11) := Lib.hid (by rw [← hv11, IntKind.wrap_u64]; omega)
  obtain ⟨v20, hv20⟩ : ∃ v, v = a * f := ⟨_, rfl⟩
  have bv20 : 0 ≤ v20 ∧ v20 ≤ 18014398173937665 := by rw [hv20]; have := mulB ba bf; omega
  have Wv20 : Hid (IntKind.u64.wrap (a * f) = v20) := Lib.hid (by rw [← hv20, IntKind.wrap_u64]; omega)
  obtain ⟨v24, hv24⟩ : ∃ v, v = b * v11 := ⟨_, rfl⟩
  have bv24 : 0 ≤ v24 ∧ v24 ≤ 90071990869688325 := by rw [hv24]; have := mulB bb bv11; omega
  have Wv24 : Hid (IntKind.u64.wrap (b * v11) = v24) := Lib.hid (by rw [← hv24, IntKind.wrap_u64]; omega)
  obtain ⟨v25, hv25⟩ : ∃ v, v = v20 + v24 := ⟨_, rfl⟩
  have bv25 : 0 ≤ v25 ∧ v25 ≤ 108086389043625990 := by omega
  have Wv25 : Hid (IntKind.u64.wrap (v20 + v24) = v25) := Lib.hid (by rw [← hv25, IntKind.wrap_u64]; omega)
  obtain ⟨v29, hv29⟩ : ∃ v, v = c * v8 := ⟨_, rfl⟩
  have bv29 : 0 ≤ v29 ∧ v29 ≤ 90071990869688325 := by rw [hv29]; have := mulB bc bv8; omega
  have Wv29 : Hid (IntKind.u64.wrap (c * v8) = v29) := Lib.hid (by rw [← hv29, IntKind.wrap_u64]; omega)
  obtain ⟨v30, hv30⟩ : ∃ v, v = v25 + v29 := ⟨_, rfl⟩
  have bv30 : 0 ≤ v30 ∧ v30 ≤ 198158379913314315 := by omega
  have Wv30 : Hid (IntKind.u64.wrap (v25 + v29) = v30) := Lib.hid (by rw [← hv30, IntKind.wrap_u64]; omega)
  obtain ⟨v34, hv34⟩ : ∃ v, v = d * v5 := ⟨_, rfl⟩
  have bv34 : 0 ≤ v34 ∧ v34 ≤ 90071990869688325 := by rw [hv34]; have := mulB bd bv5; omega
  have Wv34 : Hid (IntKind.u64.wrap (d * v5) = v34) := Lib.hid (by rw [← hv34, IntKind.wrap_u64]; omega)
  obtain ⟨v35, hv35⟩ : ∃ v, v = v30 + v34 := ⟨_, rfl⟩
  have bv35 : 0 ≤ v35 ∧ v35 ≤ 288230370783002640 := by omega
  have Wv35 : Hid (IntKind.u64.wrap (v30 + v34) = v35) := Lib.hid (by rw [← hv35, IntKind.wrap_u64]; omega)
  obtain ⟨v39, hv39⟩ : ∃ v, v = e * v2 := ⟨_, rfl⟩
  have bv39 : 0 ≤ v39 ∧ v39 ≤ 90071990869688325 := by rw [hv39]; have := mulB be bv2; omega
  have Wv39 : Hid (IntKind.u64.wrap (e * v2) = v39) := Lib.hid (by rw [← hv39, IntKind.wrap_u64]; omega)
  obtain ⟨v40, hv40⟩ : ∃ v, v = v35 + v39 := ⟨_, rfl⟩
  have bv40 : 0 ≤ v40 ∧ v40 ≤ 378302361652690965 := by omega
  have Wv40 : Hid (IntKind.u64.wrap (v35 + v39) = v40) := Lib.hid (by rw [← hv40, IntKind.wrap_u64]; omega)
  obtain ⟨v45, hv45⟩ : ∃ v, v = a * g := ⟨_, rfl⟩
  have bv45 : 0 ≤ v45 ∧ v45 ≤ 18014398173937665 := by rw [hv45]; have := mulB ba bg; omega
  have Wv45 : Hid (IntKind.u64.wrap (a * g) = v45) := Lib.hid (by rw [← hv45, IntKind.wrap_u64]; omega)
  obtain ⟨v50, hv50⟩ : ∃ v, v = b * f := ⟨_, rfl⟩
  have bv50 : 0 ≤ v50 ∧ v50 ≤ 18014398173937665 := by rw [hv50]; have := mulB bb bf; omega
  have Wv50 : Hid (IntKind.u64.wrap (b * f) = v50) := Lib.hid (by rw [← hv50, IntKind.wrap_u64]; omega)
  obtain ⟨v51, hv51⟩ : ∃ v, v = v45 + v50 := ⟨_, rfl⟩
  have bv51 : 0 ≤ v51 ∧ v51 ≤ 36028796347875330 := by omega
  have Wv51 : Hid (IntKind.u64.wrap (v45 + v50) = v51) := Lib.hid (by rw [← hv51, IntKind.wrap_u64]; omega)
  obtain ⟨v55, hv55⟩ : ∃ v, v = c * v11 := ⟨_, rfl⟩
  have bv55 : 0 ≤ v55 ∧ v55 ≤ 90071990869688325 := by rw [hv55]; have := mulB bc bv11; omega
  have Wv55 : Hid (IntKind.u64.wrap (c * v11) = v55) := Lib.hid (by rw [← hv55, IntKind.wrap_u64]; omega)
  obtain ⟨v56, hv56⟩ : ∃ v, v = v51 + v55 := ⟨_, rfl⟩
  have bv56 : 0 ≤ v56 ∧ v56 ≤ 126100787217563655 := by omega
  have Wv56 : Hid (IntKind.u64.wrap (v51 + v55) = v56) := Lib.hid (by rw [← hv56, IntKind.wrap_u64]; omega)
  obtain ⟨v60, hv60⟩ : ∃ v, v = d * v8 := ⟨_, rfl⟩
  have bv60 : 0 ≤ v60 ∧ v60 ≤ 90071990869688325 := by rw [hv60]; have := mulB bd bv8; omega
  have Wv60 : Hid (IntKind.u64.wrap (d * v8) = v60) := Lib.hid (by rw [← hv60, IntKind.wrap_u64]; omega)
  obtain ⟨v61, hv61⟩ : ∃ v, v = v56 + v60 := ⟨_, rfl⟩
  have bv61 : 0 ≤ v61 ∧ v61 ≤ 216172778087251980 := by omega
  have Wv61 : Hid (IntKind.u64.wrap (v56 + v60) = v61) := Lib.hid (by rw [← hv61, IntKind.wrap_u64]; omega)
  obtain ⟨v65, hv65⟩ : ∃ v, v = e * v5 := ⟨_, rfl⟩
  have bv65 : 0 ≤ v65 ∧ v65 ≤ 90071990869688325 := by rw [hv65]; have := mulB be bv5; omega
  have Wv65 : Hid (IntKind.u64.wrap (e * v5) = v65) := Lib.hid (by rw [← hv65, IntKind.wrap_u64]; omega)
  obtain ⟨v66, hv66⟩ : ∃ v, v = v61 + v65 := ⟨_, rfl⟩
  have bv66 : 0 ≤ v66 ∧ v66 ≤ 306244768956940305 := by omega
  have Wv66 : Hid (IntKind.u64.wrap (v61 + v65) = v66) := Lib.hid (by rw [← hv66, IntKind.wrap_u64]; omega)
  obtain ⟨v71, hv71⟩ : ∃ v, v = a * h := ⟨_, rfl⟩
  have bv71 : 0 ≤ v71 ∧ v71 ≤ 18014398173937665 := by rw [hv71]; have := mulB ba bh; omega
  have Wv71 : Hid (IntKind.u64.wrap (a * h) = v71) := Lib.hid (by rw [← hv71, IntKind.wrap_u64]; omega)
  obtain ⟨v76, hv76⟩ : ∃ v, v = b * g := ⟨_, rfl⟩
  have bv76 : 0 ≤ v76 ∧ v76 ≤ 18014398173937665 := by rw [hv76]; have := mulB bb bg; omega
  have Wv76 : Hid (IntKind.u64.wrap (b * g) = v76) := Lib.hid (by rw [← hv76, IntKind.wrap_u64]; omega)
  obtain ⟨v77, hv77⟩ : ∃ v, v = v71 + v76 := ⟨_, rfl⟩
  have bv77 : 0 ≤ v77 ∧ v77 ≤ 36028796347875330 := by omega
  have Wv77 : Hid (IntKind.u64.wrap (v71 + v76) = v77) := Lib.hid (by rw [← hv77, IntKind.wrap_u64]; omega)
  obtain ⟨v82, hv82⟩ : ∃ v, v = c * f := ⟨_, rfl⟩
  have bv82 : 0 ≤ v82 ∧ v82 ≤ 18014398173937665 := by rw [hv82]; have := mulB bc bf; omega
  have Wv82 : Hid (IntKind.u64.wrap (c * f) = v82) := Lib.hid (by rw [← hv82, IntKind.wrap_u64]; omega)
  obtain ⟨v83, hv83⟩ : ∃ v, v = v77 + v82 := ⟨_, rfl⟩
  have bv83 : 0 ≤ v83 ∧ v83 ≤ 54043194521812995 := by omega
  have Wv83 : Hid (IntKind.u64.wrap (v77 + v82) = v83) := Lib.hid (by rw [← hv83, IntKind.wrap_u64]; omega)
  obtain ⟨v87, hv87⟩ : ∃ v, v = d * v11 := ⟨_, rfl⟩
  have bv87 : 0 ≤ v87 ∧ v87 ≤ 90071990869688325 := by rw [hv87]; have := mulB bd bv11; omega
  have Wv87 : Hid (IntKind.u64.wrap (d * v11) = v87) := Lib.hid (by rw [← hv87, IntKind.wrap_u64]; omega)
  obtain ⟨v88, hv88⟩ : ∃ v, v = v83 + v87 := ⟨_, rfl⟩
  have bv88 : 0 ≤ v88 ∧ v88 ≤ 144115185391501320 := by omega
  have Wv88 : Hid (IntKind.u64.wrap (v83 + v87) = v88) := Lib.hid (by rw [← hv88, IntKind.wrap_u64]; omega)
  obtain ⟨v92, hv92⟩ : ∃ v, v = e * v8 := ⟨_, rfl⟩
  have bv92 : 0 ≤ v92 ∧ v92 ≤ 90071990869688325 := by rw [hv92]; have := mulB be bv8; omega
  have Wv92 : Hid (IntKind.u64.wrap (e * v8) = v92) := Lib.hid (by rw [← hv92, IntKind.wrap_u64]; omega)
  obtain ⟨v93, hv93⟩ : ∃ v, v = v88 + v92 := ⟨_, rfl⟩
  have bv93 : 0 ≤ v93 ∧ v93 ≤ 234187176261189645 := by omega
  have Wv93 : Hid (IntKind.u64.wrap (v88 + v92) = v93) := Lib.hid (by rw [← hv93, IntKind.wrap_u64]; omega)
  obtain ⟨v98, hv98⟩ : ∃ v, v = a * i := ⟨_, rfl⟩
  have bv98 : 0 ≤ v98 ∧ v98 ≤ 18014398173937665 := by rw [hv98]; have := mulB ba bi; omega
  have Wv98 : Hid (IntKind.u64.wrap (a * i) = v98) := Lib.hid (by rw [← hv98, IntKind.wrap_u64]; omega)
  obtain ⟨v103, hv103⟩ : ∃ v, v = b * h := ⟨_, rfl⟩
  have bv103 : 0 ≤ v103 ∧ v103 ≤ 18014398173937665 := by rw [hv103]; have := mulB bb bh; omega
  have Wv103 : Hid (IntKind.u64.wrap (b * h) = v103) := Lib.hid (by rw [← hv103, IntKind.wrap_u64]; omega)
  obtain ⟨v104, hv104⟩ : ∃ v, v = v98 + v103 := ⟨_, rfl⟩
  have bv104 : 0 ≤ v104 ∧ v104 ≤ 36028796347875330 := by omega
  have Wv104 : Hid (IntKind.u64.wrap (v98 + v103) = v104) := Lib.hid (by rw [← hv104, IntKind.wrap_u64]; omega)
  obtain ⟨v109, hv109⟩ : ∃ v, v = c * g := ⟨_, rfl⟩
  have bv109 : 0 ≤ v109 ∧ v109 ≤ 18014398173937665 := by rw [hv109]; have := mulB bc bg; omega
  have Wv109 : Hid (IntKind.u64.wrap (c * g) = v109) := Lib.hid (by rw [← hv109, IntKind.wrap_u64]; omega)
  obtain ⟨v110, hv110⟩ : ∃ v, v = v104 + v109 := ⟨_, rfl⟩
  have bv110 : 0 ≤ v110 ∧ v110 ≤ 54043194521812995 := by omega
  have Wv110 : Hid (IntKind.u64.wrap (v104 + v109) = v110) := Lib.hid (by rw [← hv110, IntKind.wrap_u64]; omega)
  obtain ⟨v115, hv115⟩ : ∃ v, v = d * f := ⟨_, rfl⟩
  have bv115 : 0 ≤ v115 ∧ v115 ≤ 18014398173937665 := by rw [hv115]; have := mulB bd bf; omega
  have Wv115 : Hid (IntKind.u64.wrap (d * f) = v115) := Lib.hid (by rw [← hv115, IntKind.wrap_u64]; omega)
  obtain ⟨v116, hv116⟩ : ∃ v, v = v110 + v115 := ⟨_, rfl⟩
  have bv116 : 0 ≤ v116 ∧ v116 ≤ 72057592695750660 := by omega
  have Wv116 : Hid (IntKind.u64.wrap (v110 + v115) = v116) := Lib.hid (by rw [← hv116, IntKind.wrap_u64]; omega)
  obtain ⟨v120, hv120⟩ : ∃ v, v = e * v11 := ⟨_, rfl⟩
  have bv120 : 0 ≤ v120 ∧ v120 ≤ 90071990869688325 := by rw [hv120]; have := mulB be bv11; omega
  have Wv120 : Hid (IntKind.u64.wrap (e * v11) = v120) := Lib.hid (by rw [← hv120, IntKind.wrap_u64]; omega)
  obtain ⟨v121, hv121⟩ : ∃ v, v = v116 + v120 := ⟨_, rfl⟩
  have bv121 : 0 ≤ v121 ∧ v121 ≤ 162129583565438985 := by omega
  have Wv121 : Hid (IntKind.u64.wrap (v116 + v120) = v121) := Lib.hid (by rw [← hv121, IntKind.wrap_u64]; omega)
  obtain ⟨v126, hv126⟩ : ∃ v, v = a * j := ⟨_, rfl⟩
  have bv126 : 0 ≤ v126 ∧ v126 ≤ 18014398173937665 := by rw [hv126]; have := mulB ba bj; omega
  have Wv126 : Hid (IntKind.u64.wrap (a * j) = v126) := Lib.hid (by rw [← hv126, IntKind.wrap_u64]; omega)
  obtain ⟨v131, hv131⟩ : ∃ v, v = b * i := ⟨_, rfl⟩
  have bv131 : 0 ≤ v131 ∧ v131 ≤ 18014398173937665 := by rw [hv131]; have := mulB bb bi; omega
  have Wv131 : Hid (IntKind.u64.wrap (b * i) = v131) := Lib.hid (by rw [← hv131, IntKind.wrap_u64]; omega)
  obtain ⟨v132, hv132⟩ : ∃ v, v = v126 + v131 := ⟨_, rfl⟩
  have bv132 : 0 ≤ v132 ∧ v132 ≤ 36028796347875330 := by omega
  have Wv132 : Hid (IntKind.u64.wrap (v126 + v131) = v132) := Lib.hid (by rw [← hv132, IntKind.wrap_u64]; omega)
  obtain ⟨v137, hv137⟩ : ∃ v, v = c * h := ⟨_, rfl⟩
  have bv137 : 0 ≤ v137 ∧ v137 ≤ 18014398173937665 := by rw [hv137]; have := mulB bc bh; omega
  have Wv137 : Hid (IntKind.u64.wrap (c * h) = v137) := Lib.hid (by rw [← hv137, IntKind.wrap_u64]; omega)
  obtain ⟨v138, hv138⟩ : ∃ v, v = v132 + v137 := ⟨_, rfl⟩
  have bv138 : 0 ≤ v138 ∧ v138 ≤ 54043194521812995 := by omega
  have Wv138 : Hid (IntKind.u64.wrap (v132 + v137) = v138) := Lib.hid (by rw [← hv138, IntKind.wrap_u64]; omega)
  obtain ⟨v143, hv143⟩ : ∃ v, v = d * g := ⟨_, rfl⟩
  have bv143 : 0 ≤ v143 ∧ v143 ≤ 18014398173937665 := by rw [hv143]; have := mulB bd bg; omega
  have Wv143 : Hid (IntKind.u64.wrap (d * g) = v143) := Lib.hid (by rw [← hv143, IntKind.wrap_u64]; omega)
  obtain ⟨v144, hv144⟩ : ∃ v, v = v138 + v143 := ⟨_, rfl⟩
  have bv144 : 0 ≤ v144 ∧ v144 ≤ 72057592695750660 := by omega
  have Wv144 : Hid (IntKind.u64.wrap (v138 + v143) = v144) := Lib.hid (by rw [← hv144, IntKind.wrap_u64]; omega)
  obtain ⟨v149, hv149⟩ : ∃ v, v = e * f := ⟨_, rfl⟩
  have bv149 : 0 ≤ v149 ∧ v149 ≤ 18014398173937665 := by rw [hv149]; have := mulB be bf; omega
  have Wv149 : Hid (IntKind.u64.wrap (e * f) = v149) := Lib.hid (by rw [← hv149, IntKind.wrap_u64]; omega)
  obtain ⟨v150, hv150⟩ : ∃ v, v = v144 + v149 := ⟨_, rfl⟩
  have bv150 : 0 ≤ v150 ∧ v150 ≤ 90071990869688325 := by omega
  have Wv150 : Hid (IntKind.u64.wrap (v144 + v149) = v150) := Lib.hid (by rw [← hv150, IntKind.wrap_u64]; omega)
  have HT : Hid (timL [a, b, c, d, e] [f, g, h, i, j] = carL [v40, v66, v93, v121, v150]) := Lib.hid (by subst hv150 hv149 hv144 hv143 hv138 hv137 hv132 hv131 hv126 hv121 hv120 hv116 hv115 hv110 hv109 hv104 hv103 hv98 hv93 hv92 hv88 hv87 hv83 hv82 hv77 hv76 hv71 hv66 hv65 hv61 hv60 hv56 hv55 hv51 hv50 hv45 hv40 hv39 hv35 hv34 hv30 hv29 hv25 hv24 hv20 hv11 hv8 hv5 hv2; rfl)
  have HC := Lib.hid (pcarried_any v40 v66 v93 v121 v150 (by omega) (by omega) (by omega) (by omega) (by omega))
  have HLn := Lib.hid (carL_len v40 v66 v93 v121 v150)
  rw [HT.out]
  generalize carL [v40, v66, v93, v121, v150] = C at *
  have HB := Lib.hid (boxes3 w (ints .u64 [a, b, c, d, e]) (ints .u64 [f, g, h, i, j]) (ints .u64 [0, 0, 0, 0, 0]) 46 46 46)
  clear ba bb bc bd be bf bg bh bi bj HT hv2 bv2 hv5 bv5 hv8 bv8 hv11 bv11 hv20 bv20 hv24 bv24 hv25 bv25 hv29 bv29 hv30 bv30 hv34 bv34 hv35 bv35 hv39 bv39 hv40 bv40 hv45 bv45 hv50 bv50 hv51 bv51 hv55 bv55 hv56 bv56 hv60 bv60 hv61 bv61 hv65 bv65 hv66 bv66 hv71 bv71 hv76 bv76 hv77 bv77 hv82 bv82 hv83 bv83 hv87 bv87 hv88 bv88 hv92 bv92 hv93 bv93 hv98 bv98 hv103 bv103 hv104 bv104 hv109 bv109 hv110 bv110 hv115 bv115 hv116 bv116 hv120 bv120 hv121 bv121 hv126 bv126 hv131 bv131 hv132 bv132 hv137 bv137 hv138 bv138 hv143 bv143 hv144 bv144 hv149 bv149 hv150 bv150
  go_enter Try.func25, Try.ntmps25
  go_upto_region 1 with (fail)
  obtain ⟨H1, H2, H3, HE⟩ := HB.out
  change Code.wp _ _ _ _ (((w.alloc (.cells (ints .u64 [a, b, c, d, e]).toArray 46)).alloc (.cells (ints .u64 [f, g, h, i, j]).toArray 46)).alloc (.cells (ints .u64 [0, 0, 0, 0, 0]).toArray 46))
  generalize ((w.alloc (.cells (ints .u64 [a, b, c, d, e]).toArray 46)).alloc (.cells (ints .u64 [f, g, h, i, j]).toArray 46)).alloc (.cells (ints .u64 [0, 0, 0, 0, 0]).toArray 46) = wa at *
  obtain ⟨A, hA⟩ : ∃ A, A = w.heap.size := ⟨_, rfl⟩
  have HAW : Hid (w.heap.size ≤ A) := Lib.hid (by omega)
  rw [← hA] at H1 H2 H3 ⊢
  have H1 := Lib.hid H1
  have H2 := Lib.hid H2
  have H3 := Lib.hid H3
  have HE : Hid (Ext w wa) := Lib.hid HE
  clear hA HB
  refine wp_region_from 16 0 16 rfl (by kernel_rfl) (by kernel_rfl) (fun d v c a w h => by cases d <;> exact h) (by kernel_rfl) ?_
  refine det_index _ _ _ _ (A + 1) 5 1 (by rfl) rfl rfl rfl Try.underlying46 (by omega) (Try.sizeOf44) ?_
  simp only [Act.put, List.setIfInBounds_toArray, List.set_cons_zero, List.set_cons_succ]
  refine det_cell _ _ (A + 1) 1 (.int .u64 g) (by rfl) rfl rfl (fun w hw => (ext_blk H2.out hw).cell 1) (Try.isAgg44) ?_
  simp only [Act.put, List.setIfInBounds_toArray, List.set_cons_zero, List.set_cons_succ]
  refine det_mul _ _ _ _ _ _ _ v2 (by rfl) rfl rfl rfl Wv2.out ?_
  simp only [Act.put, List.setIfInBounds_toArray, List.set_cons_zero, List.set_cons_succ]
  refine det_index _ _ _ _ (A + 1) 5 2 (by rfl) rfl rfl rfl Try.underlying46 (by omega) (Try.sizeOf44) ?_
  simp only [Act.put, List.setIfInBounds_toArray, List.set_cons_zero, List.set_cons_succ]
  refine det_cell _ _ (A + 1) 2 (.int .u64 h) (by rfl) rfl rfl (fun w hw => (ext_blk H2.out hw).cell 2) (Try.isAgg44) ?_
  simp only [Act.put, List.setIfInBounds_toArray, List.set_cons_zero, List.set_cons_succ]
  refine det_mul _ _ _ _ _ _ _ v5 (by rfl) rfl rfl rfl Wv5.out ?_
  simp only [Act.put, List.setIfInBounds_toArray, List.set_cons_zero, List.set_cons_succ]
  refine det_index _ _ _ _ (A + 1) 5 3 (by rfl) rfl rfl rfl Try.underlying46 (by omega) (Try.sizeOf44) ?_
  simp only [Act.put, List.setIfInBounds_toArray, List.set_cons_zero, List.set_cons_succ]
  refine det_cell _ _ (A + 1) 3 (.int .u64 i) (by rfl) rfl rfl (fun w hw => (ext_blk H2.out hw).cell 3) (Try.isAgg44) ?_
  simp only [Act.put, List.setIfInBounds_toArray, List.set_cons_zero, List.set_cons_succ]
  refine det_mul _ _ _ _ _ _ _ v8 (by rfl) rfl rfl rfl Wv8.out ?_
  simp only [Act.put, List.setIfInBounds_toArray, List.set_cons_zero, List.set_cons_succ]
  refine det_index _ _ _ _ (A + 1) 5 4 (by rfl) rfl rfl rfl Try.underlying46 (by omega) (Try.sizeOf44) ?_
  simp only [Act.put, List.setIfInBounds_toArray, List.set_cons_zero, List.set_cons_succ]
  refine det_cell _ _ (A + 1) 4 (.int .u64 j) (by rfl) rfl rfl (fun w hw => (ext_blk H2.out hw).cell 4) (Try.isAgg44) ?_
  simp only [Act.put, List.setIfInBounds_toArray, List.set_cons_zero, List.set_cons_succ]
  refine det_mul _ _ _ _ _ _ _ v11 (by rfl) rfl rfl rfl Wv11.out ?_
  simp only [Act.put, List.setIfInBounds_toArray, List.set_cons_zero, List.set_cons_succ]
  refine det_assign _ (.int .u64 v2) (by rfl) rfl rfl ?_
  simp only [Act.put, List.setIfInBounds_toArray, List.set_cons_zero, List.set_cons_succ]
  refine det_assign _ (.int .u64 v5) (by rfl) rfl rfl ?_
  simp only [Act.put, List.setIfInBounds_toArray, List.set_cons_zero, List.set_cons_succ]
  refine det_assign _ (.int .u64 v8) (by rfl) rfl rfl ?_
  simp only [Act.put, List.setIfInBounds_toArray, List.set_cons_zero, List.set_cons_succ]
  refine det_assign _ (.int .u64 v11) (by rfl) rfl rfl ?_
  simp only [Act.put, List.setIfInBounds_toArray, List.set_cons_zero, List.set_cons_succ]
  refine det_nil (end_none (by kernel_rfl) (fun w1 hw1 => ?_))
  have H1 := Lib.hid (ext_blk H1.out hw1)
  have H2 := Lib.hid (ext_blk H2.out hw1)
  have H3 := Lib.hid (ext_blk H3.out hw1)
  have HE := Lib.hid (HE.out.trans hw1)
  clear hw1
  have qx0 := H1.out.cell 0
  have qy0 := H2.out.cell 0
  have qx1 := H1.out.cell 1
  have qy1 := H2.out.cell 1
  have qx2 := H1.out.cell 2
  have qy2 := H2.out.cell 2
  have qx3 := H1.out.cell 3
  have qy3 := H2.out.cell 3
  have qx4 := H1.out.cell 4
  have qy4 := H2.out.cell 4
  simp only [ints, List.map_cons, List.map_nil, List.getElem?_cons_zero, List.getElem?_cons_succ] at qx0 qy0 qx1 qy1 qx2 qy2 qx3 qy3 qx4 qy4
  have Tv20 := Wv20.out
  have Uv20 := Tv20
  rw [IntKind.wrap_u64] at Uv20
  have Tv24 := Wv24.out
  have Uv24 := Tv24
  rw [IntKind.wrap_u64] at Uv24
  have Tv25 := Wv25.out
  have Uv25 := Tv25
  rw [IntKind.wrap_u64] at Uv25
  have Tv29 := Wv29.out
  have Uv29 := Tv29
  rw [IntKind.wrap_u64] at Uv29
  have Tv30 := Wv30.out
  have Uv30 := Tv30
  rw [IntKind.wrap_u64] at Uv30
  have Tv34 := Wv34.out
  have Uv34 := Tv34
  rw [IntKind.wrap_u64] at Uv34
  have Tv35 := Wv35.out
  have Uv35 := Tv35
  rw [IntKind.wrap_u64] at Uv35
  have Tv39 := Wv39.out
  have Uv39 := Tv39
  rw [IntKind.wrap_u64] at Uv39
  have Tv40 := Wv40.out
  have Uv40 := Tv40
  rw [IntKind.wrap_u64] at Uv40
  have Tv45 := Wv45.out
  have Uv45 := Tv45
  rw [IntKind.wrap_u64] at Uv45
  have Tv50 := Wv50.out
  have Uv50 := Tv50
  rw [IntKind.wrap_u64] at Uv50
  have Tv51 := Wv51.out
  have Uv51 := Tv51
  rw [IntKind.wrap_u64] at Uv51
  have Tv55 := Wv55.out
  have Uv55 := Tv55
  rw [IntKind.wrap_u64] at Uv55
  have Tv56 := Wv56.out
  have Uv56 := Tv56
  rw [IntKind.wrap_u64] at Uv56
  have Tv60 := Wv60.out
  have Uv60 := Tv60
  rw [IntKind.wrap_u64] at Uv60
  have Tv61 := Wv61.out
  have Uv61 := Tv61
  rw [IntKind.wrap_u64] at Uv61
  have Tv65 := Wv65.out
  have Uv65 := Tv65
  rw [IntKind.wrap_u64] at Uv65
  have Tv66 := Wv66.out
  have Uv66 := Tv66
  rw [IntKind.wrap_u64] at Uv66
  have Tv71 := Wv71.out
  have Uv71 := Tv71
  rw [IntKind.wrap_u64] at Uv71
  have Tv76 := Wv76.out
  have Uv76 := Tv76
  rw [IntKind.wrap_u64] at Uv76
  have Tv77 := Wv77.out
  have Uv77 := Tv77
  rw [IntKind.wrap_u64] at Uv77
  have Tv82 := Wv82.out
  have Uv82 := Tv82
  rw [IntKind.wrap_u64] at Uv82
  have Tv83 := Wv83.out
  have Uv83 := Tv83
  rw [IntKind.wrap_u64] at Uv83
  have Tv87 := Wv87.out
  have Uv87 := Tv87
  rw [IntKind.wrap_u64] at Uv87
  have Tv88 := Wv88.out
  have Uv88 := Tv88
  rw [IntKind.wrap_u64] at Uv88
  have Tv92 := Wv92.out
  have Uv92 := Tv92
  rw [IntKind.wrap_u64] at Uv92
  have Tv93 := Wv93.out
  have Uv93 := Tv93
  rw [IntKind.wrap_u64] at Uv93
  have Tv98 := Wv98.out
  have Uv98 := Tv98
  rw [IntKind.wrap_u64] at Uv98
  have Tv103 := Wv103.out
  have Uv103 := Tv103
  rw [IntKind.wrap_u64] at Uv103
  have Tv104 := Wv104.out
  have Uv104 := Tv104
  rw [IntKind.wrap_u64] at Uv104
  have Tv109 := Wv109.out
  have Uv109 := Tv109
  rw [IntKind.wrap_u64] at Uv109
  have Tv110 := Wv110.out
  have Uv110 := Tv110
  rw [IntKind.wrap_u64] at Uv110
  have Tv115 := Wv115.out
  have Uv115 := Tv115
  rw [IntKind.wrap_u64] at Uv115
  have Tv116 := Wv116.out
  have Uv116 := Tv116
  rw [IntKind.wrap_u64] at Uv116
  have Tv120 := Wv120.out
  have Uv120 := Tv120
  rw [IntKind.wrap_u64] at Uv120
  have Tv121 := Wv121.out
  have Uv121 := Tv121
  rw [IntKind.wrap_u64] at Uv121
  have Tv126 := Wv126.out
  have Uv126 := Tv126
  rw [IntKind.wrap_u64] at Uv126
  have Tv131 := Wv131.out
  have Uv131 := Tv131
  rw [IntKind.wrap_u64] at Uv131
  have Tv132 := Wv132.out
  have Uv132 := Tv132
  rw [IntKind.wrap_u64] at Uv132
  have Tv137 := Wv137.out
  have Uv137 := Tv137
  rw [IntKind.wrap_u64] at Uv137
  have Tv138 := Wv138.out
  have Uv138 := Tv138
  rw [IntKind.wrap_u64] at Uv138
  have Tv143 := Wv143.out
  have Uv143 := Tv143
  rw [IntKind.wrap_u64] at Uv143
  have Tv144 := Wv144.out
  have Uv144 := Tv144
  rw [IntKind.wrap_u64] at Uv144
  have Tv149 := Wv149.out
  have Uv149 := Tv149
  rw [IntKind.wrap_u64] at Uv149
  have Tv150 := Wv150.out
  have Uv150 := Tv150
  rw [IntKind.wrap_u64] at Uv150
  go_wp2_with fail
  refine (HC.out _).mono ?_
  rintro x w2 ⟨rfl, hb⟩
  have H3 := Lib.hid (ext_blk H3.out hb)
  have HE := Lib.hid (HE.out.trans hb)
  clear hb
  have HI : Hid ((Try.prog.info? 46).map (·.size) = some (ints .u64 C).length) := Lib.hid (lim_size HLn.out)
  have HLz : Hid ((ints .u64 C).length = (ints .u64 [0, 0, 0, 0, 0]).length) := Lib.hid (by rw [ints_length, HLn.out]; rfl)
  go_wp2_with (refine wpList_store_blk rfl _ _ _ rfl (A + 1 + 1) (ints .u64 C) rfl rfl _ _ H3.out HLz.out HI.out (ints_one _ _) ?_; intro w5 hb5 hg5)
  refine bodyPost_ret (result_blk rfl _ (A + 1 + 1) _ _ _ _ rfl hb5 Try.underlying46 HI.out) rfl ?_
  exact ⟨rfl, ext_grown HE.out hg5 (by have := HAW.out; omega)⟩

end Go.Proofs.Ytelenldabjmjbaa

/- The walk of package pieces' move: the next bytes of the open string, laid over a block. Each theorem names its own conditions. -/
namespace Go.Proofs.Ytelenldabjmjbaa
open Go.RowKit
set_option linter.unusedVariables false
set_option linter.unusedSimpArgs false

theorem splice_map (l c : List UInt8) (f : Nat) : splice (l.map bval) f (c.map bval) = (l.take f ++ c ++ l.drop (f + c.length)).map bval := by
  unfold splice
  simp
theorem num_one : (Try.prog.info? 5).map (·.size) = some 1 := by kernel_rfl
/-- A slice's length. -/
def lenV : Value → Nat
  | .slice _ n _ => n
  | _ => 0
theorem lenV_row {w : World} {v : Value} {vs : List Value} (h : Row1 w v vs) : lenV v = vs.length := by
  obtain ⟨a, cap, rfl, _⟩ := h
  rfl
theorem front_take (xr : List UInt8) (n : Nat) : ∃ c : List UInt8, c.length = Nat.min xr.length n ∧ xr = c ++ xr.drop c.length ∧ c = xr.take n := by
  refine ⟨xr.take n, by rw [List.length_take, Nat.min_comm], ?_, rfl⟩
  rcases Nat.le_total n xr.length with h | h
  · rw [List.length_take, Nat.min_eq_left h, List.take_append_drop]
  · rw [List.take_of_length_le h, List.drop_length, List.append_nil]

/-- The blocks ahead of Bo, but for M, are as they were. -/
def But (M Bo : Nat) (w w' : World) : Prop := ∀ k, k < Bo → k ≠ M → w'.heap[k]? = w.heap[k]?
theorem But.refl (M Bo : Nat) (w : World) : But M Bo w w := fun _ _ _ => rfl
theorem But.trans {M Bo : Nat} {a b c : World} (h : But M Bo a b) (g : But M Bo b c) : But M Bo a c := fun k hk hM => (g k hk hM).trans (h k hk hM)
theorem But.set {M Bo : Nat} {a b : World} (h : But M Bo a b) {p : Addr} (hp : p.block = M) (v : Value) : But M Bo a (b.setCell p v) := fun k hk hM => (heap_setCell_other b p k v (by rw [hp]; exact hM)).trans (h k hk hM)
theorem But.drew {M Bo : Nat} {a b : World} (h : But M Bo a b) : But M Bo a b.drew := h
theorem But.of_below {M Bo : Nat} {a b : World} (h : Below Bo a b) : But M Bo a b := fun k hk _ => h.block k hk

set_option maxRecDepth 100000 in
set_option maxHeartbeats 4000000 in
theorem move_cap (w0 w : World) (M Bo f K C : Nat) (ov bv : Value) (o l : List UInt8) (T : TypeId) (hM : Blk w M [ov, bv] 49) (ho : Row1 w0 ov (o.map bval)) (hl : Blk w Bo (l.map bval) T) (hlen : l.length = C) (hf : f < K) (hKC : K ≤ C) (hK : C ≤ 128)
    (he : Ext w0 w) (h0 : w0.heap.size ≤ M) (hMB : M < Bo) :
    Calls Try.prog 27 #[.pointer (some ⟨M, 0, none⟩), .slice (some ⟨Bo, f, none⟩) (K - f) (C - f)] w fun e w' =>
      ∃ ov' c, c = o.take (K - f) ∧ e = .returned (.int .i64 (c.length : Int)) ∧ Blk w' M [ov', bv] 49 ∧ Row1 w0 ov' ((o.drop c.length).map bval) ∧ Blk w' Bo ((l.take f ++ c ++ l.drop (f + c.length)).map bval) T ∧ Below M w w' ∧ But M Bo w w' := by
  obtain ⟨c, hcl, hcx, hct⟩ := front_take o (K - f)
  have hcm : c.length ≤ o.length := by rw [hcl]; exact Nat.min_le_left _ _
  have hcm2 : c.length ≤ K - f := by rw [hcl]; exact Nat.min_le_right _ _
  obtain ⟨v', hv', hrun⟩ := row_cut Try.underlying27 Try.sizeOf5 ho c.length (by rw [List.length_map]; exact hcm)
  rw [← List.map_drop] at hv'
  obtain ⟨a3, cap3, rfl, t1, t2, t3, t4⟩ := ho
  rw [List.length_map] at t1 hrun hM
  unfold maxLen at t2
  have HCS : Hid (0 < (c.map bval).length → some (⟨Bo, f, none⟩ : Addr) = some ⟨Bo, f, none⟩ ∧ ∃ ad, a3 = some ad ∧ ∀ (j : Nat) (v : Value), (c.map bval)[j]? = some v → w.cell? (ad.add j) = some v) := Lib.hid (fun h => by
    rw [List.length_map] at h
    obtain ⟨b3, off3, rfl, t5, t6⟩ := t4 (by intro e; have h := congrArg List.length e; rw [List.length_map] at h; simp only [List.length_nil] at h; omega)
    refine ⟨rfl, _, rfl, fun j v hj => ?_⟩
    have hjl : j < c.length := by
      rcases Nat.lt_or_ge j c.length with h | h
      · exact h
      · rw [List.getElem?_eq_none (by rw [List.length_map]; exact h)] at hj; cases hj
    have e := t6 j (by rw [List.length_map]; omega)
    have e2 : (o.map bval)[j]? = (c.map bval)[j]? := by rw [hcx, List.map_append, List.getElem?_append_left (by rw [List.length_map]; exact hjl)]
    rw [WideShapes.add_plain, ← hj, ← e2, ← e]
    exact he.cell (p := ⟨b3, off3 + j, none⟩) t5)
  have HBO := Lib.hid (hl : w.heap[Bo]? = some (.cells (l.map bval).toArray T (0, 0)))
  have HCL : Hid ((c.map bval).length = Nat.min o.length (K - f)) := Lib.hid (by rw [List.length_map, hcl])
  have HFT2 : Hid (f + (c.map bval).length ≤ (l.map bval).length) := Lib.hid (by rw [List.length_map, List.length_map, hlen]; omega)
  have HBR := Lib.hid (Below.refl M w)
  have HSP := Lib.hid (splice_map l c f)
  have HM := Lib.hid hM
  obtain ⟨a4, cap4, rfl, _⟩ := id hv'
  have HV := Lib.hid hv'
  generalize ((o.drop c.length).map bval).length = n4 at *
  have HCT := Lib.hid hct
  have c0 := hM.cell 0
  have f0 := hM.free 0
  simp only [List.getElem?_cons_zero, List.getElem?_cons_succ] at c0
  have hcm3 : (c.length : Int) ≤ (o.length : Int) := by omega
  have hc0 : (0 : Int) ≤ (c.length : Int) := Int.natCast_nonneg _
  have hMlt := hM.lt
  clear hM hl hv' hcx hct t3 t4 he hcl
  go_enter Try.func27, Try.ntmps27
  go_upto_region 2 with (refine wpList_copy_splice rfl (.tmp 6) (.tmp 10) 27 27 rfl 5 Try.underlying27 num_one (some ⟨Bo, f, none⟩) a3 (K - f) (C - f) o.length cap3 rfl rfl Bo f (l.map bval) T HBO.out (c.map bval) HCL.out HCS.out HFT2.out (bval_one _) Bo w (Below.refl _ w) (Nat.le_refl _) ?_; intro w5 hc5 hb5)
  have hg5 := hc5.out
  rw [HSP.out] at hg5
  have HM5 := Lib.hid (HM.out.same (hb5.block M (by omega)))
  have HO5 : Hid (Blk w5 Bo ((l.take f ++ c ++ l.drop (f + c.length)).map bval) T) := Lib.hid hg5
  have HE5 := Lib.hid (hb5.mono (Nat.le_of_lt hMB))
  have HU5 : Hid (But M Bo w w5) := Lib.hid (But.of_below hb5)
  have c0 := HM5.out.cell 0
  have f0 := HM5.out.free 0
  simp only [List.getElem?_cons_zero, List.getElem?_cons_succ] at c0
  clear hc5 hb5 hg5 HCS HBO HCL HFT2 HBR HSP HM
  go_wp2_with fail
  go_ret
  exact ⟨_, c, HCT.out, rfl, HM5.out.set 0 _, HV.out, HO5.out.far (by simp; omega) _, Below.setCell HE5.out (by simp) _, HU5.out.set rfl _⟩

end Go.Proofs.Ytelenldabjmjbaa

/- A scope in which the run jumps back to one label: what stands at each jump is proved to serve once, and the way to the label uses it. Nothing here speaks of a program. Each theorem names its own conditions. -/
namespace Go.Proofs.Ytelenldabjmjbaa
set_option linter.unusedVariables false

section
variable {P : Program} {a : Act} {w : World} {Q : Exit → Act → World → Prop}
theorem Exit.jump_mono {l : Nat} {J J' : Act → World → Prop} (h : ∀ a w, J a w → J' a w) : ∀ {e : Exit} {a : Act} {w : World}, Exit.jump l J Q e a w → Exit.jump l J' Q e a w
  | .goto _, _, _, hh => ⟨hh.1, h _ _ hh.2⟩
  | .normal, _, _, hh => hh
  | .exit _, _, _, hh => hh
  | .ret, _, _, hh => hh
  | .panic _, _, _, hh => hh
  | .outgrown, _, _, hh => hh
theorem wp_scope_back {c rest : Code} (l : Nat) (J : Act → World → Prop) (μ : Act → World → Nat) (hf : findLabel c l = some rest)
    (first : (∀ a w, J a w → rest.wp P (Exit.jump l J Q) a w) → c.wp P (Exit.jump l J Q) a w)
    (pass : ∀ a w, J a w → rest.wp P (Exit.jump l (fun a' w' => J a' w' ∧ μ a' w' < μ a w) Q) a w) : (Code.scope c).wp P Q a w :=
  wp_scope_jumps l J μ hf (first fun a w h => Code.wp_mono (fun e a w h => Exit.jump_mono (fun _ _ h => h.1) h) (pass a w h)) pass
/-- The same, where what stands behind the label begins with nothing. -/
theorem wp_scope_back0 {c rest : Code} (l : Nat) (J : Act → World → Prop) (μ : Act → World → Nat) (hf : findLabel c l = some (Code.skip.seq rest))
    (first : (∀ a w, J a w → rest.wp P (Exit.jump l J Q) a w) → c.wp P (Exit.jump l J Q) a w)
    (pass : ∀ a w, J a w → rest.wp P (Exit.jump l (fun a' w' => J a' w' ∧ μ a' w' < μ a w) Q) a w) : (Code.scope c).wp P Q a w :=
  wp_scope_jumps l J μ hf (first fun a w h => Code.wp_mono (fun e a w h => Exit.jump_mono (fun _ _ h => h.1) h) (pass a w h)) fun a w h => wp_seq (wp_skip (pass a w h))
end

end Go.Proofs.Ytelenldabjmjbaa

/- The walk of package pieces' Fill: a block is filled with what is still to be read. Each theorem names its own conditions. -/
namespace Go.Proofs.Ytelenldabjmjbaa
open Go.RowKit
set_option linter.unusedVariables false
set_option linter.unusedSimpArgs false

/-- A message in block M of which r is still to be read; its strings lie in w0. -/
def MsgSt (w0 w : World) (M : Nat) (r : List UInt8) : Prop :=
  ∃ (ov bv : Value) (o : List UInt8) (ls : List (List UInt8)), Blk w M [ov, bv] 49 ∧ Row1 w0 ov (o.map bval) ∧ RowB w0 bv ls ∧ r = o ++ ls.flatten
theorem MsgSt.same {w0 w w' : World} {M : Nat} {r : List UInt8} (h : MsgSt w0 w M r) (hb : w'.heap[M]? = w.heap[M]?) : MsgSt w0 w' M r := by
  obtain ⟨ov, bv, o, ls, h1, h2⟩ := h
  exact ⟨ov, bv, o, ls, h1.same hb, h2⟩
theorem MsgSt.lt {w0 w : World} {M : Nat} {r : List UInt8} (h : MsgSt w0 w M r) : M < w.heap.size := by
  obtain ⟨ov, bv, o, ls, h1, h2⟩ := h
  exact h1.lt
/-- What is left behind the first of a list of strings. -/
theorem rowB_tail {w : World} {v : Value} {l : List UInt8} {ls : List (List UInt8)} (h : RowB w v (l :: ls)) :
    ∃ (b off cap : Nat) (x v' : Value), v = .slice (some ⟨b, off, none⟩) (ls.length + 1) cap ∧ cap ≤ maxLen ∧ b < w.heap.size ∧ w.cell? ⟨b, off, none⟩ = some x ∧ Row1 w x (l.map bval) ∧ RowB w v' ls ∧
      ∀ w', (Instr.sliceAt 24 v (some (.int .i64 1)) none none).run Try.prog w' = .ok v' w' := by
  obtain ⟨vals, hr, hlen, hx⟩ := h
  match vals, hlen with
  | x :: vals, hlen =>
    obtain ⟨v', hv', hrun⟩ := row_cut Try.underlying24 Try.sizeOf27 hr 1 (by simp)
    obtain ⟨a, cap, rfl, h1, h2, h3, h4⟩ := hr
    obtain ⟨b, off, rfl, h5, h6⟩ := h4 (by simp)
    have hl : vals.length = ls.length := by simpa using hlen
    refine ⟨b, off, cap, x, v', by rw [List.length_cons, hl], h2, h5, by simpa using h6 0 (by simp), hx 0 x l rfl rfl, ⟨vals, hv', hl, fun i y k hy hk => hx (i + 1) y k (by simpa using hy) (by simpa using hk)⟩, hrun⟩
theorem rowB_form {w : World} {v : Value} {ls : List (List UInt8)} (h : RowB w v ls) : ∃ a cap, v = .slice a ls.length cap ∧ cap ≤ maxLen ∧ ls.length ≤ cap := by
  obtain ⟨vals, hr, hlen, hx⟩ := h
  obtain ⟨a, cap, rfl, h1, h2, _⟩ := hr
  exact ⟨a, cap, by rw [hlen], h2, by omega⟩
theorem row_slice {w : World} {v : Value} {l : List Value} (h : Row1 w v l) : ∃ a n cap, v = .slice a n cap := by
  obtain ⟨a, cap, rfl, _⟩ := h
  exact ⟨_, _, _, rfl⟩
def behindAt (w : World) (M : Nat) : Nat := ((w.cell? ⟨M, 1, none⟩).map lenV).getD 0
theorem cut_row (w : World) (Bo p K C : Nat) (hp : p < K) (hKC : K ≤ C) : (Instr.sliceAt 27 (.slice (some ⟨Bo, 0, none⟩) K C) (some (.int .i64 (p : Int))) none none).run Try.prog w = .ok (.slice (some ⟨Bo, p, none⟩) (K - p) (C - p)) w := by
  have e2 : Try.prog.elem 27 = 5 := by unfold Program.elem; rw [Try.underlying27]
  have ht2 : Try.prog.underlying 27 = some (.slice (Try.prog.elem 27)) := by rw [e2]; exact Try.underlying27
  rw [run_sliceAt_slice w 27 _ _ _ _ ht2, run_slice_l (ht := ht2) (kl := .i64) (l := (p : Int)) (h0 := by omega) (h1 := by omega), e2, Try.sizeOf5]
  simp [sliced, WideShapes.add_plain, show ¬ C = p by omega]

/-- What Fill owes. -/
def FillSaid (w0 w w' : World) (M Bo K : Nat) (r l : List UInt8) (T : TypeId) (e : Ending) : Prop :=
  ∃ c, c = r.take K ∧ e = .returned (.int .i64 (c.length : Int)) ∧ MsgSt w0 w' M (r.drop K) ∧ Blk w' Bo ((c ++ l.drop c.length).map bval) T ∧ Below M w w'
/-- One more string is moved. -/
theorem fill_next {r c l1 : List UInt8} {ls : List (List UInt8)} {c2 : List UInt8} {K : Nat} (h : r = c ++ ([] ++ (l1 :: ls).flatten)) (hc : c.length ≤ K) (h2 : c2 = l1.take (K - c.length)) :
    r = (c ++ c2) ++ (l1.drop c2.length ++ ls.flatten) ∧ (c ++ c2).length ≤ K ∧ ((c ++ c2).length < K → l1.drop c2.length = []) := by
  refine ⟨?_, ?_, ?_⟩
  · rw [h, List.nil_append, List.flatten_cons, List.append_assoc]
    congr 1
    rw [← List.append_assoc]
    congr 1
    rw [h2]
    rcases Nat.le_total (K - c.length) l1.length with h | h
    · rw [List.length_take, Nat.min_eq_left h, List.take_append_drop]
    · rw [List.take_of_length_le h, List.drop_length, List.append_nil]
  · rw [List.length_append, h2, List.length_take]; omega
  · intro h3
    rw [List.length_append, h2, List.length_take] at h3
    refine List.drop_eq_nil_of_le ?_
    rw [h2, List.length_take]
    omega
theorem fill_row (c c2 l : List UInt8) : ((c ++ l.drop c.length).take c.length ++ c2 ++ (c ++ l.drop c.length).drop (c.length + c2.length)) = (c ++ c2) ++ l.drop (c ++ c2).length := by
  rw [List.take_append_of_le_length (Nat.le_refl _), List.take_length, List.length_append]
  congr 1
  rw [List.drop_append, List.drop_eq_nil_of_le (by omega), List.nil_append, List.drop_drop]
  congr 1
  omega

set_option maxRecDepth 100000 in
set_option maxHeartbeats 8000000 in
theorem fill_cap (w0 w : World) (M Bo K C : Nat) (r l : List UInt8) (T : TypeId) (hS : MsgSt w0 w M r) (hl : Blk w Bo (l.map bval) T) (hlen : l.length = C) (hK0 : 0 < K) (hKC : K ≤ C) (hK : C ≤ 128)
    (he : Ext w0 w) (h0 : w0.heap.size ≤ M) (hMB : M < Bo) :
    Calls Try.prog 24 #[.pointer (some ⟨M, 0, none⟩), .slice (some ⟨Bo, 0, none⟩) K C] w fun e w' => FillSaid w0 w w' M Bo K r l T e ∧ But M Bo w w' := by
  obtain ⟨ov, bv, o, ls, hM, ho, hb, hr⟩ := hS
  have hmv := move_cap w0 w M Bo 0 K C ov bv o l T hM ho hl hlen hK0 hKC hK he h0 hMB
  rw [Nat.sub_zero, Nat.sub_zero] at hmv
  have HMV := Lib.hid hmv
  have HB := Lib.hid hb
  have HR := Lib.hid hr
  have HE0 := Lib.hid he
  have HL := Lib.hid hlen
  clear hmv hb hr hM ho hl he hlen
  go_enter Try.func24, Try.ntmps24
  go_wp2_with fail
  refine HMV.out.mono ?_
  rintro e w1 ⟨ov1, c, hc, rfl, hM, ho, hB, hbel, hbut⟩
  have HU1 := Lib.hid hbut
  have HM1 := Lib.hid hM
  have HO1 := Lib.hid ho
  have HB1 : Hid (Blk w1 Bo ((c ++ l.drop c.length).map bval) T) := Lib.hid (by simpa using hB)
  have HE1 := Lib.hid hbel
  have HC := Lib.hid hc
  clear hM ho hB hbel hc HMV hbut
  have HREL : Hid (r = c ++ (o.drop c.length ++ ls.flatten) ∧ c.length ≤ K ∧ (c.length < K → o.drop c.length = [])) := Lib.hid (by
    refine ⟨?_, ?_, ?_⟩
    · rw [HR.out, HC.out]
      rcases Nat.le_total K o.length with h | h
      · rw [List.length_take, Nat.min_eq_left h, ← List.append_assoc, List.take_append_drop]
      · rw [List.take_of_length_le h, List.drop_length, List.nil_append]
    · rw [HC.out, List.length_take]; exact Nat.min_le_left _ _
    · intro h
      rw [HC.out, List.length_take] at h
      refine List.drop_eq_nil_of_le ?_
      rw [HC.out, List.length_take]
      show o.length ≤ min K o.length
      omega)
  go_wp2_with fail
  go_loopw [5] (fun i5 wr => ∃ (c o : List UInt8) (ls : List (List UInt8)) (ov bv : Value), i5 = .int .i64 (c.length : Int) ∧ (r = c ++ (o ++ ls.flatten) ∧ c.length ≤ K ∧ (c.length < K → o = [])) ∧ Blk wr M [ov, bv] 49 ∧ Row1 w0 ov (o.map bval) ∧ RowB w0 bv ls ∧ Blk wr Bo ((c ++ l.drop c.length).map bval) T ∧ Below M w wr ∧ But M Bo w wr) (fun _ wr => behindAt wr M)
  case atStart => exact ⟨c, o.drop c.length, ls, ov1, bv, rfl, HREL.out, HM1.out, HO1.out, HB.out, HB1.out, HE1.out, HU1.out⟩
  case round =>
    clear HREL HM1 HO1 HB HB1 HE1 HC HR HU1
    obtain ⟨c, o, ls, ov, bv, rfl, ⟨hr, hcK, hco⟩, hM, ho, hb, hB, hbel, hbut⟩ := hrel
    have HBU := Lib.hid hbut
    clear hbut
    have c0 := hM.cell 0
    have c1 := hM.cell 1
    have f0 := hM.free 0
    have f1 := hM.free 1
    simp only [List.getElem?_cons_zero, List.getElem?_cons_succ] at c0 c1
    by_cases hlt : c.length < K
    · have ho2 := hco hlt
      subst ho2
      have k1 : (c.length : Int) < (K : Int) := by omega
      cases ls with
      | nil =>
        obtain ⟨ab, capb, rfl, g1, g2⟩ := rowB_form hb
        have HF : Hid (MsgSt w0 wr M (r.drop K)) := Lib.hid ⟨ov, _, [], [], hM, ho, hb, by rw [hr]; simpa using Nat.le_of_lt hlt⟩
        have HBX := Lib.hid hB
        have HBL := Lib.hid hbel
        have HT : Hid (c = r.take K) := Lib.hid (by rw [hr]; simp only [List.flatten_nil, List.append_nil]; exact (List.take_of_length_le hcK).symm)
        clear hM ho hb hB hbel hr hco
        simp only [List.length_nil] at c1
        go_wp2_with fail
        go_ret
        unfold FillSaid
        exact ⟨⟨c, HT.out, rfl, HF.out, HBX.out, HBL.out⟩, HBU.out⟩
      | cons l1 ls =>
        obtain ⟨b', off', capb, xv, bv', rfl, g1, g2, g3, g4, g5, g6⟩ := rowB_tail hb
        obtain ⟨xa, xn, xcap, hxe⟩ := row_slice g4
        subst hxe
        obtain ⟨ba, bcap, hbe, g7, g8⟩ := rowB_form g5
        subst hbe
        have cx : wr.cell? ⟨b', off', none⟩ = some (.slice xa xn xcap) := by
          rw [← g3]
          exact (Below.trans HE0.out (hbel.mono h0)).cell (p := ⟨b', off', none⟩) g2
        have hcut := cut_row wr Bo c.length K C hlt hKC
        have n0 : (0 : Int) ≤ (ls.length : Int) := Int.natCast_nonneg _
        have n1 : (0 : Int) < (ls.length : Int) + 1 := by omega
        have n2 : (0 : Int) < ((ls.length + 1 : Nat) : Int) := by omega
        have n3 : (1 : Int) ≤ ((ls.length + 1 : Nat) : Int) := by omega
        have HFT := Lib.hid (show behindAt wr M = ls.length + 1 by unfold behindAt; rw [c1]; rfl)
        have HR := Lib.hid hr
        have HM := Lib.hid hM
        have HBX := Lib.hid hB
        have HBL := Lib.hid hbel
        have HX := Lib.hid g4
        have HBV := Lib.hid g5
        unfold maxLen at g1 g7
        clear hM ho hb hB hbel hr hco g2 g3 g4 g5
        go_upto_region 3 with (fail)
        go_region
        have HM2 : Hid (Blk ((wr.setCell ⟨M, 0, none⟩ (.slice xa xn xcap)).setCell ⟨M, 1, none⟩ (.slice ba ls.length bcap)).drew M [.slice xa xn xcap, .slice ba ls.length bcap] 49) := Lib.hid (((HM.out.set 0 _).set 1 _).drewN 1)
        have HBX2 : Hid (Blk ((wr.setCell ⟨M, 0, none⟩ (.slice xa xn xcap)).setCell ⟨M, 1, none⟩ (.slice ba ls.length bcap)).drew Bo ((c ++ l.drop c.length).map bval) T) := Lib.hid (((HBX.out.far (by simp; omega) _).far (by simp; omega) _).drewN 1)
        have HBL2 : Hid (Below M w ((wr.setCell ⟨M, 0, none⟩ (.slice xa xn xcap)).setCell ⟨M, 1, none⟩ (.slice ba ls.length bcap)).drew) := Lib.hid ((Below.setCell (Below.setCell HBL.out (by simp) _) (by simp) _).drew)
        have HBU2 : Hid (But M Bo w ((wr.setCell ⟨M, 0, none⟩ (.slice xa xn xcap)).setCell ⟨M, 1, none⟩ (.slice ba ls.length bcap)).drew) := Lib.hid ((HBU.out.set rfl _).set rfl _).drew
        generalize ((wr.setCell ⟨M, 0, none⟩ (.slice xa xn xcap)).setCell ⟨M, 1, none⟩ (.slice ba ls.length bcap)).drew = w2 at *
        clear HM HBX HBL c0 c1 f0 f1 cx
        have HMV := Lib.hid (move_cap w0 w2 M Bo c.length K C _ _ l1 (c ++ l.drop c.length) T HM2.out HX.out HBX2.out (by simp [HL.out]; omega) hlt hKC hK (Below.trans HE0.out (HBL2.out.mono h0)) h0 hMB)
        have hcut := cut_row w2 Bo c.length K C hlt hKC
        go_wp2_with fail
        refine HMV.out.mono ?_
        rintro e w3 ⟨ov', c2, hc2, rfl, hM, ho, hB, hbel, hbut⟩
        have HBU3 := Lib.hid (HBU2.out.trans hbut)
        rw [fill_row] at hB
        have HN := Lib.hid (fill_next HR.out hcK hc2)
        have HM3 := Lib.hid hM
        have HO3 := Lib.hid ho
        have HB3 := Lib.hid hB
        have HBL3 := Lib.hid (Below.trans HBL2.out hbel)
        have hc2l : (c2.length : Int) ≤ 128 := by have := HN.out.2.1; rw [List.length_append] at this; omega
        have hc20 : (0 : Int) ≤ (c2.length : Int) := Int.natCast_nonneg _
        have c1 := HM3.out.cell 1
        simp only [List.getElem?_cons_zero, List.getElem?_cons_succ] at c1
        have HMS := Lib.hid (show behindAt w3 M = ls.length by unfold behindAt; rw [c1]; rfl)
        clear hM ho hB hbel hbut hc2 HMV HM2 HBX2 HBL2 c1
        go_wp2_with fail
        go_roundw
        case rel => exact ⟨c ++ c2, _, ls, _, _, by rw [List.length_append]; go_num, HN.out, HM3.out, HO3.out, HBV.out, HB3.out, HBL3.out, HBU3.out⟩
        case measure => rw [HMS.out, HFT.out]; omega
    · have hcK2 : c.length = K := by omega
      have hlt2 : ¬ (c.length : Int) < (K : Int) := by omega
      have hd2 : decide ((c.length : Int) < (K : Int)) = false := decide_eq_false hlt2
      have HF : Hid (MsgSt w0 wr M (r.drop K)) := Lib.hid ⟨ov, bv, o, ls, hM, ho, hb, by rw [hr, List.drop_append_of_le_length (by omega), List.drop_of_length_le (by omega), List.nil_append]⟩
      have HBX := Lib.hid hB
      have HBL := Lib.hid hbel
      have HT : Hid (c = r.take K) := Lib.hid (by rw [hr, List.take_append_of_le_length (by omega), List.take_of_length_le (by omega)])
      clear hM ho hb hB hbel hr hco hcK2
      go_wp2_with fail
      go_ret
      unfold FillSaid
      exact ⟨⟨c, HT.out, rfl, HF.out, HBX.out, HBL.out⟩, HBU.out⟩

theorem fill_any (w0 w : World) (M Bo K : Nat) (r l : List UInt8) (T : TypeId) (hS : MsgSt w0 w M r) (hl : Blk w Bo (l.map bval) T) (hlen : l.length = K) (hK0 : 0 < K) (hK : K ≤ 128)
    (he : Ext w0 w) (h0 : w0.heap.size ≤ M) (hMB : M < Bo) :
    Calls Try.prog 24 #[.pointer (some ⟨M, 0, none⟩), .slice (some ⟨Bo, 0, none⟩) K K] w fun e w' => FillSaid w0 w w' M Bo K r l T e :=
  (fill_cap w0 w M Bo K K r l T hS hl hlen hK0 (Nat.le_refl _) hK he h0 hMB).mono fun _ _ h => h.1

end Go.Proofs.Ytelenldabjmjbaa

/- The walk of package pieces' Of. Each theorem names its own conditions. -/
namespace Go.Proofs.Ytelenldabjmjbaa
open Go.RowKit
set_option linter.unusedVariables false
set_option linter.unusedSimpArgs false

theorem msg_size : (Try.prog.info? 49).map (·.size) = some (#[Value.slice none 0 0, Value.slice none 0 0]).size := by kernel_rfl

set_option maxRecDepth 100000 in
set_option maxHeartbeats 4000000 in
theorem of_any (a : Option Addr) (n cap : Nat) (w : World) :
    Calls Try.prog 16 #[.slice a n cap] w fun e w' => e = .returned (.agg #[.slice none 0 0, .slice a n cap]) ∧ Below w.heap.size w w' := by
  go_enter Try.func16, Try.ntmps16
  go_wp2_with fail
  refine bodyPost_ret (results_cell_row rfl _ _ w.heap.size _ _ _ _ rfl (Blk.made w [.slice none 0 0, .slice a n cap] 49) Try.underlying49 rfl msg_size) rfl ?_
  exact ⟨rfl, Ext.alloc w (.cells #[.slice none 0 0, .slice a n cap] 49)⟩

end Go.Proofs.Ytelenldabjmjbaa

/- clear(s) of a slice of bytes that lies in a block known whole. Nothing here speaks of a program. Each theorem names its own conditions. -/
namespace Go.Proofs.Ytelenldabjmjbaa
open Go.RowKit
set_option linter.unusedVariables false

section
variable {P : Program} {w : World}
theorem zeroCells_one (x : Value) (n : Nat) : (Builtin.zeroCells #[x] n).toList = List.replicate n x := by
  unfold Builtin.zeroCells
  rw [Array.toList_map]
  apply List.ext_getElem
  · simp
  · intro i h1 h2
    simp [Nat.mod_one]
theorem run_clear_bytes {t e ty : TypeId} (ht : P.underlying t = some (.slice e)) (hz : ∀ w, (zeroValue e).run P w = .ok (.int .u8 0) w) (c o n cap : Nat) (cs : List Value) (tb : TypeId) (hb : Blk w c cs tb) (hn : o + n ≤ cs.length) :
    (Builtin.clear_ #[t] ty #[.slice (some ⟨c, o, none⟩) n cap]).run P w = .ok (.tuple #[]) (w.setCells c o (List.replicate n (.int .u8 0))) := by
  cases n with
  | zero => simp [Builtin.clear_, run_underlying ht, World.setCells]
  | succ n =>
    have hst := run_storeCells_cells (P := P) c o (List.replicate (n + 1) (.int .u8 0)) 0 w (fun j hj => by
      rw [hb.cell, List.getElem?_eq_getElem (by rw [List.length_replicate] at hj; omega)]
      rfl) (fun j _ => hb.free _) (fun v hv => by rw [List.eq_of_mem_replicate hv]; rfl)
    rw [Nat.add_zero] at hst
    simp [Builtin.clear_, run_underlying ht, hz, Value.cells, zeroCells_one, hst]
end

theorem laid_append : ∀ (vs a b : List Value), vs.length = b.length → laid (a ++ b) a.length vs = a ++ vs
  | [], a, [], _ => rfl
  | v :: r, a, x :: b, h => by
    rw [laid, List.set_append_right _ _ (Nat.le_refl _), Nat.sub_self, List.set_cons_zero]
    have ih := laid_append r (a ++ [v]) b (by simpa using h)
    simpa using ih

end Go.Proofs.Ytelenldabjmjbaa

/- The walk of package poly's folded. Each theorem names its own conditions. -/
namespace Go.Proofs.Ytelenldabjmjbaa
open Go.RowKit
set_option linter.unusedVariables false
set_option linter.unusedSimpArgs false

/-- A slice of an array from a variable on, its end too. -/
theorem cut_end {P : Program} {t : TypeId} {n : Nat} {e : TypeId} (ht : P.underlying t = some (.array n e)) (h : ∀ w, (sizeOf e).run P w = .ok 1 w) (w : World) (A p : Nat) (hp : p ≤ n) :
    ∃ o, o + (n - p) ≤ n ∧ (p < n → o = p) ∧ (Instr.sliceAt t (.pointer (some ⟨A, 0, none⟩)) (some (.int .i64 (p : Int))) none none).run P w = .ok (.slice (some ⟨A, o, none⟩) (n - p) (n - p)) w := by
  have e1 : P.arrayLen t = n := by unfold Program.arrayLen; rw [ht]
  have e2 : P.elem t = e := by unfold Program.elem; rw [ht]
  have hr := run_sliceAt_array_l w t ⟨A, 0, none⟩ (by rw [e1, e2]; exact ht) .i64 (p : Int) (by omega) (by rw [e1]; omega)
  rw [e2, h, e1] at hr
  by_cases hpn : n = p
  · refine ⟨0, by omega, by omega, ?_⟩
    rw [hr]
    simp [slicedAt, hpn]
  · refine ⟨p, by omega, fun _ => rfl, ?_⟩
    rw [hr]
    simp [slicedAt, Addr.add, hpn]
    exact fun h => h.symm
/-- The 1 and the noughts behind it, laid over a block. -/
theorem laid_one (c l : List UInt8) (f o : Nat) (hf : c.length = f) (h16 : f ≤ 16) (hl : l.length = 17) (ho : f + 1 < 17 → o = f + 1) :
    laid (((c ++ l.drop f).map bval).set f (.int .u8 1)) o (List.replicate (16 - f) (.int .u8 0)) = (onB c).map bval := by
  have e0 : (Value.int .u8 1) = bval 1 := rfl
  have e1 : (c ++ l.drop f).set f 1 = c ++ [1] ++ l.drop (f + 1) := by
    rw [List.set_append_right _ _ (by omega), hf, Nat.sub_self, List.append_assoc]
    congr 1
    rw [List.drop_eq_getElem_cons (by omega), List.set_cons_zero]
    rfl
  have e2 : (List.replicate (16 - f) (Value.int .u8 0)) = (List.replicate (16 - f) (0 : UInt8)).map bval := by rw [List.map_replicate]; rfl
  rw [e0, ← List.map_set, e1, e2]
  unfold onB
  rw [hf]
  by_cases h : f + 1 < 17
  · rw [ho h, List.map_append]
    have h3 : f + 1 = ((c ++ [1]).map bval).length := by simp; omega
    have h4 := laid_append ((List.replicate (16 - f) (0 : UInt8)).map bval) ((c ++ [1]).map bval) ((l.drop (f + 1)).map bval) (by simp; omega)
    rw [← h3] at h4
    rw [h4, ← List.map_append]
    simp
  · have h3 : f = 16 := by omega
    subst h3
    simp [laid, hl]
theorem fL_near {R : List Int} (hR : Lim 67108863 R) (m : List UInt8) : ∀ n, Near (fL R m n)
  | 0 => Near.zero
  | n + 1 => by
    have a := addL_val (fL_near hR m n).lim (blk_lim m n).1
    exact (timL_val (a.1.up (by omega)) hR).1
theorem ptimesL_any {x y : List Int} (hx : Lim 268435455 x) (hy : Lim 67108863 y) (w : World) :
    Calls Try.prog 25 #[.agg (ints .u64 x).toArray, .agg (ints .u64 y).toArray] w fun e w' => e = .returned (.agg (ints .u64 (timL x y)).toArray) ∧ Below w.heap.size w w' := by
  obtain ⟨a, b, c, d, e, rfl, h1, h2, h3, h4, h5⟩ := hx
  obtain ⟨f, g, h, i, j, rfl, k1, k2, k3, k4, k5⟩ := hy
  exact ptimes_any a b c d e f g h i j h1 h2 h3 h4 h5 k1 k2 k3 k4 k5 w
theorem rowB_any {w : World} {v : Value} {ls : List (List UInt8)} (h : RowB w v ls) : ∃ a cap, v = .slice a ls.length cap := by
  obtain ⟨a, cap, rfl, _⟩ := rowB_form h
  exact ⟨a, cap, rfl⟩

/-- The state of the fold of m: n blocks folded, the next piece of it laid in the block. -/
structure PlySt (w0 w : World) (A B : Nat) (R : List Int) (m : List UInt8) (n : Nat) (c l : List UInt8) : Prop where
  all : l.length = 17
  piece : c = (m.drop (16 * n)).take 16
  few : n ≤ (m.length + 15) / 16
  msg : MsgSt w0 w A ((m.drop (16 * n)).drop 16)
  blkR : Blk w (A + 1) (ints .u64 R) 46
  blkZ : Blk w (A + 1 + 1) (ints .u64 (List.replicate 5 0)) 46
  blkS : Blk w (A + 1 + 1 + 1) (ints .u64 (fL R m n)) 46
  blkX : Blk w B ((c ++ l.drop c.length).map bval) 43

set_option maxRecDepth 100000 in
set_option maxHeartbeats 8000000 in
theorem pfolded_any (v : Value) (ls : List (List UInt8)) (R : List Int) (w0 w : World) (hv : RowB w0 v ls) (he0 : Ext w0 w) (hR : Lim 67108863 R) (hm : ls.flatten.length ≤ 1099511627776) :
    Calls Try.prog 15 #[.agg #[.slice none 0 0, v], .agg (ints .u64 R).toArray] w fun e w' => e = .returned (.agg (ints .u64 (fL R ls.flatten ((ls.flatten.length + 15) / 16))).toArray) ∧ Below w.heap.size w w' := by
  obtain ⟨a, cap, rfl⟩ := rowB_any hv
  obtain ⟨m, hmm⟩ : ∃ m, m = ls.flatten := ⟨_, rfl⟩
  rw [← hmm] at hm ⊢
  have HMD := Lib.hid hmm
  have HRB := Lib.hid hv
  have HE0 := Lib.hid he0
  have HR := Lib.hid hR
  have HML := Lib.hid hm
  have HB := Lib.hid (boxes4 w [.slice none 0 0, .slice a ls.length cap] (ints .u64 R) (ints .u64 (List.replicate 5 0)) (ints .u64 (List.replicate 5 0)) 49 46 46 46)
  clear hmm hv he0 hR hm
  go_enter Try.func15, Try.ntmps15
  go_upto_region 2 with (fail)
  obtain ⟨H1, H2, H3, H4, HE⟩ := HB.out
  change Code.wp _ _ _ _ ((((w.alloc (.cells #[.slice none 0 0, .slice a ls.length cap] 49)).alloc (.cells (ints .u64 R).toArray 46)).alloc (.cells (ints .u64 (List.replicate 5 0)).toArray 46)).alloc (.cells (ints .u64 (List.replicate 5 0)).toArray 46))
  change Blk ((((w.alloc (.cells #[.slice none 0 0, .slice a ls.length cap] 49)).alloc (.cells (ints .u64 R).toArray 46)).alloc (.cells (ints .u64 (List.replicate 5 0)).toArray 46)).alloc (.cells (ints .u64 (List.replicate 5 0)).toArray 46)) w.heap.size [.slice none 0 0, .slice a ls.length cap] 49 at H1
  generalize (((w.alloc (.cells #[.slice none 0 0, .slice a ls.length cap] 49)).alloc (.cells (ints .u64 R).toArray 46)).alloc (.cells (ints .u64 (List.replicate 5 0)).toArray 46)).alloc (.cells (ints .u64 (List.replicate 5 0)).toArray 46) = wa at *
  obtain ⟨A, hA⟩ : ∃ A, A = w.heap.size := ⟨_, rfl⟩
  have HAW : Hid (w.heap.size ≤ A) := Lib.hid (by omega)
  have HAW0 : Hid (w0.heap.size ≤ A) := Lib.hid (by rw [hA]; exact HE0.out.size)
  rw [← hA] at H1 H2 H3 H4 ⊢
  have HM : Hid (MsgSt w0 wa A m) := Lib.hid ⟨_, _, [], ls, H1, Row1.nil w0, HRB.out, by rw [HMD.out]; simp⟩
  have H2 := Lib.hid H2
  have H3 := Lib.hid H3
  have H4 : Hid (Blk wa (A + 1 + 1 + 1) (ints .u64 (fL R m 0)) 46) := Lib.hid H4
  have HE : Hid (Ext w wa) := Lib.hid HE
  clear hA HB H1
  have HXA := Ext.alloc wa (.cells (ints .u8 (List.replicate 17 0)).toArray 43)
  obtain ⟨B, hB⟩ : ∃ B, B = wa.heap.size := ⟨_, rfl⟩
  have HAB : Hid (A + 1 + 1 + 1 < B) := Lib.hid (by have := H4.out.lt; omega)
  have HO : Hid (Blk (wa.alloc (.cells (ints .u8 (List.replicate 17 0)).toArray 43)) B ((List.replicate 17 (0 : UInt8)).map bval) 43) := Lib.hid (by rw [hB]; exact Blk.made wa (ints .u8 (List.replicate 17 0)) 43)
  have HM := Lib.hid (HM.out.same (heap_alloc_old wa (.cells (ints .u8 (List.replicate 17 0)).toArray 43) HM.out.lt))
  have H2 := Lib.hid (ext_blk H2.out HXA)
  have H3 := Lib.hid (ext_blk H3.out HXA)
  have H4 := Lib.hid (ext_blk H4.out HXA)
  have HE := Lib.hid (HE.out.trans HXA)
  clear HXA
  go_upto_region 3 with (fail)
  change Code.wp _ _ _ _ (wa.alloc (.cells (ints .u8 (List.replicate 17 0)).toArray 43))
  rw [← hB]
  clear hB
  generalize wa.alloc (.cells (ints .u8 (List.replicate 17 0)).toArray 43) = wb at *
  have HF := Lib.hid (fill_cap w0 wb A B 16 17 m (List.replicate 17 0) 43 HM.out HO.out rfl (by omega) (by omega) (by omega) (HE0.out.trans HE.out) HAW0.out (by have := HAB.out; omega))
  clear HM HO
  go_wp2_with fail
  refine HF.out.mono ?_
  rintro e w7 ⟨hf, hbut⟩
  unfold FillSaid at hf
  obtain ⟨c, hc, rfl, hM, hO, hbel⟩ := hf
  have HE7 : Hid (Ext w w7) := Lib.hid (Below.trans HE.out (hbel.mono HAW.out))
  have HST : Hid (PlySt w0 w7 A B R m 0 c (List.replicate 17 0)) := Lib.hid ⟨rfl, hc, by omega, hM, H2.out.same (hbut (A + 1) (by have := HAB.out; omega) (by omega)), H3.out.same (hbut (A + 1 + 1) (by have := HAB.out; omega) (by omega)), H4.out.same (hbut (A + 1 + 1 + 1) (by have := HAB.out; omega) (by omega)), hO⟩
  clear H2 H3 H4 HE hc hM hO hbel hbut HF
  go_wp2_with fail
  go_loopg [7] (m.length + 16) (fun gk i7 wr => ∃ (n : Nat) (c l : List UInt8), gk = m.length + 16 - n ∧ i7 = .int .i64 (c.length : Int) ∧ PlySt w0 wr A B R m n c l ∧ Ext w wr)
  case atStart => exact ⟨0, c, List.replicate 17 0, rfl, rfl, HST.out, HE7.out⟩
  case round =>
    clear HST HE7
    obtain ⟨n, c, l, hgk, rfl, hst, hbel⟩ := hrel
    have c0 : (0 : Int) ≤ (c.length : Int) := Int.natCast_nonneg _
    have hc16 : c.length ≤ 16 := by rw [hst.piece, List.length_take]; omega
    have hcl : c.length = min 16 (m.length - 16 * n) := by rw [hst.piece, piece_len]
    have HGK := Lib.hid hgk
    have HCL := Lib.hid hcl
    have HST := Lib.hid hst
    have HE := Lib.hid hbel
    clear hgk hst hbel hcl
    obtain ⟨f, hf⟩ : ∃ f, f = c.length := ⟨_, rfl⟩
    have HFE := Lib.hid hf
    rw [← hf] at c0 hc16 ⊢
    clear hf
    by_cases hpos : 0 < f
    · have g1 : (0 : Int) < (f : Int) := by omega
      have g2 : (f : Int) < 17 := by omega
      have g3 : (f : Int) + 1 ≤ 17 := by omega
      have HXL : Hid ((c ++ l.drop c.length).length = 17) := Lib.hid (by rw [List.length_append, List.length_drop, HST.out.all, ← HFE.out]; omega)
      have q0 : wr.cell? ⟨B, f, none⟩ = some (.int .u8 (((c ++ l.drop c.length).getD f 0).toNat : Int)) := by rw [HST.out.blkX.cell, bval_get (by rw [HXL.out]; omega)]
      have f0 := HST.out.blkX.free f
      have HB3 := Lib.hid (HST.out.blkX.set f (.int .u8 1))
      generalize (((c ++ l.drop c.length).getD f 0).toNat : Int) = z0 at *
      obtain ⟨o, ho1, ho2, hs⟩ := cut_end Try.underlying43 Try.sizeOf5 (wr.setCell ⟨B, f, none⟩ (.int .u8 1)) B (f + 1) (by omega)
      have ef : ((f + 1 : Nat) : Int) = (f : Int) + 1 := by omega
      rw [ef] at hs
      have hcl := run_clear_bytes (ty := 0) Try.underlying27 Try.zeroValue5 B o (16 - f) (16 - f) _ _ HB3.out (by have := HXL.out; simp; simp at this; omega)
      have HLL := Lib.hid (laid_one c l f o HFE.out.symm hc16 HST.out.all ho2)
      clear ho1 ho2 ef
      go_upto_region 8 with (fail)
      have HX := Blk.setCells (List.replicate (16 - f) (.int .u8 0)) _ o _ HB3.out
      rw [← HFE.out, HLL.out, bval_ints] at HX
      have hg : wr.grownBy ((wr.setCell ⟨B, f, none⟩ (.int .u8 1)).setCells B o (List.replicate (16 - f) (.int .u8 0))) (some B) := grownBy_setCells _ _ _ _ (grownBy_set (grownBy_refl wr _) _ _)
      have HR2 := Lib.hid (HST.out.blkR.grown hg (by have := HAB.out; simp; omega))
      have HZ2 := Lib.hid (HST.out.blkZ.grown hg (by have := HAB.out; simp; omega))
      have HS2 := Lib.hid (HST.out.blkS.grown hg (by have := HAB.out; simp; omega))
      have HM2 := Lib.hid (HST.out.msg.same (hg.block A HST.out.msg.lt (by have := HAB.out; simp; omega)))
      have HE := Lib.hid (ext_grown HE.out hg (by have := HAB.out; have := HAW.out; omega))
      have HX := Lib.hid HX
      generalize (wr.setCell ⟨B, f, none⟩ (.int .u8 1)).setCells B o (List.replicate (16 - f) (.int .u8 0)) = w4 at *
      clear hg HB3 HLL hcl hs q0 f0
      have HC : Hid (c = (m.drop (16 * n)).take 16) := Lib.hid HST.out.piece
      have HF1 : Hid (fL R m (n + 1) = timL (addL (fL R m n) (limL (iB (onB c)))) R) := Lib.hid (by rw [HC.out, fL])
      have HNE := Lib.hid (fL_near HR.out m n)
      have HD : Hid (D17 (iB (onB c))) := Lib.hid (D17_iB (onB_length (by rw [← HFE.out]; exact hc16)))
      have HOL : Hid ((onB c).length = 17) := Lib.hid (onB_length (by rw [← HFE.out]; exact hc16))
      have hlm := limL_val HD.out
      have hal := addL_val HNE.out.lim hlm.1
      have HLM := Lib.hid hlm.1
      have HAL := Lib.hid (hal.1.up (N := 268435455) (by omega))
      have HFL := Lib.hid HST.out.few
      have HLA := Lib.hid HST.out.all
      clear hlm hal
      have HT1 : Hid ((timL (addL (fL R m n) (limL (iB (onB c)))) R).length = 5) := Lib.hid (by rw [← HF1.out]; exact (fL_near HR.out m (n + 1)).lim.len)
      obtain ⟨x, hx⟩ : ∃ x, x = iB (onB c) := ⟨_, rfl⟩
      rw [← hx] at HX HF1 HD HLM HAL HT1
      obtain ⟨s, hs⟩ : ∃ s, s = fL R m n := ⟨_, rfl⟩
      rw [← hs] at HS2 HF1 HNE HAL HT1
      obtain ⟨y, hy⟩ : ∃ y, y = limL x := ⟨_, rfl⟩
      rw [← hy] at HF1 HLM HAL HT1
      obtain ⟨p, hp⟩ : ∃ p, p = addL s y := ⟨_, rfl⟩
      rw [← hp] at HF1 HAL HT1
      obtain ⟨u, hu⟩ : ∃ u, u = timL p R := ⟨_, rfl⟩
      rw [← hu] at HF1 HT1
      have HC1 : Hid (∀ w, Calls Try.prog 17 #[.agg (ints .u8 x).toArray] w fun e w' => e = .returned (.agg (ints .u64 y).toArray) ∧ Below w.heap.size w w') := Lib.hid (fun w => by rw [hy]; exact plimbs_any x w HD.out)
      have HC2 : Hid (∀ w, Calls Try.prog 21 #[.agg (ints .u64 s).toArray, .agg (ints .u64 y).toArray] w fun e w' => e = .returned (.agg (ints .u64 p).toArray) ∧ Below w.heap.size w w') := Lib.hid (fun w => by rw [hp]; exact pplus_any s y w (HNE.out.lim.up (by omega)) (HLM.out.up (by omega)))
      have HC3 : Hid (∀ w, Calls Try.prog 25 #[.agg (ints .u64 p).toArray, .agg (ints .u64 R).toArray] w fun e w' => e = .returned (.agg (ints .u64 u).toArray) ∧ Below w.heap.size w w') := Lib.hid (fun w => by rw [hu]; exact ptimesL_any HAL.out HR.out w)
      have HIs := Lib.hid (lim_size HNE.out.lim.len)
      have HIx := Lib.hid (blk_size17 HD.out.1)
      have HIR := Lib.hid (lim_size HR.out.len)
      have HIu := Lib.hid (lim_size HT1.out)
      have HLu : Hid ((ints .u64 u).length = (ints .u64 s).length) := Lib.hid (by rw [ints_length, ints_length, HT1.out, HNE.out.lim.len])
      have HSE := Lib.hid hs
      have HXE := Lib.hid hx
      clear hs hx hy hp hu
      refine wp_region_from 6 1 6 rfl (by kernel_rfl) (by kernel_rfl) (fun d v c a w h => by cases d <;> exact h) (by kernel_rfl) ?_
      refine det_load _ _ (A + 1 + 1 + 1) (ints .u64 s) _ (by rfl) rfl rfl (fun w hw => ext_range HS2.out hw) Try.underlying46 rfl HIs.out ?_
      simp only [Act.put, List.setIfInBounds_toArray, List.set_cons_zero, List.set_cons_succ]
      refine det_load _ _ B (ints .u8 x) _ (by rfl) rfl rfl (fun w hw => ext_range HX.out hw) Try.underlying43 rfl HIx.out ?_
      simp only [Act.put, List.setIfInBounds_toArray, List.set_cons_zero, List.set_cons_succ]
      refine det_call _ _ _ [.agg (ints .u8 x).toArray] (.agg (ints .u64 y).toArray) (by rfl) rfl Try.call17 rfl (fun w hw => HC1.out w) ?_
      simp only [Act.put, List.setIfInBounds_toArray, List.set_cons_zero, List.set_cons_succ]
      refine det_call _ _ _ [.agg (ints .u64 s).toArray, .agg (ints .u64 y).toArray] (.agg (ints .u64 p).toArray) (by rfl) rfl Try.call21 rfl (fun w hw => HC2.out w) ?_
      simp only [Act.put, List.setIfInBounds_toArray, List.set_cons_zero, List.set_cons_succ]
      refine det_load _ _ (A + 1) (ints .u64 R) _ (by rfl) rfl rfl (fun w hw => ext_range HR2.out hw) Try.underlying46 rfl HIR.out ?_
      simp only [Act.put, List.setIfInBounds_toArray, List.set_cons_zero, List.set_cons_succ]
      refine det_call _ _ _ [.agg (ints .u64 p).toArray, .agg (ints .u64 R).toArray] (.agg (ints .u64 u).toArray) (by rfl) rfl Try.call25 rfl (fun w hw => HC3.out w) ?_
      simp only [Act.put, List.setIfInBounds_toArray, List.set_cons_zero, List.set_cons_succ]
      refine det_nil (end_store (k := 6) rfl (by kernel_rfl) (by kernel_rfl) (by kernel_rfl) rfl (fun w5 hw5 => ?_))
      have HR2 := Lib.hid (ext_blk HR2.out hw5)
      have HZ2 := Lib.hid (ext_blk HZ2.out hw5)
      have HX := Lib.hid (ext_blk HX.out hw5)
      have HS2 := Lib.hid (ext_blk HS2.out hw5)
      have HM2 := Lib.hid (HM2.out.same (hw5.block A HM2.out.lt))
      have HE := Lib.hid (HE.out.trans hw5)
      clear hw5
      refine wp_store_blk _ _ _ rfl (A + 1 + 1 + 1) (ints .u64 u) rfl rfl _ _ HS2.out HLu.out HIu.out (ints_one _ _) ?_
      intro w6 hb6 hg6
      have HR2 := Lib.hid (HR2.out.grown hg6 (by simp; omega))
      have HZ2 := Lib.hid (HZ2.out.grown hg6 (by simp))
      have HX := Lib.hid (HX.out.grown hg6 (by have := HAB.out; simp; omega))
      have HM2 := Lib.hid (HM2.out.same (hg6.block A HM2.out.lt (by simp; omega)))
      have HE := Lib.hid (ext_grown HE.out hg6 (by have := HAW.out; omega))
      have HS2 := Lib.hid hb6
      clear hb6 hg6
      rw [HXE.out, ← bval_ints] at HX
      have HF := Lib.hid (fill_cap w0 w6 A B 16 17 ((m.drop (16 * n)).drop 16) (onB c) 43 HM2.out HX.out HOL.out (by omega) (by omega) (by omega) (HE0.out.trans HE.out) HAW0.out (by have := HAB.out; omega))
      clear HM2
      go_wp2_with fail
      refine HF.out.mono ?_
      rintro e w7 ⟨hf, hbut⟩
      unfold FillSaid at hf
      obtain ⟨c2, hc2, rfl, hM, hO, hbel⟩ := hf
      have e16 : (m.drop (16 * n)).drop 16 = m.drop (16 * (n + 1)) := by rw [List.drop_drop, show 16 * n + 16 = 16 * (n + 1) from by omega]
      rw [e16] at hc2 hM
      have HE7 : Hid (Ext w w7) := Lib.hid (Below.trans HE.out (hbel.mono HAW.out))
      have HST7 : Hid (PlySt w0 w7 A B R m (n + 1) c2 (onB c)) := Lib.hid ⟨HOL.out, hc2, by have h1 := HCL.out; have h2 := HFE.out; omega, hM, HR2.out.same (hbut (A + 1) (by have := HAB.out; omega) (by omega)), HZ2.out.same (hbut (A + 1 + 1) (by have := HAB.out; omega) (by omega)), by rw [HF1.out]; exact HS2.out.same (hbut (A + 1 + 1 + 1) (by have := HAB.out; omega) (by omega)), hO⟩
      have HNL : Hid (n < m.length + 16) := Lib.hid (by have := HFL.out; omega)
      clear hc2 hM hO hbel hbut HF e16
      go_wp2_with fail
      go_roundg (m.length + 16 - (n + 1))
      case rel => exact ⟨n + 1, c2, onB c, rfl, rfl, HST7.out, HE7.out⟩
      case measure => have := HGK.out; have := HNL.out; omega
    · have g1 : ¬ (0 : Int) < (f : Int) := by omega
      have d1 : decide ((0 : Int) < (f : Int)) = false := decide_eq_false g1
      have HN : Hid (n = (m.length + 15) / 16) := Lib.hid (by have h1 := HST.out.few; have h2 := HCL.out; have h3 := HFE.out; omega)
      have HS2 := Lib.hid HST.out.blkS
      have HZ2 := Lib.hid HST.out.blkZ
      have HL : Hid ((fL R m n).length = 5) := Lib.hid (fL_near HR.out m n).lim.len
      obtain ⟨s, hs⟩ : ∃ s, s = fL R m n := ⟨_, rfl⟩
      rw [← hs] at HS2 HL
      have HSE := Lib.hid hs
      clear hs
      have HI : Hid ((Try.prog.info? 46).map (·.size) = some (ints .u64 s).length) := Lib.hid (lim_size HL.out)
      have HLz : Hid ((ints .u64 s).length = (ints .u64 (List.replicate 5 0)).length) := Lib.hid (by rw [ints_length, HL.out]; rfl)
      go_wp2_with (first | (refine wpList_load_blk rfl _ _ rfl (A + 1 + 1 + 1) rfl _ _ _ _ HS2.out Try.underlying46 HI.out ?_) | (refine wpList_store_blk rfl _ _ _ rfl (A + 1 + 1) (ints .u64 s) rfl rfl _ _ HZ2.out HLz.out HI.out (ints_one _ _) ?_; intro w5 hb5 hg5))
      refine bodyPost_ret (result_blk rfl _ (A + 1 + 1) _ _ _ _ rfl hb5 Try.underlying46 HI.out) rfl ?_
      exact ⟨by rw [HSE.out, HN.out], ext_grown HE.out hg5 (by have := HAW.out; omega)⟩

end Go.Proofs.Ytelenldabjmjbaa

/- The walks of package poly's reduced, clamped, blockOf. Each theorem names its own conditions. -/
namespace Go.Proofs.Ytelenldabjmjbaa
open Go.RowKit
set_option linter.unusedVariables false
set_option linter.unusedSimpArgs false

set_option maxRecDepth 100000 in
set_option maxHeartbeats 8000000 in
theorem preduced_any (x : List Int) (w : World) (hx : Lim 268435455 x) :
    Calls Try.prog 22 #[.agg (ints .u64 x).toArray] w fun e w' => e = .returned (.agg (ints .u64 (redL x)).toArray) ∧ Below w.heap.size w w' := by
  have HX := Lib.hid hx
  have HB := Lib.hid (boxes2 w (ints .u64 x) (ints .u64 (List.replicate 5 0)) 46 46)
  have HIx := Lib.hid (lim_size hx.len)
  clear hx
  go_enter Try.func22, Try.ntmps22
  go_upto_region 1 with (fail)
  obtain ⟨H1, H2, HE⟩ := HB.out
  change Code.wp _ _ _ _ ((w.alloc (.cells (ints .u64 x).toArray 46)).alloc (.cells (ints .u64 (List.replicate 5 0)).toArray 46))
  generalize (w.alloc (.cells (ints .u64 x).toArray 46)).alloc (.cells (ints .u64 (List.replicate 5 0)).toArray 46) = wa at *
  obtain ⟨A, hA⟩ : ∃ A, A = w.heap.size := ⟨_, rfl⟩
  have HAW : Hid (w.heap.size ≤ A) := Lib.hid (by omega)
  rw [← hA] at H1 H2 ⊢
  have H1 := Lib.hid H1
  have H2 := Lib.hid H2
  have HE : Hid (Ext w wa) := Lib.hid HE
  clear hA HB
  go_wp2_with (refine wpList_load_blk rfl _ _ rfl A rfl _ _ _ _ H1.out Try.underlying46 HIx.out ?_)
  go_loopw [3, 7] (fun cv iv wr => ∃ (k : Nat), k ≤ 5 ∧ cv = .int .u64 (rRun x k) ∧ iv = .int .i64 (k : Int) ∧ Ext wa wr) (fun _ iv _ => 5 - (intOf iv).toNat)
  case atStart => exact ⟨0, by omega, rfl, rfl, Ext.refl _⟩
  case round =>
    obtain ⟨k, hk, rfl, rfl, hbel⟩ := hrel
    have k0 : (0 : Int) ≤ (k : Int) := Int.natCast_nonneg _
    have HX2 := Lib.hid hbel
    clear hbel
    by_cases hlk : k < 5
    · have k1 : (k : Int) < 5 := by omega
      have hi := index_ints (kd := .u64) Try.underlying46 Try.sizeOf44 Try.isAgg44 x HX.out.len k hlk
      have hxa := HX.out.getD (by omega) k
      have hra := rRun_range (M := 268435455) (by omega) (HX.out.getD (by omega)) k
      have HS : Hid (rRun x (k + 1) = (rRun x k + x.getD k 0) / 67108864) := Lib.hid rfl
      generalize x.getD k 0 = p at *
      generalize rRun x k = q at *
      obtain ⟨p0, p1⟩ := hxa
      obtain ⟨r0, r1⟩ := hra
      go_wp2_with fail
      go_roundw
      case rel => exact ⟨k + 1, by omega, by rw [HS.out], by go_num, HX2.out⟩
      case measure => simp [intOf]; omega
    · have hk5 : k = 5 := by omega
      subst hk5
      have H1 := Lib.hid (ext_blk H1.out HX2.out)
      have H2 := Lib.hid (ext_blk H2.out HX2.out)
      have HE := Lib.hid (HE.out.trans HX2.out)
      have q1 := digit_q H1.out (i := 0) (by rw [HX.out.len]; omega)
      have f1 := H1.out.free 0
      have hxa := HX.out.getD (by omega) 0
      have hra := rRun_range (M := 268435455) (by omega) (HX.out.getD (by omega)) 5
      have HR : Hid (redL x = setL (x.set 0 (x.getD 0 0 + 5 * rRun x 5))) := Lib.hid rfl
      have HL2 : Hid (Lim 1152921504606846976 (x.set 0 (x.getD 0 0 + 5 * rRun x 5))) := Lib.hid (by
        obtain ⟨a, b, c, d, e, rfl, h1, h2, h3, h4, h5⟩ := HX.out
        simp only [List.getD_cons_zero] at hxa hra ⊢
        exact ⟨_, b, c, d, e, rfl, by omega, by omega, by omega, by omega, by omega⟩)
      generalize x.getD 0 0 = p at *
      generalize rRun x 5 = q at *
      obtain ⟨p0, p1⟩ := hxa
      obtain ⟨r0, r1⟩ := hra
      go_upto_region 8 with (fail)
      have H1 : Hid (Blk (wr.setCell ⟨A, 0, none⟩ (.int .u64 (p + 5 * q))) A (ints .u64 (x.set 0 (p + 5 * q))) 46) := Lib.hid (H1.out.seti 0 _)
      have H2 := Lib.hid (H2.out.far (a := ⟨A, 0, none⟩) (by simp) (.int .u64 (p + 5 * q)))
      have HE : Hid (Ext w (wr.setCell ⟨A, 0, none⟩ (.int .u64 (p + 5 * q)))) := Lib.hid (Below.setCell HE.out (by have := HAW.out; simp; omega) _)
      generalize wr.setCell ⟨A, 0, none⟩ (.int .u64 (p + 5 * q)) = w3 at *
      clear q1 f1 HX2 HIx
      generalize x.set 0 (p + 5 * q) = y at *
      have HIy := Lib.hid (lim_size HL2.out.len)
      have HSY := Lib.hid (setL_len HL2.out.len)
      have HIo := Lib.hid (lim_size HSY.out)
      have HLz : Hid ((ints .u64 (setL y)).length = (ints .u64 (List.replicate 5 0)).length) := Lib.hid (by rw [ints_length, HSY.out]; rfl)
      go_wp2_with (refine wpList_load_blk rfl _ _ rfl A rfl _ _ _ _ H1.out Try.underlying46 HIy.out ?_)
      refine (psettled_any y w3 HL2.out).mono ?_
      rintro e w4 ⟨rfl, hb⟩
      have H2 := Lib.hid (ext_blk H2.out hb)
      have HE := Lib.hid (HE.out.trans hb)
      clear hb
      go_wp2_with (refine wpList_store_blk rfl _ _ _ rfl (A + 1) (ints .u64 (setL y)) rfl rfl _ _ H2.out HLz.out HIo.out (ints_one _ _) ?_; intro w5 hb5 hg5)
      refine bodyPost_ret (result_blk rfl _ (A + 1) _ _ _ _ rfl hb5 Try.underlying46 HIo.out) rfl ?_
      exact ⟨by rw [HR.out], ext_grown HE.out hg5 (by have := HAW.out; omega)⟩

theorem and8_15f : ∀ n : Fin 256, bits .and .u8 (n.val : Int) 15 = (n.val : Int) % 16 := by decide +kernel
theorem and8_252f : ∀ n : Fin 256, bits .and .u8 (n.val : Int) 252 = (n.val : Int) / 4 * 4 := by decide +kernel
theorem and8_15 (a : Int) (h1 : 0 ≤ a) (h2 : a ≤ 255) : bits .and .u8 a 15 = a % 16 := by
  obtain ⟨n, rfl⟩ : ∃ n : Nat, a = (n : Int) := ⟨a.toNat, by omega⟩
  exact and8_15f ⟨n, by omega⟩
theorem and8_252 (a : Int) (h1 : 0 ≤ a) (h2 : a ≤ 255) : bits .and .u8 a 252 = a / 4 * 4 := by
  obtain ⟨n, rfl⟩ : ∃ n : Nat, a = (n : Int) := ⟨a.toNat, by omega⟩
  exact and8_252f ⟨n, by omega⟩

set_option maxRecDepth 100000 in
set_option maxHeartbeats 8000000 in
theorem pclamped_any (kb : List UInt8) (w : World) :
    Calls Try.prog 18 #[.agg (ints .u8 (rA kb 16)).toArray] w fun e w' => e = .returned (.agg (ints .u8 (rC kb 3)).toArray) ∧ Below w.heap.size w w' := by
  have HB := Lib.hid (boxes2 w (ints .u8 (rA kb 16)) (ints .u8 (List.replicate 17 0)) 43 43)
  go_enter Try.func18, Try.ntmps18
  go_upto_region 1 with (fail)
  obtain ⟨H1, H2, HE⟩ := HB.out
  change Code.wp _ _ _ _ ((w.alloc (.cells (ints .u8 (rA kb 16)).toArray 43)).alloc (.cells (ints .u8 (List.replicate 17 0)).toArray 43))
  generalize (w.alloc (.cells (ints .u8 (rA kb 16)).toArray 43)).alloc (.cells (ints .u8 (List.replicate 17 0)).toArray 43) = wa at *
  obtain ⟨A, hA⟩ : ∃ A, A = w.heap.size := ⟨_, rfl⟩
  have HAW : Hid (w.heap.size ≤ A) := Lib.hid (by omega)
  rw [← hA] at H1 H2 ⊢
  have H1 : Hid (Blk wa A (ints .u8 (rB kb 0)) 43) := Lib.hid H1
  have H2 := Lib.hid H2
  have HE : Hid (Ext w wa) := Lib.hid HE
  clear hA HB
  go_wp2_with fail
  go_loopw [3] (fun iv wr => ∃ (k : Nat), k ≤ 4 ∧ iv = .int .i64 (3 + 4 * (k : Int)) ∧ Blk wr A (ints .u8 (rB kb k)) 43 ∧ Blk wr (A + 1) (ints .u8 (List.replicate 17 0)) 43 ∧ Ext w wr) (fun iv _ => 20 - (intOf iv).toNat)
  case atStart => exact ⟨0, by omega, rfl, H1.out, H2.out, HE.out⟩
  case round =>
    clear H1 H2 HE
    obtain ⟨k, hk, rfl, hb1, hb2, hbel⟩ := hrel
    have k0 : (0 : Int) ≤ (k : Int) := Int.natCast_nonneg _
    have H1 := Lib.hid hb1
    have H2 := Lib.hid hb2
    have HE := Lib.hid hbel
    by_cases hlk : k < 4
    · have k1 : 3 + 4 * (k : Int) < 16 := by omega
      have k2 : (0 : Int) ≤ 3 + 4 * (k : Int) := by omega
      have k3 : 3 + 4 * (k : Int) < 17 := by omega
      have kn : (3 + 4 * (k : Int)).toNat = 3 + 4 * k := by omega
      have c1 := digit_b hb1 (i := 3 + 4 * k) (by rw [rB_length]; omega)
      have f1 := hb1.free (3 + 4 * k)
      have hd := rB_digit kb k (3 + 4 * k) (by omega)
      have HS : Hid (rB kb (k + 1) = (rB kb k).set (3 + 4 * k) ((rB kb k).getD (3 + 4 * k) 0 % 16)) := Lib.hid rfl
      clear hb1 hb2 hbel
      generalize hz : (rB kb k).getD (3 + 4 * k) 0 = z at *
      clear hz
      obtain ⟨z0, z1⟩ := hd
      have a1 := and8_15 z z0 z1
      go_wp2_with fail
      go_roundw
      case rel => exact ⟨k + 1, by omega, by go_num, by rw [HS.out]; exact H1.out.seti _ _, H2.out.far (by simp) _, Below.setCell HE.out (by have := HAW.out; simp; omega) _⟩
      case measure => simp [intOf]; omega
    · have hk4 : k = 4 := by omega
      subst hk4
      rw [show ((4 : Nat) : Int) = 4 from rfl]
      rw [show (3 : Int) + 4 * 4 = 19 from rfl]
      clear hb1 hb2 hbel
      have H1 : Hid (Blk wr A (ints .u8 (rC kb 0)) 43) := Lib.hid H1.out
      go_wp2_with fail
      go_loopw [4] (fun iv wr => ∃ (k : Nat), k ≤ 3 ∧ iv = .int .i64 (4 + 4 * (k : Int)) ∧ Blk wr A (ints .u8 (rC kb k)) 43 ∧ Blk wr (A + 1) (ints .u8 (List.replicate 17 0)) 43 ∧ Ext w wr) (fun iv _ => 20 - (intOf iv).toNat)
      case atStart => exact ⟨0, by omega, rfl, H1.out, H2.out, HE.out⟩
      case round =>
        clear H1 H2 HE
        obtain ⟨k, hk, rfl, hb1, hb2, hbel⟩ := hrel
        have k0 : (0 : Int) ≤ (k : Int) := Int.natCast_nonneg _
        have H1 := Lib.hid hb1
        have H2 := Lib.hid hb2
        have HE := Lib.hid hbel
        by_cases hlk : k < 3
        · have k1 : 4 + 4 * (k : Int) < 16 := by omega
          have k2 : (0 : Int) ≤ 4 + 4 * (k : Int) := by omega
          have k3 : 4 + 4 * (k : Int) < 17 := by omega
          have kn : (4 + 4 * (k : Int)).toNat = 4 + 4 * k := by omega
          have c1 := digit_b hb1 (i := 4 + 4 * k) (by rw [rC_length]; omega)
          have f1 := hb1.free (4 + 4 * k)
          have hd := rC_digit kb k (4 + 4 * k) (by omega)
          have HS : Hid (rC kb (k + 1) = (rC kb k).set (4 + 4 * k) ((rC kb k).getD (4 + 4 * k) 0 / 4 * 4)) := Lib.hid rfl
          clear hb1 hb2 hbel
          generalize hz : (rC kb k).getD (4 + 4 * k) 0 = z at *
          clear hz
          obtain ⟨z0, z1⟩ := hd
          have a1 := and8_252 z z0 z1
          go_wp2_with fail
          go_roundw
          case rel => exact ⟨k + 1, by omega, by go_num, by rw [HS.out]; exact H1.out.seti _ _, H2.out.far (by simp) _, Below.setCell HE.out (by have := HAW.out; simp; omega) _⟩
          case measure => simp [intOf]; omega
        · have hk3 : k = 3 := by omega
          subst hk3
          rw [show ((3 : Nat) : Int) = 3 from rfl]
          rw [show (4 : Int) + 4 * 3 = 16 from rfl]
          clear hb1 hb2 hbel hk k0 hlk
          obtain ⟨s, hs⟩ : ∃ s, s = rC kb 3 := ⟨_, rfl⟩
          have HR := Lib.hid hs
          rw [← hs] at H1
          have HL : Hid (s.length = 17) := Lib.hid (by rw [hs, rC_length])
          clear hs
          have HI : Hid ((Try.prog.info? 43).map (·.size) = some (ints .u8 s).length) := Lib.hid (blk_size17 HL.out)
          have HLz : Hid ((ints .u8 s).length = (ints .u8 (List.replicate 17 0)).length) := Lib.hid (by rw [ints_length, HL.out]; rfl)
          go_wp2_with (first | (refine wpList_load_blk rfl _ _ rfl A rfl _ _ _ _ H1.out Try.underlying43 HI.out ?_) | (refine wpList_store_blk rfl _ _ _ rfl (A + 1) (ints .u8 s) rfl rfl _ _ H2.out HLz.out HI.out (ints_one _ _) ?_; intro w5 hb5 hg5))
          refine bodyPost_ret (result_blk rfl _ (A + 1) _ _ _ _ rfl hb5 Try.underlying43 HI.out) rfl ?_
          exact ⟨by rw [HR.out], ext_grown HE.out hg5 (by have := HAW.out; omega)⟩

end Go.Proofs.Ytelenldabjmjbaa

/- The walk of package poly's blockOf. Each theorem names its own conditions. -/
namespace Go.Proofs.Ytelenldabjmjbaa
open Go.RowKit
set_option linter.unusedVariables false
set_option linter.unusedSimpArgs false

theorem pow_up {s : Nat} (h : s ≤ 6) : (1 : Int) ≤ 2 ^ s ∧ (2 : Int) ^ s ≤ 64 := by
  match s, h with
  | 0, _ => decide
  | 1, _ => decide
  | 2, _ => decide
  | 3, _ => decide
  | 4, _ => decide
  | 5, _ => decide
  | 6, _ => decide

set_option maxRecDepth 100000 in
set_option maxHeartbeats 8000000 in
theorem pblock_any (x : List Int) (w : World) (hx : Lim 67108863 x) :
    Calls Try.prog 19 #[.agg (ints .u64 x).toArray] w fun e w' => e = .returned (.agg (ints .u8 (blkL x)).toArray) ∧ Below w.heap.size w w' := by
  have HX := Lib.hid hx
  have HB := Lib.hid (boxes3 w (ints .u64 x) (ints .u8 (List.replicate 17 0)) (ints .u8 (List.replicate 17 0)) 46 43 43)
  have HIx := Lib.hid (lim_size hx.len)
  clear hx
  go_enter Try.func19, Try.ntmps19
  go_upto_region 2 with (fail)
  obtain ⟨H1, H2, H3, HE⟩ := HB.out
  change Code.wp _ _ _ _ (((w.alloc (.cells (ints .u64 x).toArray 46)).alloc (.cells (ints .u8 (List.replicate 17 0)).toArray 43)).alloc (.cells (ints .u8 (List.replicate 17 0)).toArray 43))
  generalize ((w.alloc (.cells (ints .u64 x).toArray 46)).alloc (.cells (ints .u8 (List.replicate 17 0)).toArray 43)).alloc (.cells (ints .u8 (List.replicate 17 0)).toArray 43) = wa at *
  obtain ⟨A, hA⟩ : ∃ A, A = w.heap.size := ⟨_, rfl⟩
  have HAW : Hid (w.heap.size ≤ A) := Lib.hid (by omega)
  rw [← hA] at H1 H2 H3 ⊢
  have H1 := Lib.hid H1
  have H2 := Lib.hid H2
  have H3 : Hid (Blk wa (A + 1 + 1) (ints .u8 (oI x 0)) 43) := Lib.hid H3
  have HE : Hid (Ext w wa) := Lib.hid HE
  clear hA HB
  go_wp2_with (refine wpList_load_blk rfl _ _ rfl A rfl _ _ _ _ H1.out Try.underlying46 HIx.out ?_)
  go_loopw [9] (fun iv wr => ∃ (i : Nat), i ≤ 5 ∧ iv = .int .i64 (i : Int) ∧ Blk wr (A + 1) (ints .u8 (List.replicate 17 0)) 43 ∧ Blk wr (A + 1 + 1) (ints .u8 (oI x i)) 43 ∧ Ext w wr) (fun iv _ => 5 - (intOf iv).toNat)
  case atStart => exact ⟨0, by omega, rfl, H2.out, H3.out, HE.out⟩
  case round =>
    clear H1 H2 H3 HE HIx
    obtain ⟨i, hi, rfl, hb2, hb3, hbel⟩ := hrel
    have i0 : (0 : Int) ≤ (i : Int) := Int.natCast_nonneg _
    have H2 := Lib.hid hb2
    have H3 := Lib.hid hb3
    have HE := Lib.hid hbel
    clear hb2 hb3 hbel
    by_cases hli : i < 5
    · have i1 : (i : Int) < 5 := by omega
      have hxi := index_ints (kd := .u64) Try.underlying46 Try.sizeOf44 Try.isAgg44 x HX.out.len i hli
      obtain ⟨z0, z1⟩ := HX.out.getD (by omega) i
      obtain ⟨q, hq⟩ : ∃ q, q = 26 * i / 8 := ⟨_, rfl⟩
      obtain ⟨s, hs⟩ : ∃ s, s = 26 * i % 8 := ⟨_, rfl⟩
      have hs6 : s ≤ 6 := by omega
      have hq13 : q ≤ 13 := by omega
      have d1 : 26 * (i : Int) / 8 = (q : Int) := by omega
      have d2 : Int.tdiv (26 * (i : Int)) 8 = (q : Int) := by rw [Int.tdiv_eq_ediv_of_nonneg (by omega)]; exact d1
      have s1 : 26 * (i : Int) % 8 = (s : Int) := by omega
      have s2 : Int.tmod (26 * (i : Int)) 8 = (s : Int) := by rw [Int.tmod_eq_emod_of_nonneg (by omega)]; exact s1
      have s3 : (s : Int) < 64 := by omega
      have s4 : (0 : Int) ≤ (s : Int) := by omega
      have HS : Hid (oI x (i + 1) = oN (oI x i) (x.getD i 0) q s 4) := Lib.hid (by rw [oI, hq, hs])
      have HL := Lib.hid (oI_length x i)
      have H3 : Hid (Blk wr (A + 1 + 1) (ints .u8 (oN (oI x i) (x.getD i 0) q s 0)) 43) := Lib.hid H3.out
      clear hq hs
      generalize x.getD i 0 = z at *
      generalize oI x i = c at *
      go_wp2_with fail
      go_loopw [15] (fun nv wq => ∃ (n : Nat), n ≤ 4 ∧ nv = .int .i64 (n : Int) ∧ Blk wq (A + 1) (ints .u8 (List.replicate 17 0)) 43 ∧ Blk wq (A + 1 + 1) (ints .u8 (oN c z q s n)) 43 ∧ Ext w wq) (fun nv _ => 4 - (intOf nv).toNat)
      case atStart => exact ⟨0, by omega, rfl, H2.out, H3.out, HE.out⟩
      case round =>
        clear H2 H3 HE
        obtain ⟨n, hn, rfl, hb2, hb3, hbel⟩ := hrel
        have n0 : (0 : Int) ≤ (n : Int) := Int.natCast_nonneg _
        have H2 := Lib.hid hb2
        have H3 := Lib.hid hb3
        have HE := Lib.hid hbel
        by_cases hln : n < 4
        · have n1 : (n : Int) < 4 := by omega
          obtain ⟨j, hj⟩ : ∃ j, j = q + n := ⟨_, rfl⟩
          have j1 : (q : Int) + (n : Int) = (j : Int) := by omega
          have j2 : (j : Int) < 17 := by omega
          have j3 : (0 : Int) ≤ (j : Int) := by omega
          obtain ⟨e, he⟩ : ∃ e, e = 8 * n := ⟨_, rfl⟩
          have e1 : 8 * (n : Int) = (e : Int) := by omega
          have e2 : (e : Int) < 64 := by omega
          have e3 : (0 : Int) ≤ (e : Int) := by omega
          have q3 := digit_b hb3 (i := j) (by rw [oN_length, HL.out]; omega)
          have f3 := hb3.free j
          have hp := pow_up hs6
          have hpz : 0 ≤ z * 2 ^ s ∧ z * 2 ^ s ≤ 4294967232 := by
            have := mulB (X := 67108863) (Y := 64) ⟨z0, z1⟩ ⟨by omega, hp.2⟩
            omega
          have hdv : 0 ≤ z * 2 ^ s / 2 ^ e ∧ z * 2 ^ s / 2 ^ e ≤ 4294967295 := by
            have hp : (0 : Int) < 2 ^ e := Int.pow_pos (by omega)
            exact ⟨Int.ediv_nonneg hpz.1 (by omega), Int.le_trans (Int.ediv_le_self _ hpz.1) (by omega)⟩
          have HK : Hid (oN c z q s (n + 1) = (oN c z q s n).set j (bits .or .u8 ((oN c z q s n).getD j 0) (z * 2 ^ s / 2 ^ e % 256))) := Lib.hid (by rw [oN, ← hj, ← he])
          clear hb2 hb3 hbel hj he hp
          generalize (oN c z q s n).getD j 0 = y at *
          obtain ⟨p0, p1⟩ := hpz
          obtain ⟨r0, r1⟩ := hdv
          go_wp2_with fail
          go_region
          go_wp2_with fail
          go_roundw
          case rel => exact ⟨n + 1, by omega, by go_num, (H2.out.far (by simp) _).drewN 1, by rw [HK.out]; exact (H3.out.seti j _).drewN 1, Ext.trans (Below.setCell HE.out (by have := HAW.out; simp; omega) _) (Ext.drew _)⟩
          case measure => simp [intOf]; omega
        · have hn4 : n = 4 := by omega
          subst hn4
          rw [show ((4 : Nat) : Int) = 4 from rfl]
          clear hb2 hb3 hbel
          go_wp2_with fail
          go_roundw
          case rel => exact ⟨i + 1, by omega, by go_num, H2.out, by rw [HS.out]; exact H3.out, HE.out⟩
          case measure => simp [intOf]; omega
    · have hi5 : i = 5 := by omega
      subst hi5
      have HL : Hid ((oI x 5).length = 17) := Lib.hid (oI_length x 5)
      have HR : Hid (blkL x = oI x 5) := Lib.hid rfl
      generalize oI x 5 = s at *
      have HI : Hid ((Try.prog.info? 43).map (·.size) = some (ints .u8 s).length) := Lib.hid (blk_size17 HL.out)
      have HLz : Hid ((ints .u8 s).length = (ints .u8 (List.replicate 17 0)).length) := Lib.hid (by rw [ints_length, HL.out]; rfl)
      go_wp2_with (first | (refine wpList_load_blk rfl _ _ rfl (A + 1 + 1) rfl _ _ _ _ H3.out Try.underlying43 HI.out ?_) | (refine wpList_store_blk rfl _ _ _ rfl (A + 1) (ints .u8 s) rfl rfl _ _ H2.out HLz.out HI.out (ints_one _ _) ?_; intro w5 hb5 hg5))
      refine bodyPost_ret (result_blk rfl _ (A + 1) _ _ _ _ rfl hb5 Try.underlying43 HI.out) rfl ?_
      exact ⟨by rw [HR.out], ext_grown HE.out hg5 (by have := HAW.out; omega)⟩

end Go.Proofs.Ytelenldabjmjbaa

/- make of zero bytes, and bytes laid over a block. Nothing here speaks of a program. Each theorem names its own conditions. -/
namespace Go.Proofs.Ytelenldabjmjbaa
open Go.RowKit
set_option linter.unusedVariables false
set_option linter.unusedSimpArgs false

theorem made_zero (n : Nat) : madeCells #[.int .u8 0] n = Array.replicate n (bval 0) := by
  apply Array.ext'
  unfold madeCells
  rw [Array.toList_map]
  apply List.ext_getElem
  · simp
  · intro i h1 h2
    simp [Nat.mod_one, bval]
def zB (n : Nat) : List UInt8 := List.replicate n 0
theorem zB_length (n : Nat) : (zB n).length = n := by simp [zB]
section
variable {P : Program}
/-- make([]byte, m, m): what it answers, and the world. -/
theorem run_make_zeros (w : World) (t e : TypeId) (ht : P.underlying t = some (.slice e)) (i : TypeInfo) (hi : P.info? e = some i) (hz : i.zero = some (.int .u8 0)) (h1 : i.size = 1) (hb : i.bytes = 1) (m : Nat) (hm : m ≤ 1099511627776) :
    (Instr.makeSlice t (.int .i64 (m : Int)) (.int .i64 (m : Int))).run P w = .ok (.slice (some ⟨w.heap.size, 0, none⟩) m m) (w.alloc (.cells ((zB m).map bval).toArray e)) := by
  have hmk := run_make w t e i (.int .u8 0) ht hi hz .i64 .i64 (m : Int) (m : Int) (by omega) (by omega) (by rw [hb]; omega) (by omega)
  have hmc : madeCells (Value.cells (.int .u8 0)) (m * 1) = Array.replicate m (bval 0) := by rw [Nat.mul_one]; exact made_zero m
  rw [Int.toNat_natCast, h1, hmc] at hmk
  rw [hmk]
  simp [zB]
end
theorem splice_bytes (l c : List UInt8) (f : Nat) : splice (l.map bval) f (c.map bval) = (l.take f ++ c ++ l.drop (f + c.length)).map bval := by
  unfold splice
  simp
theorem splice_zeros (n : Nat) (c : List UInt8) : splice ((zB n).map bval) 0 (c.map bval) = (c ++ List.replicate (n - c.length) 0).map bval := by
  rw [splice_bytes]
  simp [zB]
/-- Where the bytes of a slice stand, as copy asks it. -/
theorem row_src {w : World} {a : Option Addr} {n cap : Nat} {l : List UInt8} (h : Row1 w (.slice a n cap) (l.map bval)) (c : List UInt8) (hc : c = l.take c.length) (hcl : c.length ≤ l.length) {w' : World} (he : Ext w w') :
    0 < (c.map bval).length → ∃ ad, a = some ad ∧ ∀ (j : Nat) (v : Value), (c.map bval)[j]? = some v → w'.cell? (ad.add j) = some v := fun hpos => by
  obtain ⟨a', cap', e, t1, t2, t3, t4⟩ := h
  cases e
  rw [List.length_map] at hpos t4
  obtain ⟨b3, off3, rfl, t5, t6⟩ := t4 (by intro e; have h := congrArg List.length e; rw [List.length_map] at h; simp only [List.length_nil] at h; omega)
  refine ⟨_, rfl, fun j v hj => ?_⟩
  have hjl : j < c.length := by
    rcases Nat.lt_or_ge j c.length with h | h
    · exact h
    · rw [List.getElem?_eq_none (by rw [List.length_map]; exact h)] at hj; cases hj
  have e := t6 j (by omega)
  have e2 : (l.map bval)[j]? = (c.map bval)[j]? := by
    conv => rhs; rw [hc]
    rw [List.getElem?_map, List.getElem?_map, List.getElem?_take, if_pos (by first | exact hjl | (rw [List.length_take]; omega))]
  rw [WideShapes.add_plain, ← hj, ← e2, ← e]
  exact he.cell (p := ⟨b3, off3 + j, none⟩) t5
section
variable {P : Program}
theorem grown_setRow (w : World) (g : Nat) (cs : Array Value) : w.grownBy (w.setRow g cs) (some g) :=
  ⟨rfl, rfl, rfl, by simp [World.setRow], fun k _ hk => setRow_other w g k cs (fun e => hk (by rw [e]))⟩
/-- copy into a block that is known whole, as an operation: no other block turns. -/
theorem wp_copy_blk {w : World} {o : Oper} {a : Act} {K : Act → World → Prop} {Q : Exit → Act → World → Prop} (d s : Operand) (dT sT : TypeId)
    (ho : o.op = .call { callee := .builtin .copy, args := #[d, s], argTypes := #[dT, sT] }) (elem : TypeId) (hu : P.underlying dT = some (.slice elem)) (hsz : (P.info? elem).map (·.size) = some 1)
    (dp sp : Option Addr) (dLen dCap sLen sCap : Nat) (hd : a.eval d = .slice dp dLen dCap) (hs : a.eval s = .slice sp sLen sCap)
    (g off : Nat) (cur : List Value) (t : TypeId) (hg : Blk w g cur t) (cs : List Value) (hn : cs.length = Nat.min sLen dLen)
    (hpos : 0 < cs.length → dp = some ⟨g, off, none⟩ ∧ ∃ ad, sp = some ad ∧ ∀ j v, cs[j]? = some v → w.cell? (ad.add j) = some v)
    (hfit : off + cs.length ≤ cur.length) (h1 : ∀ v ∈ cs, v.oneCell' = true)
    (h : ∀ w', Blk w' g (splice cur off cs) t → w.grownBy w' (some g) → K (a.put o.dst (goInt cs.length)) w') : o.wp P a w K Q := by
  by_cases h0 : cs.length = 0
  · obtain rfl : cs = [] := List.eq_nil_of_length_eq_zero h0
    have hrun := run_copy_none (P := P) w dT sT o.type elem dp sp dLen dCap sLen sCap hu hsz (by simpa using hn.symm)
    unfold Oper.wp
    simp [execOp, ho, resolve, invoke, builtin, hd, hs, hrun, Result.andThen]
    exact h w (by simpa [splice] using hg) (World.grownBy.refl _ _)
  · obtain ⟨rfl, ad, rfl, hsrc⟩ := hpos (by omega)
    have hrun := run_copy_row (P := P) w dT sT o.type elem g off dLen dCap ad sLen sCap cur.toArray t cs hu hsz hg hn hsrc (by simpa using hfit) h1
    unfold Oper.wp
    simp [execOp, ho, resolve, invoke, builtin, hd, hs, hrun, Result.andThen]
    exact h _ (show _ = _ by simpa [splice] using setRow_heap w g _ _ t _ hg) (grown_setRow _ _ _)
/-- copy into a block that is known whole: no other block turns. -/
theorem wpList_copy_blk {w : World} {ops : Array Oper} {rest : List Oper} {o : Oper} {a : Act} {Q : Exit → Act → World → Prop} (hgd : o.guard = none) (d s : Operand) (dT sT : TypeId)
    (ho : o.op = .call { callee := .builtin .copy, args := #[d, s], argTypes := #[dT, sT] }) (elem : TypeId) (hu : P.underlying dT = some (.slice elem)) (hsz : (P.info? elem).map (·.size) = some 1)
    (dp sp : Option Addr) (dLen dCap sLen sCap : Nat) (hd : a.eval d = .slice dp dLen dCap) (hs : a.eval s = .slice sp sLen sCap)
    (g off : Nat) (cur : List Value) (t : TypeId) (hg : Blk w g cur t) (cs : List Value) (hn : cs.length = Nat.min sLen dLen)
    (hpos : 0 < cs.length → dp = some ⟨g, off, none⟩ ∧ ∃ ad, sp = some ad ∧ ∀ j v, cs[j]? = some v → w.cell? (ad.add j) = some v)
    (hfit : off + cs.length ≤ cur.length) (h1 : ∀ v ∈ cs, v.oneCell' = true)
    (h : ∀ w', Blk w' g (splice cur off cs) t → w.grownBy w' (some g) → wpList P ops Q rest (a.put o.dst (goInt cs.length)) w') :
    wpList P ops Q (o :: rest) a w := by
  by_cases h0 : cs.length = 0
  · obtain rfl : cs = [] := List.eq_nil_of_length_eq_zero h0
    refine wpList_copy_nothing hgd d s dT sT ho elem hu hsz dp sp dLen dCap sLen sCap hd hs (by simpa using hn.symm) ?_
    exact h w (by simpa [splice] using hg) (World.grownBy.refl _ _)
  · obtain ⟨rfl, ad, rfl, hsrc⟩ := hpos (by omega)
    refine wpList_copy_own hgd d s dT sT ho elem hu hsz g off dLen dCap ad sLen sCap hd hs cur.toArray t hg cs hn hsrc (by simpa using hfit) h1 ?_
    exact h _ (show _ = _ by simpa [splice] using setRow_heap w g _ _ t _ hg) (grown_setRow _ _ _)
end
/-- A block that is known whole, as a row of the call's own. -/
theorem own_blk {w : World} {base g n : Nat} {e : TypeId} {cs : List Value} (h : Blk w g cs e) (hb : base ≤ g) (hn : cs.length = n) (hm : n ≤ maxLen) : w.ownsRow base e 1 (.slice (some ⟨g, 0, none⟩) n n) n cs := by
  subst hn
  exact ⟨by simp, Or.inr ⟨g, cs.length, cs.toArray, rfl, hb, h, Nat.le_refl _, hm, by simp, by rw [Nat.mul_one]; exact List.take_of_length_le (Nat.le_refl _)⟩⟩

end Go.Proofs.Ytelenldabjmjbaa

/- Numbers of 32 bytes as values of the program. Each theorem names its own conditions. -/
namespace Go.Proofs.Ytelenldabjmjbaa
open Go.RowKit
set_option linter.unusedVariables false
set_option linter.unusedSimpArgs false

theorem Try.arr23 : (Try.prog.info? 23).map (·.size) = some 32 := by kernel_rfl
theorem num_info : Try.prog.info? 5 = some (Try.prog.info? 5).get! := by kernel_rfl
theorem num_cells : Try.prog.cellsOf 5 = 1 := by kernel_rfl
theorem num_guard : Try.prog.eqGuardType Try.prog.depth 23 = false := by kernel_rfl
theorem smL_size (n : UInt8) : (Try.prog.info? 23).map (·.size) = some ((smL n).map bval).length := by rw [List.length_map, smL_length]; exact Try.arr23
theorem zer_size : (Try.prog.info? 23).map (·.size) = some (zer.map bval).length := by rw [List.length_map, zer_length]; exact Try.arr23
theorem build_zer (w : World) : (Instr.build 23 #[]).run Try.prog w = .ok (.agg (zer.map bval).toArray) w := by
  simp [Instr.build, Try.zeroValue23]
  rfl
theorem build_one (w : World) : (Instr.build 23 #[(0, .int .u8 1)]).run Try.prog w = .ok (.agg ((smL 1).map bval).toArray) w := by
  simp [Instr.build, Try.zeroValue23]
  rfl
theorem num_size {l : List UInt8} (h : l.length = 32) : (Try.prog.info? 23).map (·.size) = some (l.map bval).length := by rw [List.length_map, h]; exact Try.arr23

end Go.Proofs.Ytelenldabjmjbaa

/- The walk of package poly's Sum. Each theorem names its own conditions. -/
namespace Go.Proofs.Ytelenldabjmjbaa
open Go.RowKit
set_option linter.unusedVariables false
set_option linter.unusedSimpArgs false

theorem Try.ptag30 : (Try.prog.info? 30).map (·.size) = some 16 := by kernel_rfl
theorem ptag_size {l : List UInt8} (h : l.length = 16) : (Try.prog.info? 30).map (·.size) = some (l.map bval).length := by rw [List.length_map, h]; exact Try.ptag30
theorem rA_iB (kb : List UInt8) (hk : kb.length = 32) : iB (kb.take 16 ++ [0]) = rA kb 16 := by
  apply ext_getD (by rw [iB_length, rA_length, List.length_append, List.length_take, hk]; rfl)
  intro i hi
  rw [iB_getD, rA_getD kb 16 (by omega) i]
  by_cases h : i < 16
  · rw [if_pos h]
    simp [List.getD, List.getElem?_append_left (show i < (kb.take 16).length by rw [List.length_take]; omega), List.getElem?_take, h]
  · rw [if_neg h]
    rw [iB_length, List.length_append, List.length_take, hk] at hi
    have e : i = 16 := by simp at hi; omega
    subst e
    simp [List.getD, hk]
/-- The key's halves, laid over a block. -/
theorem half_laid (c : List UInt8) (hc : c.length = 16) : splice ((List.replicate 17 (0 : UInt8)).map bval) 0 (c.map bval) = (c ++ [0]).map bval := by
  rw [splice_bytes, hc]
  simp
theorem tag_laid (c : List UInt8) (hc : c.length = 16) : splice ((List.replicate 16 (0 : UInt8)).map bval) 0 (c.map bval) = c.map bval := by
  rw [splice_bytes, hc]
  simp

set_option maxRecDepth 100000 in
set_option maxHeartbeats 8000000 in
theorem PSum_num (kb : List UInt8) (v : Value) (ls : List (List UInt8)) (w : World) (hk : kb.length = 32) (hv : RowB w v ls) (hm : ls.flatten.length ≤ 1099511627776) :
    Calls Try.prog 12 #[.agg (kb.map bval).toArray, v] w fun e w' => e = .returned (.agg ((polyTag kb ls.flatten).map bval).toArray) ∧ Below w.heap.size w w' := by
  obtain ⟨a, cap, rfl⟩ := rowB_any hv
  have HKL := Lib.hid hk
  have HRB := Lib.hid hv
  have HM := Lib.hid hm
  have HB := Lib.hid (boxes4 w (kb.map bval) (ints .u8 (List.replicate 16 0)) (ints .u8 (List.replicate 17 0)) (ints .u8 (List.replicate 17 0)) 23 30 43 43)
  clear hk hv hm
  go_enter Try.func12, Try.ntmps12
  go_upto_region 2 with (fail)
  obtain ⟨H1, H2, H3, H4, HE⟩ := HB.out
  change Code.wp _ _ _ _ ((((w.alloc (.cells (kb.map bval).toArray 23)).alloc (.cells (ints .u8 (List.replicate 16 0)).toArray 30)).alloc (.cells (ints .u8 (List.replicate 17 0)).toArray 43)).alloc (.cells (ints .u8 (List.replicate 17 0)).toArray 43))
  generalize (((w.alloc (.cells (kb.map bval).toArray 23)).alloc (.cells (ints .u8 (List.replicate 16 0)).toArray 30)).alloc (.cells (ints .u8 (List.replicate 17 0)).toArray 43)).alloc (.cells (ints .u8 (List.replicate 17 0)).toArray 43) = wa at *
  obtain ⟨A, hA⟩ : ∃ A, A = w.heap.size := ⟨_, rfl⟩
  have HAW : Hid (w.heap.size ≤ A) := Lib.hid (by omega)
  rw [← hA] at H1 H2 H3 H4 ⊢
  have H1 := Lib.hid H1
  have H2 := Lib.hid H2
  have H3 : Hid (Blk wa (A + 1 + 1) ((List.replicate 17 (0 : UInt8)).map bval) 43) := Lib.hid H3
  have H4 : Hid (Blk wa (A + 1 + 1 + 1) ((List.replicate 17 (0 : UInt8)).map bval) 43) := Lib.hid H4
  have HE : Hid (Ext w wa) := Lib.hid HE
  clear hA HB
  refine wp_region_from 2 1 2 rfl (by kernel_rfl) (by kernel_rfl) (fun d v c a w h => by cases d <;> exact h) (by kernel_rfl) ?_
  refine det_val (.slice (some ⟨A + 1 + 1, 0, none⟩) 16 17) (by rfl) (fun w hw => by go_simp) ?_
  simp only [Act.put, List.setIfInBounds_toArray, List.set_cons_zero, List.set_cons_succ]
  refine det_val (.slice (some ⟨A, 0, none⟩) 16 32) (by rfl) (fun w hw => by go_simp) ?_
  simp only [Act.put, List.setIfInBounds_toArray, List.set_cons_zero, List.set_cons_succ]
  refine det_nil (end_store (k := 2) rfl (by kernel_rfl) (by kernel_rfl) (by kernel_rfl) rfl (fun w1 hw1 => ?_))
  have H1 := Lib.hid (ext_blk H1.out hw1)
  have H2 := Lib.hid (ext_blk H2.out hw1)
  have H3 := Lib.hid (ext_blk H3.out hw1)
  have H4 := Lib.hid (ext_blk H4.out hw1)
  have HE := Lib.hid (HE.out.trans hw1)
  clear hw1
  refine wp_copy_blk _ _ 27 27 rfl 5 Try.underlying27 num_one _ _ _ _ _ _ rfl rfl (A + 1 + 1) 0 _ _ H3.out ((kb.take 16).map bval) (by rw [List.length_map, List.length_take, HKL.out]; rfl) (fun _ => ⟨rfl, ⟨A, 0, none⟩, rfl, fun j v hj => ?_⟩) (by simp [HKL.out]) (bval_one _) ?_
  · have hj2 : j < 16 := by
      rcases Nat.lt_or_ge j 16 with h | h
      · exact h
      · rw [List.getElem?_eq_none (by rw [List.length_map, List.length_take]; omega)] at hj; cases hj
    rw [WideShapes.add_plain, Nat.zero_add, H1.out.cell, ← hj, List.getElem?_map, List.getElem?_map, List.getElem?_take, if_pos hj2]
  intro w2 hb2 hg2
  rw [half_laid _ (by rw [List.length_take, HKL.out]; rfl)] at hb2
  have H1 := Lib.hid (H1.out.grown hg2 (by simp; omega))
  have H2 := Lib.hid (H2.out.grown hg2 (by simp))
  have H4 := Lib.hid (H4.out.grown hg2 (by simp))
  have HE := Lib.hid (ext_grown HE.out hg2 (by have := HAW.out; omega))
  have H3 := Lib.hid hb2
  clear hb2 hg2
  generalize goInt ((kb.take 16).map bval).length = g1
  simp only [Act.put, List.getElem_toArray, List.getElem_cons_zero, List.getElem_cons_succ, List.setIfInBounds_toArray, List.set_cons_zero, List.set_cons_succ]
  go_upto_region 3 with (fail)
  refine wp_region_from 2 1 2 rfl (by kernel_rfl) (by kernel_rfl) (fun d v c a w h => by cases d <;> exact h) (by kernel_rfl) ?_
  refine det_val (.slice (some ⟨A + 1 + 1 + 1, 0, none⟩) 16 17) (by rfl) (fun w hw => by go_simp) ?_
  simp only [Act.put, List.setIfInBounds_toArray, List.set_cons_zero, List.set_cons_succ]
  refine det_val (.slice (some ⟨A, 16, none⟩) 16 16) (by rfl) (fun w hw => by go_simp) ?_
  simp only [Act.put, List.setIfInBounds_toArray, List.set_cons_zero, List.set_cons_succ]
  refine det_nil (end_store (k := 2) rfl (by kernel_rfl) (by kernel_rfl) (by kernel_rfl) rfl (fun w3 hw3 => ?_))
  have H1 := Lib.hid (ext_blk H1.out hw3)
  have H2 := Lib.hid (ext_blk H2.out hw3)
  have H3 := Lib.hid (ext_blk H3.out hw3)
  have H4 := Lib.hid (ext_blk H4.out hw3)
  have HE := Lib.hid (HE.out.trans hw3)
  clear hw3
  have HSL : Hid (((kb.drop 16).take 16).length = 16) := Lib.hid (by rw [List.length_take, List.length_drop, HKL.out]; rfl)
  refine wp_copy_blk _ _ 27 27 rfl 5 Try.underlying27 num_one _ _ _ _ _ _ rfl rfl (A + 1 + 1 + 1) 0 _ _ H4.out (((kb.drop 16).take 16).map bval) (by rw [List.length_map, HSL.out]; rfl) (fun _ => ⟨rfl, ⟨A, 16, none⟩, rfl, fun j v hj => ?_⟩) (by rw [List.length_map, HSL.out]; simp) (bval_one _) ?_
  · have hj2 : j < 16 := by
      rcases Nat.lt_or_ge j 16 with h | h
      · exact h
      · rw [List.getElem?_eq_none (by rw [List.length_map, HSL.out]; omega)] at hj; cases hj
    rw [WideShapes.add_plain, H1.out.cell, ← hj, List.getElem?_map, List.getElem?_map, List.getElem?_take, if_pos hj2, List.getElem?_drop]
  intro w4 hb4 hg4
  rw [half_laid _ HSL.out, bval_ints] at hb4
  have H2 := Lib.hid (H2.out.grown hg4 (by simp; omega))
  have H3 := Lib.hid (H3.out.grown hg4 (by simp))
  have HE := Lib.hid (ext_grown HE.out hg4 (by have := HAW.out; omega))
  have H4 := Lib.hid hb4
  clear hb4 hg4 H1
  rw [bval_ints, rA_iB kb HKL.out] at H3
  generalize goInt (((kb.drop 16).take 16).map bval).length = g2
  simp only [Act.put, List.getElem_toArray, List.getElem_cons_zero, List.getElem_cons_succ, List.setIfInBounds_toArray, List.set_cons_zero, List.set_cons_succ]
  -- the fold
  obtain ⟨m, hm⟩ : ∃ m, m = ls.flatten := ⟨_, rfl⟩
  have HM := HM.out
  rw [← hm] at HM
  have hrl := rL_val kb
  have hfv := fL_val kb m ((m.length + 15) / 16)
  have hsv := sL_val HKL.out
  obtain ⟨o17, ho1, ho2, ho3⟩ := tag_bytes (key := kb) (m := m) HKL.out
  have hov := outL_val (key := kb) (m := m) HKL.out
  have hrv := redL_val hfv.1.lim.len (fun i => (hfv.1.lim.getD (by omega) i).1) hfv.1.below
  have hav := addL_val hrv.1 hsv.1
  have HFO := Lib.hid (fun w' (h : Ext w w') => pfolded_any (.slice a ls.length cap) ls (rL kb) w w' HRB.out h hrl.1 (by rw [← hm]; exact HM))
  rw [← hm] at HFO
  obtain ⟨R, hR⟩ : ∃ R, R = rL kb := ⟨_, rfl⟩
  obtain ⟨F, hF⟩ : ∃ F, F = fL R m ((m.length + 15) / 16) := ⟨_, rfl⟩
  obtain ⟨D, hD⟩ : ∃ D, D = redL F := ⟨_, rfl⟩
  obtain ⟨S, hS⟩ : ∃ S, S = sL kb := ⟨_, rfl⟩
  obtain ⟨P, hP⟩ : ∃ P, P = addL D S := ⟨_, rfl⟩
  obtain ⟨O, hO⟩ : ∃ O, O = setL P := ⟨_, rfl⟩
  have HOO : Hid (O = outL kb m) := Lib.hid (by rw [hO, hP, hD, hS, hF, hR]; rfl)
  rw [← hR, ← hF] at hfv hrv hav HFO
  rw [← hR] at hrl
  rw [← hD] at hrv hav
  rw [← hS] at hsv hav
  rw [← hP] at hav
  rw [← HOO.out] at hov ho2
  have C1 : Hid (∀ w, Calls Try.prog 18 #[.agg (ints .u8 (rA kb 16)).toArray] w fun e w' => e = .returned (.agg (ints .u8 (rC kb 3)).toArray) ∧ Below w.heap.size w w') := Lib.hid (pclamped_any kb)
  have C2 : Hid (∀ w, Calls Try.prog 17 #[.agg (ints .u8 (rC kb 3)).toArray] w fun e w' => e = .returned (.agg (ints .u64 R).toArray) ∧ Below w.heap.size w w') := Lib.hid (fun w => by rw [hR]; exact plimbs_any _ w (D17_rC kb))
  have C3 : Hid (∀ w, Calls Try.prog 22 #[.agg (ints .u64 F).toArray] w fun e w' => e = .returned (.agg (ints .u64 D).toArray) ∧ Below w.heap.size w w') := Lib.hid (fun w => by rw [hD]; exact preduced_any _ w (hfv.1.lim.up (by omega)))
  have hq17 : ((kb.drop 16).take 16 ++ [0]).length = 17 := by rw [List.length_append, HSL.out]; rfl
  have C4 : Hid (∀ w, Calls Try.prog 17 #[.agg (ints .u8 (iB ((kb.drop 16).take 16 ++ [0]))).toArray] w fun e w' => e = .returned (.agg (ints .u64 S).toArray) ∧ Below w.heap.size w w') := Lib.hid (fun w => by rw [hS]; exact plimbs_any _ w (D17_iB hq17))
  have C5 : Hid (∀ w, Calls Try.prog 21 #[.agg (ints .u64 D).toArray, .agg (ints .u64 S).toArray] w fun e w' => e = .returned (.agg (ints .u64 P).toArray) ∧ Below w.heap.size w w') := Lib.hid (fun w => by rw [hP]; exact pplus_any _ _ w (hrv.1.up (by omega)) (hsv.1.up (by omega)))
  have C6 : Hid (∀ w, Calls Try.prog 20 #[.agg (ints .u64 P).toArray] w fun e w' => e = .returned (.agg (ints .u64 O).toArray) ∧ Below w.heap.size w w') := Lib.hid (fun w => by rw [hO]; exact psettled_any _ w (hav.1.up (by omega)))
  have C7 : Hid (∀ w, Calls Try.prog 19 #[.agg (ints .u64 O).toArray] w fun e w' => e = .returned (.agg (ints .u8 (iB o17)).toArray) ∧ Below w.heap.size w w') := Lib.hid (fun w => by rw [← ho2]; exact pblock_any _ w hov.1)
  have HIF := Lib.hid (lim_size hfv.1.lim.len)
  have HLF : Hid ((ints .u64 F).length = (ints .u64 (List.replicate 5 0)).length) := Lib.hid (by rw [ints_length, hfv.1.lim.len]; rfl)
  have HIr := Lib.hid (blk_size17 (rA_length kb 16))
  have HIq := Lib.hid (blk_size17 (l := iB ((kb.drop 16).take 16 ++ [0])) (by rw [iB_length, hq17]))
  have HIo := Lib.hid (blk_size17 (l := iB o17) (by rw [iB_length, ho1]))
  have HLo : Hid ((ints .u8 (iB o17)).length = (ints .u8 (List.replicate 17 0)).length) := Lib.hid (by rw [ints_length, iB_length, ho1]; rfl)
  have HO1 := Lib.hid ho1
  have HO3 := Lib.hid ho3
  have HMM := Lib.hid hm
  clear hrl hfv hsv ho1 ho2 ho3 hov hrv hav hR hF hD hS hP hO hq17 HOO hm HM
  generalize rA kb 16 = ra at *
  generalize rC kb 3 = rc at *
  generalize iB ((kb.drop 16).take 16 ++ [0]) = sq at *
  obtain ⟨oi, hoi⟩ : ∃ oi, oi = iB o17 := ⟨_, rfl⟩
  rw [← hoi] at C7 HIo HLo
  have HOI := Lib.hid hoi
  clear hoi
  go_upto_region 4 with (fail)
  refine wp_region_from 6 2 7 rfl (by kernel_rfl) (by kernel_rfl) (fun d v c a w h => by cases d <;> exact h) (by kernel_rfl) ?_
  refine det_move _ (.slice a ls.length cap) (by rfl) rfl rfl ?_
  simp only [Act.put, List.setIfInBounds_toArray, List.set_cons_zero, List.set_cons_succ]
  refine det_call _ _ _ [.slice a ls.length cap] (.agg #[.slice none 0 0, .slice a ls.length cap]) (by rfl) rfl Try.call16 rfl (fun w hw => of_any a ls.length cap w) ?_
  simp only [Act.put, List.setIfInBounds_toArray, List.set_cons_zero, List.set_cons_succ]
  refine det_load _ _ (A + 1 + 1) (ints .u8 ra) _ (by rfl) rfl rfl (fun w hw => ext_range H3.out hw) Try.underlying43 rfl HIr.out ?_
  simp only [Act.put, List.setIfInBounds_toArray, List.set_cons_zero, List.set_cons_succ]
  refine det_call _ _ _ [.agg (ints .u8 ra).toArray] (.agg (ints .u8 rc).toArray) (by rfl) rfl Try.call18 rfl (fun w hw => C1.out w) ?_
  simp only [Act.put, List.setIfInBounds_toArray, List.set_cons_zero, List.set_cons_succ]
  refine det_call _ _ _ [.agg (ints .u8 rc).toArray] (.agg (ints .u64 R).toArray) (by rfl) rfl Try.call17 rfl (fun w hw => C2.out w) ?_
  simp only [Act.put, List.setIfInBounds_toArray, List.set_cons_zero, List.set_cons_succ]
  refine det_call _ _ _ [.agg #[.slice none 0 0, .slice a ls.length cap], .agg (ints .u64 R).toArray] (.agg (ints .u64 F).toArray) (by rfl) rfl Try.call15 rfl (fun w hw => HFO.out w (HE.out.trans hw)) ?_
  simp only [Act.put, List.setIfInBounds_toArray, List.set_cons_zero, List.set_cons_succ]
  refine det_nil (end_var (k := 6) _ 7 (.tmp 21) (ints .u64 (List.replicate 5 0)) (ints .u64 F) rfl rfl (by kernel_rfl) (by kernel_rfl) (by kernel_rfl) (by kernel_rfl) (by kernel_rfl) rfl rfl rfl rfl Try.zeroValue46 rfl (by simp) (fun p => rfl) HLF.out HIF.out (ints_one _ _) (fun p5 w5 hp5 hb5 he5 => ?_))
  simp only [Act.put, List.getElem_toArray, List.getElem_cons_zero, List.getElem_cons_succ, List.setIfInBounds_toArray, List.set_cons_zero, List.set_cons_succ]
  have H2 := Lib.hid (ext_blk H2.out he5)
  have H4 := Lib.hid (ext_blk H4.out he5)
  have HE := Lib.hid (HE.out.trans he5)
  have H5 := Lib.hid hb5
  clear hb5 he5 hp5 H3
  go_upto_region 5 with (fail)
  refine wp_region_from 7 2 8 rfl (by kernel_rfl) (by kernel_rfl) (fun d v c a w h => by cases d <;> exact h) (by kernel_rfl) ?_
  refine det_load _ _ p5 (ints .u64 F) _ (by rfl) rfl rfl (fun w hw => ext_range H5.out hw) Try.underlying46 rfl HIF.out ?_
  simp only [Act.put, List.setIfInBounds_toArray, List.set_cons_zero, List.set_cons_succ]
  refine det_call _ _ _ [.agg (ints .u64 F).toArray] (.agg (ints .u64 D).toArray) (by rfl) rfl Try.call22 rfl (fun w hw => C3.out w) ?_
  simp only [Act.put, List.setIfInBounds_toArray, List.set_cons_zero, List.set_cons_succ]
  refine det_load _ _ (A + 1 + 1 + 1) (ints .u8 sq) _ (by rfl) rfl rfl (fun w hw => ext_range H4.out hw) Try.underlying43 rfl HIq.out ?_
  simp only [Act.put, List.setIfInBounds_toArray, List.set_cons_zero, List.set_cons_succ]
  refine det_call _ _ _ [.agg (ints .u8 sq).toArray] (.agg (ints .u64 S).toArray) (by rfl) rfl Try.call17 rfl (fun w hw => C4.out w) ?_
  simp only [Act.put, List.setIfInBounds_toArray, List.set_cons_zero, List.set_cons_succ]
  refine det_call _ _ _ [.agg (ints .u64 D).toArray, .agg (ints .u64 S).toArray] (.agg (ints .u64 P).toArray) (by rfl) rfl Try.call21 rfl (fun w hw => C5.out w) ?_
  simp only [Act.put, List.setIfInBounds_toArray, List.set_cons_zero, List.set_cons_succ]
  refine det_call _ _ _ [.agg (ints .u64 P).toArray] (.agg (ints .u64 O).toArray) (by rfl) rfl Try.call20 rfl (fun w hw => C6.out w) ?_
  simp only [Act.put, List.setIfInBounds_toArray, List.set_cons_zero, List.set_cons_succ]
  refine det_call _ _ _ [.agg (ints .u64 O).toArray] (.agg (ints .u8 oi).toArray) (by rfl) rfl Try.call19 rfl (fun w hw => C7.out w) ?_
  simp only [Act.put, List.setIfInBounds_toArray, List.set_cons_zero, List.set_cons_succ]
  refine det_nil (end_var (k := 7) _ 8 (.tmp 28) (ints .u8 (List.replicate 17 0)) (ints .u8 oi) rfl rfl (by kernel_rfl) (by kernel_rfl) (by kernel_rfl) (by kernel_rfl) (by kernel_rfl) rfl rfl rfl rfl Try.zeroValue43 rfl (by simp) (fun p => rfl) HLo.out HIo.out (ints_one _ _) (fun p6 w6 hp6 hb6 he6 => ?_))
  simp only [Act.put, List.getElem_toArray, List.getElem_cons_zero, List.getElem_cons_succ, List.setIfInBounds_toArray, List.set_cons_zero, List.set_cons_succ]
  have H2 := Lib.hid (ext_blk H2.out he6)
  have HE := Lib.hid (HE.out.trans he6)
  rw [HOI.out, ← bval_ints] at hb6
  have H6 := Lib.hid hb6
  clear hb6 he6 hp6 H4 H5
  have HXA := Ext.alloc w6 (.cells (ints .u8 (List.replicate 16 0)).toArray 30)
  obtain ⟨T, hT⟩ : ∃ T, T = w6.heap.size := ⟨_, rfl⟩
  have HTA : Hid (A + 1 < T ∧ p6 < T) := Lib.hid (by have := H2.out.lt; have := H6.out.lt; omega)
  have H7 : Hid (Blk (w6.alloc (.cells (ints .u8 (List.replicate 16 0)).toArray 30)) T ((List.replicate 16 (0 : UInt8)).map bval) 30) := Lib.hid (by rw [hT]; exact Blk.made w6 (ints .u8 (List.replicate 16 0)) 30)
  have H2 := Lib.hid (ext_blk H2.out HXA)
  have H6 := Lib.hid (ext_blk H6.out HXA)
  have HE := Lib.hid (HE.out.trans HXA)
  clear HXA
  go_upto_region 7 with (fail)
  change Code.wp _ _ _ _ (w6.alloc (.cells (ints .u8 (List.replicate 16 0)).toArray 30))
  rw [← hT]
  clear hT
  generalize w6.alloc (.cells (ints .u8 (List.replicate 16 0)).toArray 30) = w7 at *
  refine wp_region_from 2 1 2 rfl (by kernel_rfl) (by kernel_rfl) (fun d v c a w h => by cases d <;> exact h) (by kernel_rfl) ?_
  refine det_val (.slice (some ⟨T, 0, none⟩) 16 16) (by rfl) (fun w hw => by go_simp) ?_
  simp only [Act.put, List.setIfInBounds_toArray, List.set_cons_zero, List.set_cons_succ]
  refine det_val (.slice (some ⟨p6, 0, none⟩) 17 17) (by rfl) (fun w hw => by go_simp) ?_
  simp only [Act.put, List.setIfInBounds_toArray, List.set_cons_zero, List.set_cons_succ]
  refine det_nil (end_store (k := 2) rfl (by kernel_rfl) (by kernel_rfl) (by kernel_rfl) rfl (fun w8 hw8 => ?_))
  have H2 := Lib.hid (ext_blk H2.out hw8)
  have H6 := Lib.hid (ext_blk H6.out hw8)
  have H7 := Lib.hid (ext_blk H7.out hw8)
  have HE := Lib.hid (HE.out.trans hw8)
  clear hw8
  have HTL : Hid ((o17.take 16).length = 16) := Lib.hid (by rw [List.length_take, HO1.out]; rfl)
  refine wp_copy_blk _ _ 27 27 rfl 5 Try.underlying27 num_one _ _ _ _ _ _ rfl rfl T 0 _ _ H7.out ((o17.take 16).map bval) (by rw [List.length_map, HTL.out]; rfl) (fun _ => ⟨rfl, ⟨p6, 0, none⟩, rfl, fun j v hj => ?_⟩) (by rw [List.length_map, HTL.out]; simp) (bval_one _) ?_
  · have hj2 : j < 16 := by
      rcases Nat.lt_or_ge j 16 with h | h
      · exact h
      · rw [List.getElem?_eq_none (by rw [List.length_map, HTL.out]; omega)] at hj; cases hj
    rw [WideShapes.add_plain, Nat.zero_add, H6.out.cell, ← hj, List.getElem?_map, List.getElem?_map, List.getElem?_take, if_pos hj2]
  intro w9 hb9 hg9
  rw [tag_laid _ HTL.out] at hb9
  have H2 := Lib.hid (H2.out.grown hg9 (by have := HTA.out; simp; omega))
  have HE := Lib.hid (ext_grown HE.out hg9 (by have := HTA.out; have := HAW.out; omega))
  have H7 := Lib.hid hb9
  clear hb9 hg9
  generalize goInt ((o17.take 16).map bval).length = g3
  simp only [Act.put, List.getElem_toArray, List.getElem_cons_zero, List.getElem_cons_succ, List.setIfInBounds_toArray, List.set_cons_zero, List.set_cons_succ]
  generalize o17.take 16 = tg at *
  have HIt : Hid ((Try.prog.info? 30).map (·.size) = some (tg.map bval).length) := Lib.hid (ptag_size HTL.out)
  have HLt : Hid ((tg.map bval).length = (ints .u8 (List.replicate 16 0)).length) := Lib.hid (by rw [List.length_map, HTL.out]; rfl)
  go_wp2_with (first | (refine wpList_load_blk rfl _ _ rfl T rfl _ _ _ _ H7.out Try.underlying30 HIt.out ?_) | (refine wpList_store_blk rfl _ _ _ rfl (A + 1) (tg.map bval) rfl rfl _ _ H2.out HLt.out HIt.out (bval_one _) ?_; intro w10 hb10 hg10))
  refine bodyPost_ret (result_blk rfl _ (A + 1) _ _ _ _ rfl hb10 Try.underlying30 HIt.out) rfl ?_
  exact ⟨by rw [HO3.out, HMM.out], ext_grown HE.out hg10 (by have := HAW.out; omega)⟩

end Go.Proofs.Ytelenldabjmjbaa

/- The walk of the document's own carry of seventeen digits. Each theorem names its own conditions. -/
namespace Go.Proofs.Ytelenldabjmjbaa
open Go.RowKit
set_option linter.unusedVariables false
set_option linter.unusedSimpArgs false

theorem Try.arr39 : (Try.prog.info? 39).map (·.size) = some 17 := by kernel_rfl
theorem d17_size {l : List Int} (h : l.length = 17) : (Try.prog.info? 39).map (·.size) = some (ints .i64 l).length := by rw [ints_length, h]; exact Try.arr39
theorem and_i64_3 (a : Int) (h1 : -9223372036854775808 ≤ a) (h2 : a ≤ 9223372036854775807) : bits .and .i64 a 3 = a % 4 := by
  have h : (BitVec.ofInt 64 3).toNat = 2 ^ 2 - 1 := by decide
  have key : (BitVec.ofInt 64 a &&& BitVec.ofInt 64 3).toNat = (a % ((2 ^ 64 : Nat) : Int)).toNat % 2 ^ 2 := by
    rw [BitVec.toNat_and, BitVec.toNat_ofInt, h, Nat.and_two_pow_sub_one_eq_mod]
  show IntKind.i64.wrap ((BitVec.ofInt 64 a &&& BitVec.ofInt 64 3).toNat : Nat) = _
  rw [key, IntKind.wrap_i64]
  omega
def qN (h : List Int) : Nat → List Int
  | 0 => h
  | k + 1 => qPass (qN h k)
theorem qN_length (h : List Int) : ∀ k, (qN h k).length = h.length
  | 0 => rfl
  | k + 1 => by rw [qN, qPass_length, qN_length h k]
theorem qN_three (h : List Int) : qN h 3 = qThree h := rfl
theorem qPass_le (h : List Int) (hl : h.length = 17) {M : Int} (hM : 255 ≤ M) (hn : ∀ i, 0 ≤ h.getD i 0 ∧ h.getD i 0 ≤ M) : ∀ i, 0 ≤ (qPass h).getD i 0 ∧ (qPass h).getD i 0 ≤ 4 * M := by
  intro i
  refine ⟨qPass_nonneg h hl (fun i => (hn i).1) i, ?_⟩
  have hlen : (qRun h 16).1.length = 17 := by rw [qRun_length, hl]
  have hs := qRun_small h hl 16 (Nat.le_refl _)
  have hu := qRun_top h hn 16
  have hu0 := qRun_nonneg h (fun i => (hn i).1) 16
  have h16 := hn 16
  unfold qPass
  by_cases e : i = 0
  · subst e
    rw [getD_set_same (by simp [hlen])]
    have := hs 0 (by omega)
    omega
  · rw [getD_set_far (by omega)]
    by_cases e2 : i = 16
    · subst e2
      rw [getD_set_same (by omega)]
      omega
    · rw [getD_set_far (by omega)]
      rcases Nat.lt_or_ge i 16 with h | h
      · have := (hs i h).2
        omega
      · rw [getD_out (by omega)]
        omega
theorem qN_le (h : List Int) (hl : h.length = 17) (hn : ∀ i, 0 ≤ h.getD i 0 ∧ h.getD i 0 ≤ 1099511627776) (k : Nat) (hk : k ≤ 3) : ∀ i, 0 ≤ (qN h k).getD i 0 ∧ (qN h k).getD i 0 ≤ 70368744177664 := by
  have l1 : (qN h 1).length = 17 := by rw [qN_length, hl]
  have l2 : (qN h 2).length = 17 := by rw [qN_length, hl]
  have b1 := qPass_le h hl (by omega) hn
  have b2 := qPass_le (qN h 1) l1 (by omega) b1
  have b3 := qPass_le (qN h 2) l2 (by omega) b2
  intro i
  rcases (by omega : k = 0 ∨ k = 1 ∨ k = 2 ∨ k = 3) with rfl | rfl | rfl | rfl
  · have := hn i
    exact ⟨this.1, Int.le_trans this.2 (by decide)⟩
  · exact ⟨(b1 i).1, Int.le_trans (b1 i).2 (by decide)⟩
  · exact ⟨(b2 i).1, Int.le_trans (b2 i).2 (by decide)⟩
  · exact ⟨(b3 i).1, Int.le_trans (b3 i).2 (by decide)⟩
theorem digit_cell {w : World} {S i : Nat} {l : List Int} {t : TypeId} (h : Blk w S (ints .i64 l) t) (hi : i < l.length) : w.cell? ⟨S, i, none⟩ = some (.int .i64 (l.getD i 0)) := by
  rw [h.cell, ints_get hi]

set_option maxRecDepth 100000 in
set_option maxHeartbeats 16000000 in
theorem carried17_any (H : List Int) (w : World) (hl : H.length = 17) (hb : ∀ i, 0 ≤ H.getD i 0 ∧ H.getD i 0 ≤ 1099511627776) :
    Calls Try.prog 23 #[.agg (ints .i64 H).toArray] w fun e w' => e = .returned (.agg (ints .i64 (qThree H)).toArray) ∧ Below w.heap.size w w' := by
  have HL := Lib.hid hl
  have HBD := Lib.hid (qN_le H hl hb)
  have HB := Lib.hid (boxes2 w (ints .i64 H) (ints .i64 (List.replicate 17 0)) 39 39)
  clear hl hb
  go_enter Try.func23, Try.ntmps23
  go_upto_region 1 with (fail)
  obtain ⟨H1, H2, HE⟩ := HB.out
  change Code.wp _ _ _ _ ((w.alloc (.cells (ints .i64 H).toArray 39)).alloc (.cells (ints .i64 (List.replicate 17 0)).toArray 39))
  generalize (w.alloc (.cells (ints .i64 H).toArray 39)).alloc (.cells (ints .i64 (List.replicate 17 0)).toArray 39) = wa at *
  obtain ⟨A, hA⟩ : ∃ A, A = w.heap.size := ⟨_, rfl⟩
  have HAW : Hid (w.heap.size ≤ A) := Lib.hid (by omega)
  rw [← hA] at H1 H2 ⊢
  have H1 := Lib.hid H1
  have H2 := Lib.hid H2
  have HE : Hid (Ext w wa) := Lib.hid HE
  clear hA HB
  go_wp2_with fail
  go_loopw [3] (fun kv wr => ∃ (k : Nat), k ≤ 3 ∧ kv = .int .i64 (k : Int) ∧ Blk wr A (ints .i64 (qN H k)) 39 ∧ Blk wr (A + 1) (ints .i64 (List.replicate 17 0)) 39 ∧ Ext w wr) (fun kv _ => 3 - (intOf kv).toNat)
  case atStart => exact ⟨0, by omega, rfl, H1.out, H2.out, HE.out⟩
  case round =>
    clear H1 H2 HE
    obtain ⟨k, hk, rfl, hb1, hb2, hbel⟩ := hrel
    have k0 : (0 : Int) ≤ (k : Int) := Int.natCast_nonneg _
    by_cases hlk : k < 3
    · have k1 : (k : Int) < 3 := by omega
      have HQ : Hid (qN H (k + 1) = qPass (qN H k)) := Lib.hid rfl
      have HBh := Lib.hid (HBD.out k (by omega))
      have HLh : Hid ((qN H k).length = 17) := Lib.hid (by rw [qN_length]; exact HL.out)
      have H1 := Lib.hid hb1
      have H2 := Lib.hid hb2
      have HE := Lib.hid hbel
      clear hb1 hb2 hbel
      generalize qN H k = h at *
      go_wp2_with fail
      go_loopw [4, 5] (fun uv iv wr => ∃ (i : Nat), i ≤ 16 ∧ uv = .int .i64 (qRun h i).2 ∧ iv = .int .i64 (i : Int) ∧ Blk wr A (ints .i64 (qRun h i).1) 39 ∧ Blk wr (A + 1) (ints .i64 (List.replicate 17 0)) 39 ∧ Ext w wr) (fun _ iv _ => 16 - (intOf iv).toNat)
      case atStart => exact ⟨0, by omega, rfl, rfl, H1.out, H2.out, HE.out⟩
      case round =>
        clear H1 H2 HE
        obtain ⟨i, hi, rfl, rfl, hb1, hb2, hbel⟩ := hrel
        have i0 : (0 : Int) ≤ (i : Int) := Int.natCast_nonneg _
        have hu0 := qRun_nonneg h (fun i => (HBh.out i).1) i
        have hu1 := qRun_top h HBh.out i
        have hrl : (qRun h i).1.length = 17 := by rw [qRun_length]; exact HLh.out
        have H1 := Lib.hid hb1
        have H2 := Lib.hid hb2
        have HE := Lib.hid hbel
        by_cases hli : i < 16
        · have i1 : (i : Int) < 17 := by omega
          have i2 : (i : Int) < 16 := by omega
          have c1 := digit_cell hb1 (i := i) (by rw [hrl]; omega)
          have f1 := hb1.free i
          have hz := HBh.out i
          have hfar := qRun_far h i i (Nat.le_refl _)
          have HS1 : Hid ((qRun h (i + 1)).1 = (qRun h i).1.set i (((qRun h i).2 + (qRun h i).1.getD i 0) % 256)) := Lib.hid rfl
          have HS2 : Hid ((qRun h (i + 1)).2 = ((qRun h i).2 + (qRun h i).1.getD i 0) / 256) := Lib.hid rfl
          rw [← hfar] at hz
          clear hb1 hb2 hbel hfar
          generalize (qRun h i).1.getD i 0 = z at *
          generalize (qRun h i).2 = u at *
          obtain ⟨z0, z1⟩ := hz
          have a1 := and_i64_255 (u + z) (by omega) (by omega)
          go_wp2_with fail
          go_roundw
          case rel =>
            refine ⟨i + 1, by omega, by rw [HS2.out], by go_num, ?_, H2.out.far (by simp) _, Below.setCell HE.out (by have := HAW.out; simp; omega) _⟩
            rw [HS1.out]
            exact H1.out.seti i _
          case measure => simp [intOf]; omega
        · have hi16 : i = 16 := by omega
          subst hi16
          rw [show ((16 : Nat) : Int) = 16 from rfl]
          have HP : Hid (qPass h = ((qRun h 16).1.set 16 (((qRun h 16).2 + h.getD 16 0) % 4)).set 0 ((qRun h 16).1.getD 0 0 + 5 * (((qRun h 16).2 + h.getD 16 0) / 4))) := Lib.hid rfl
          have c1 := digit_cell hb1 (i := 16) (by rw [hrl]; omega)
          have f1 := hb1.free 16
          have hz := HBh.out 16
          have hfar := qRun_far h 16 16 (Nat.le_refl _)
          rw [hfar] at c1
          have hsm := qRun_small h HLh.out 16 (Nat.le_refl _) 0 (by omega)
          clear hb1 hb2 hbel hfar
          generalize hqr : (qRun h 16).1 = rr at *
          generalize (qRun h 16).2 = u at *
          generalize h.getD 16 0 = z at *
          obtain ⟨z0, z1⟩ := hz
          have a1 := and_i64_3 (u + z) (by omega) (by omega)
          have H1n : Hid (Blk (wr.setCell ⟨A, 16, none⟩ (.int .i64 ((u + z) % 4))) A (ints .i64 (rr.set 16 ((u + z) % 4))) 39) := Lib.hid (H1.out.seti 16 _)
          have H2n := Lib.hid (H2.out.far (a := ⟨A, 16, none⟩) (by simp) (.int .i64 ((u + z) % 4)))
          have HEn : Hid (Ext w (wr.setCell ⟨A, 16, none⟩ (.int .i64 ((u + z) % 4)))) := Lib.hid (Below.setCell HE.out (by have := HAW.out; simp; omega) _)
          go_upto_region 13 with (fail)
          clear H1 H2 HE c1 f1 a1
          generalize wr.setCell ⟨A, 16, none⟩ (.int .i64 ((u + z) % 4)) = w5 at *
          have c1 := digit_cell H1n.out (i := 0) (by rw [List.length_set, hrl]; omega)
          rw [getD_set_far (by omega)] at c1
          have f1 := H1n.out.free 0
          have H1m := Lib.hid (H1n.out.seti 0 (rr.getD 0 0 + 5 * ((u + z) / 4)))
          rw [← HP.out] at H1m
          generalize rr.getD 0 0 = y at *
          obtain ⟨y0, y1⟩ := hsm
          go_wp2_with fail
          go_roundw
          case rel => exact ⟨k + 1, by omega, by go_num, by rw [HQ.out]; exact H1m.out, H2n.out.far (by simp) _, Below.setCell HEn.out (by have := HAW.out; simp; omega) _⟩
          case measure => simp [intOf]; omega
    · have hk3 : k = 3 := by omega
      subst hk3
      rw [qN_three] at hb1
      have hlen : (qThree H).length = 17 := by rw [← qN_three, qN_length]; exact HL.out
      obtain ⟨o, ho⟩ : ∃ o, o = qThree H := ⟨_, rfl⟩
      rw [← ho] at hb1 hlen
      have HO := Lib.hid ho
      have H1 := Lib.hid hb1
      have H2 := Lib.hid hb2
      have HE := Lib.hid hbel
      have HIo := Lib.hid (d17_size hlen)
      have HLo : Hid ((ints .i64 o).length = (ints .i64 (List.replicate 17 0)).length) := Lib.hid (by rw [ints_length, hlen, ints_length, List.length_replicate])
      clear hb1 hb2 hbel ho hlen
      go_wp2_with (first | (refine wpList_load_blk rfl _ _ rfl A rfl _ _ _ _ H1.out Try.underlying39 HIo.out ?_) | (refine wpList_store_blk rfl _ _ _ rfl (A + 1) (ints .i64 o) rfl rfl _ _ H2.out HLo.out HIo.out (ints_one _ _) ?_; intro w9 hb9 hg9))
      refine bodyPost_ret (result_blk rfl _ (A + 1) _ _ _ _ rfl hb9 Try.underlying39 HIo.out) rfl ?_
      exact ⟨by rw [HO.out], ext_grown HE.out hg9 (by have := HAW.out; omega)⟩

end Go.Proofs.Ytelenldabjmjbaa

/- The walk of the document's own product of seventeen digits. Each theorem names its own conditions. -/
namespace Go.Proofs.Ytelenldabjmjbaa
open Go.RowKit
set_option linter.unusedVariables false
set_option linter.unusedSimpArgs false

theorem tCo_lo (r : List Int) {i j : Nat} (h : j ≤ i) : tCo r i j = r.getD (i - j) 0 := by unfold tCo; rw [if_pos h]
theorem tCo_hi (r : List Int) {i j : Nat} (h : i < j) : tCo r i j = 320 * r.getD (i + 17 - j) 0 := by unfold tCo; rw [if_neg (by omega)]
theorem tList_le {h r : List Int} (hh : ∀ i, 0 ≤ h.getD i 0 ∧ h.getD i 0 ≤ 1024) (hr : ∀ i, 0 ≤ r.getD i 0 ∧ r.getD i 0 ≤ 255) : ∀ i, 0 ≤ (tList h r 17).getD i 0 ∧ (tList h r 17).getD i 0 ≤ 1420492800 := fun i => by
  rw [tList_getD h r 17 (Nat.le_refl _)]
  split
  · have := tRun_bound hh hr i 17
    omega
  · omega

set_option maxRecDepth 100000 in
set_option maxHeartbeats 16000000 in
theorem times17_any (H R : List Int) (w : World) (hl : H.length = 17) (rl : R.length = 17) (hh : ∀ i, 0 ≤ H.getD i 0 ∧ H.getD i 0 ≤ 1024) (hr : ∀ i, 0 ≤ R.getD i 0 ∧ R.getD i 0 ≤ 255) :
    Calls Try.prog 13 #[.agg (ints .i64 H).toArray, .agg (ints .i64 R).toArray] w fun e w' => e = .returned (.agg (ints .i64 (qThree (tList H R 17))).toArray) ∧ Below w.heap.size w w' := by
  have HHL := Lib.hid hl
  have HRL := Lib.hid rl
  have HH := Lib.hid hh
  have HR := Lib.hid hr
  have HB := Lib.hid (boxes4 w (ints .i64 H) (ints .i64 R) (ints .i64 (List.replicate 17 0)) (ints .i64 (List.replicate 17 0)) 39 39 39 39)
  clear hl rl hh hr
  go_enter Try.func13, Try.ntmps13
  go_upto_region 2 with (fail)
  obtain ⟨H1, H2, H3, H4, HE⟩ := HB.out
  change Code.wp _ _ _ _ ((((w.alloc (.cells (ints .i64 H).toArray 39)).alloc (.cells (ints .i64 R).toArray 39)).alloc (.cells (ints .i64 (List.replicate 17 0)).toArray 39)).alloc (.cells (ints .i64 (List.replicate 17 0)).toArray 39))
  generalize (((w.alloc (.cells (ints .i64 H).toArray 39)).alloc (.cells (ints .i64 R).toArray 39)).alloc (.cells (ints .i64 (List.replicate 17 0)).toArray 39)).alloc (.cells (ints .i64 (List.replicate 17 0)).toArray 39) = wa at *
  obtain ⟨A, hA⟩ : ∃ A, A = w.heap.size := ⟨_, rfl⟩
  have HAW : Hid (w.heap.size ≤ A) := Lib.hid (by omega)
  rw [← hA] at H1 H2 H3 H4 ⊢
  have H1 := Lib.hid H1
  have H2 := Lib.hid H2
  have H3 := Lib.hid H3
  have H4 : Hid (Blk wa (A + 1 + 1 + 1) (ints .i64 (tList H R 0)) 39) := Lib.hid H4
  have HE : Hid (Ext w wa) := Lib.hid HE
  clear hA HB
  go_wp2_with fail
  go_loopw [6] (fun iv wr => ∃ (i : Nat), i ≤ 17 ∧ iv = .int .i64 (i : Int) ∧ Blk wr A (ints .i64 H) 39 ∧ Blk wr (A + 1) (ints .i64 R) 39 ∧ Blk wr (A + 1 + 1) (ints .i64 (List.replicate 17 0)) 39 ∧ Blk wr (A + 1 + 1 + 1) (ints .i64 (tList H R i)) 39 ∧ Ext w wr) (fun iv _ => 17 - (intOf iv).toNat)
  case atStart => exact ⟨0, by omega, rfl, H1.out, H2.out, H3.out, H4.out, HE.out⟩
  case round =>
    clear H1 H2 H3 H4 HE
    obtain ⟨i, hi, rfl, hb1, hb2, hb3, hb4, hbel⟩ := hrel
    have i0 : (0 : Int) ≤ (i : Int) := Int.natCast_nonneg _
    have H1 := Lib.hid hb1
    have H2 := Lib.hid hb2
    have H3 := Lib.hid hb3
    have H4 := Lib.hid hb4
    have HE := Lib.hid hbel
    clear hb1 hb2 hb3 hb4 hbel
    by_cases hli : i < 17
    · have i1 : (i : Int) < 17 := by omega
      have HTB := Lib.hid (fun j => tRun_bound HH.out HR.out i j)
      go_wp2_with fail
      go_loopw [7, 8] (fun uv jv wq => ∃ (j : Nat), j ≤ i + 1 ∧ uv = .int .i64 (tRun H R i j) ∧ jv = .int .i64 (j : Int) ∧ Ext wr wq) (fun _ jv _ => i + 1 - (intOf jv).toNat)
      case atStart => exact ⟨0, by omega, rfl, rfl, Ext.refl _⟩
      case round =>
        obtain ⟨j, hj, rfl, rfl, hX⟩ := hrel
        have j0 : (0 : Int) ≤ (j : Int) := Int.natCast_nonneg _
        have HX := Lib.hid hX
        obtain ⟨b0, b1⟩ := HTB.out j
        clear hX
        by_cases hlj : j ≤ i
        · have j1 : (j : Int) ≤ (i : Int) := by omega
          have j2 : (j : Int) < 17 := by omega
          obtain ⟨d, hd⟩ : ∃ d, d = i - j := ⟨_, rfl⟩
          have d1 : (i : Int) - (j : Int) = (d : Int) := by omega
          have d2 : (0 : Int) ≤ (d : Int) := by omega
          have d3 : (d : Int) < 17 := by omega
          have c1 := digit_cell (ext_blk H1.out HX.out) (i := j) (by rw [HHL.out]; omega)
          have c2 := digit_cell (ext_blk H2.out HX.out) (i := d) (by rw [HRL.out]; omega)
          obtain ⟨e0, e1⟩ := HH.out j
          obtain ⟨g0, g1⟩ := HR.out d
          have HT : Hid (tRun H R i (j + 1) = tRun H R i j + H.getD j 0 * R.getD d 0) := Lib.hid (by rw [tRun, tCo_lo R hlj, hd])
          have b2 : tRun H R i j ≤ 1420492800 := by omega
          generalize H.getD j 0 = x at *
          generalize R.getD d 0 = y at *
          generalize tRun H R i j = u at *
          have p0 : 0 ≤ x * y := Int.mul_nonneg e0 g0
          have p1 : x * y ≤ 1024 * 255 := Int.mul_le_mul e1 g1 g0 (by omega)
          have p2 : x * y ≤ 261120 := p1
          have w1 : -9223372036854775808 ≤ x * y := by omega
          have w2 : x * y ≤ 9223372036854775807 := by omega
          have w3 : -9223372036854775808 ≤ u + x * y := by omega
          have w4 : u + x * y ≤ 9223372036854775807 := by omega
          clear b1 hd p1 p2 p0
          go_wp2_with fail
          go_region
          go_wp2_with fail
          go_roundw
          case rel => exact ⟨j + 1, by omega, by rw [HT.out], by go_num, HX.out.trans (Ext.drew _)⟩
          case measure => simp [intOf]; omega
        · have hji : j = i + 1 := by omega
          subst hji
          have j1 : ¬ (((i + 1 : Nat) : Int) ≤ (i : Int)) := by omega
          rw [show ((i + 1 : Nat) : Int) = (i : Int) + 1 from by omega] at j1 j0 ⊢
          clear b0 b1
          have H1 := Lib.hid (ext_blk H1.out HX.out)
          have H2 := Lib.hid (ext_blk H2.out HX.out)
          have H3 := Lib.hid (ext_blk H3.out HX.out)
          have H4 := Lib.hid (ext_blk H4.out HX.out)
          have HE := Lib.hid (HE.out.trans HX.out)
          clear HX
          go_wp2_with fail
          go_loopw [7, 9] (fun uv jv wq => ∃ (j : Nat), i + 1 ≤ j ∧ j ≤ 17 ∧ uv = .int .i64 (tRun H R i j) ∧ jv = .int .i64 (j : Int) ∧ Ext wr wq) (fun _ jv _ => 17 - (intOf jv).toNat)
          case atStart => exact ⟨i + 1, by omega, by omega, rfl, by rw [show ((i + 1 : Nat) : Int) = (i : Int) + 1 from by omega], Ext.refl _⟩
          case round =>
            clear j0 j1
            obtain ⟨j, hj1, hj2, rfl, rfl, hX⟩ := hrel
            have j0 : (0 : Int) ≤ (j : Int) := Int.natCast_nonneg _
            have HX := Lib.hid hX
            obtain ⟨b0, b1⟩ := HTB.out j
            clear hX
            by_cases hlj : j < 17
            · have j1 : (j : Int) < 17 := by omega
              obtain ⟨d, hd⟩ : ∃ d, d = i + 17 - j := ⟨_, rfl⟩
              have d1 : (i : Int) + 17 - (j : Int) = (d : Int) := by omega
              have d2 : (0 : Int) ≤ (d : Int) := by omega
              have d3 : (d : Int) < 17 := by omega
              have c1 := digit_cell (ext_blk H1.out HX.out) (i := j) (by rw [HHL.out]; omega)
              have c2 := digit_cell (ext_blk H2.out HX.out) (i := d) (by rw [HRL.out]; omega)
              obtain ⟨e0, e1⟩ := HH.out j
              obtain ⟨g0, g1⟩ := HR.out d
              have HT : Hid (tRun H R i (j + 1) = tRun H R i j + 320 * H.getD j 0 * R.getD d 0) := Lib.hid (by rw [tRun, tCo_hi R (by omega), hd, ← Int.mul_assoc, Int.mul_comm (H.getD j 0) 320])
              have b2 : tRun H R i j ≤ 1420492800 := by omega
              generalize H.getD j 0 = x at *
              generalize R.getD d 0 = y at *
              generalize tRun H R i j = u at *
              have p0 : 0 ≤ 320 * x * y := Int.mul_nonneg (by omega) g0
              have p1 : 320 * x * y ≤ 327680 * 255 := Int.mul_le_mul (by omega) g1 g0 (by omega)
              have p2 : 320 * x * y ≤ 83558400 := p1
              have w5 : -9223372036854775808 ≤ 320 * x := by omega
              have w6 : 320 * x ≤ 9223372036854775807 := by omega
              have w1 : -9223372036854775808 ≤ 320 * x * y := by omega
              have w2 : 320 * x * y ≤ 9223372036854775807 := by omega
              have w3 : -9223372036854775808 ≤ u + 320 * x * y := by omega
              have w4 : u + 320 * x * y ≤ 9223372036854775807 := by omega
              clear b1 hd p1 p2 p0
              go_wp2_with fail
              go_region
              go_wp2_with fail
              go_roundw
              case rel => exact ⟨j + 1, by omega, by omega, by rw [HT.out], by go_num, HX.out.trans (Ext.drew _)⟩
              case measure => simp [intOf]; omega
            · have hji : j = 17 := by omega
              subst hji
              rw [show ((17 : Nat) : Int) = 17 from rfl]
              have hb4 := ext_blk H4.out HX.out
              have tl := tList_length H R i
              have c1 := digit_cell hb4 (i := i) (by rw [tl]; omega)
              have f1 := hb4.free i
              have H1 := Lib.hid (ext_blk H1.out HX.out)
              have H2 := Lib.hid (ext_blk H2.out HX.out)
              have H3 := Lib.hid (ext_blk H3.out HX.out)
              have H4 := Lib.hid hb4
              have HE := Lib.hid (HE.out.trans HX.out)
              have HL1 : Hid (tList H R (i + 1) = (tList H R i).set i (tRun H R i 17)) := Lib.hid rfl
              clear hb4 tl b0 b1 HX
              generalize tRun H R i 17 = u at *
              go_wp2_with fail
              go_roundw
              case rel => exact ⟨i + 1, by omega, by go_num, H1.out.far (by simp; omega) _, H2.out.far (by simp; omega) _, H3.out.far (by simp) _, by rw [HL1.out]; exact H4.out.seti i _, Below.setCell HE.out (by have := HAW.out; simp; omega) _⟩
              case measure => simp [intOf]; omega
    · have hi17 : i = 17 := by omega
      subst hi17
      have HLE := Lib.hid (tList_le HH.out HR.out)
      have HTL := Lib.hid (tList_length H R 17)
      have HCAR := Lib.hid (fun w => carried17_any (tList H R 17) w HTL.out (fun i => ⟨(HLE.out i).1, Int.le_trans (HLE.out i).2 (by decide)⟩))
      have HQL : Hid ((qThree (tList H R 17)).length = 17) := Lib.hid (by rw [← qN_three, qN_length]; exact HTL.out)
      have HI0 := Lib.hid (d17_size HTL.out)
      have HI3 := Lib.hid (d17_size HQL.out)
      generalize hx : tList H R 17 = x at *
      have HXE := Lib.hid hx
      clear hx
      have HLo : Hid ((ints .i64 (qThree x)).length = (ints .i64 (List.replicate 17 0)).length) := Lib.hid (by rw [ints_length, HQL.out, ints_length, List.length_replicate])
      go_wp2_with (refine wpList_load_blk rfl _ _ rfl (A + 1 + 1 + 1) rfl _ _ _ _ H4.out Try.underlying39 HI0.out ?_)
      refine (HCAR.out wr).mono ?_
      rintro e w1 ⟨rfl, hb⟩
      have H3 := Lib.hid (ext_blk H3.out hb)
      have HE := Lib.hid (HE.out.trans hb)
      clear hb
      go_wp2_with (refine wpList_store_blk rfl _ _ _ rfl (A + 1 + 1) (ints .i64 (qThree x)) rfl rfl _ _ H3.out HLo.out HI3.out (ints_one _ _) ?_; intro w9 hb9 hg9)
      refine bodyPost_ret (result_blk rfl _ (A + 1 + 1) _ _ _ _ rfl hb9 Try.underlying39 HI3.out) rfl ?_
      exact ⟨by rw [HXE.out], ext_grown HE.out hg9 (by have := HAW.out; omega)⟩

end Go.Proofs.Ytelenldabjmjbaa

/- The walk of the document's own whole number of seventeen digits. Each theorem names its own conditions. -/
namespace Go.Proofs.Ytelenldabjmjbaa
open Go.RowKit
set_option linter.unusedVariables false
set_option linter.unusedSimpArgs false

theorem can17_le {h : List Int} (hc : Can17 h) : ∀ i, 0 ≤ h.getD i 0 ∧ h.getD i 0 ≤ 1099511627776 := fun i => by
  have := hc.digit i
  omega
theorem can17_three {h : List Int} (hc : Can17 h) : Can17 (qThree h) ∧ gV 256 (qThree h) % (pQ : Int) = gV 256 h % (pQ : Int) :=
  qThree_val h hc.1 (fun i => (hc.digit i).1) (by have := hc.range.2; unfold two130 at this; omega)
theorem wOut_length {h : List Int} (hc : Can17 h) : (wOut h).length = 17 := (wOut_val hc).1

set_option maxRecDepth 100000 in
set_option maxHeartbeats 16000000 in
theorem whole17_any (H : List Int) (w : World) (hc : Can17 H) :
    Calls Try.prog 14 #[.agg (ints .i64 H).toArray] w fun e w' => e = .returned (.agg (ints .i64 (wOut (qThree H))).toArray) ∧ Below w.heap.size w w' := by
  have HL := Lib.hid hc.1
  have HCAR := Lib.hid (fun w => carried17_any H w hc.1 (can17_le hc))
  have HC3 := Lib.hid (can17_three hc).1
  have HB := Lib.hid (boxes2 w (ints .i64 H) (ints .i64 (List.replicate 17 0)) 39 39)
  have HI0 := Lib.hid (d17_size hc.1)
  have HI3 := Lib.hid (d17_size (can17_three hc).1.1)
  have HLH : Hid ((ints .i64 (qThree H)).length = (ints .i64 H).length) := Lib.hid (by rw [ints_length, ints_length, (can17_three hc).1.1, hc.1])
  clear hc
  go_enter Try.func14, Try.ntmps14
  go_upto_region 1 with (fail)
  obtain ⟨H1, H2, HE⟩ := HB.out
  change Code.wp _ _ _ _ ((w.alloc (.cells (ints .i64 H).toArray 39)).alloc (.cells (ints .i64 (List.replicate 17 0)).toArray 39))
  generalize (w.alloc (.cells (ints .i64 H).toArray 39)).alloc (.cells (ints .i64 (List.replicate 17 0)).toArray 39) = wa at *
  obtain ⟨A, hA⟩ : ∃ A, A = w.heap.size := ⟨_, rfl⟩
  have HAW : Hid (w.heap.size ≤ A) := Lib.hid (by omega)
  rw [← hA] at H1 H2 ⊢
  have H1 := Lib.hid H1
  have H2 := Lib.hid H2
  have HE : Hid (Ext w wa) := Lib.hid HE
  clear hA HB
  go_wp2_with (refine wpList_load_blk rfl _ _ rfl A rfl _ _ _ _ H1.out Try.underlying39 HI0.out ?_)
  refine (HCAR.out wa).mono ?_
  rintro e w1 ⟨rfl, hb⟩
  have H1 := Lib.hid (ext_blk H1.out hb)
  have H2 := Lib.hid (ext_blk H2.out hb)
  have HE := Lib.hid (HE.out.trans hb)
  clear hb HCAR
  generalize hqh : qThree H = h at *
  have HQH := Lib.hid hqh
  clear hqh
  go_upto_region 2 with (refine wpList_store_blk rfl _ _ _ rfl A (ints .i64 h) rfl rfl _ _ H1.out HLH.out HI3.out (ints_one _ _) ?_; intro w2 hb2 hg2)
  have H2 := Lib.hid (H2.out.grown hg2 (fun e => by have h := Option.some.inj e; omega))
  have HE := Lib.hid (ext_grown HE.out hg2 HAW.out)
  have H1 := Lib.hid hb2
  clear hb2 hg2
  obtain ⟨G, hG⟩ : ∃ G, G = w2.heap.size := ⟨_, rfl⟩
  have HGA : Hid (A + 1 < G) := Lib.hid (by have := H2.out.lt; omega)
  have HZ := Lib.hid (Blk.made w2 (ints .i64 (List.replicate 17 0)) 39)
  have HXA := Ext.alloc w2 (.cells (ints .i64 (List.replicate 17 0)).toArray 39)
  have H1a := Lib.hid (ext_blk H1.out HXA)
  have H2a := Lib.hid (ext_blk H2.out HXA)
  have HEa := Lib.hid (HE.out.trans HXA)
  have HS := Lib.hid HE.out.size
  have HLZ : Hid ((ints .i64 h).length = (ints .i64 (List.replicate 17 0)).length) := Lib.hid (by rw [ints_length, HC3.out.1, ints_length, List.length_replicate])
  clear HXA
  go_upto_region 3 with (first | (refine wpList_load_blk rfl _ _ rfl A rfl _ _ _ _ H1.out Try.underlying39 HI3.out ?_) | (refine wpList_store_blk rfl _ _ _ rfl w2.heap.size (ints .i64 h) rfl rfl _ _ HZ.out HLZ.out HI3.out (ints_one _ _) ?_; intro w3 hb3 hg3))
  have H1 := Lib.hid (H1a.out.grown hg3 (fun e => by have h := Option.some.inj e; have := HGA.out; omega))
  have H2 := Lib.hid (H2a.out.grown hg3 (fun e => by have h := Option.some.inj e; have := HGA.out; omega))
  have HE := Lib.hid (ext_grown HEa.out hg3 HS.out)
  have H3 := Lib.hid hb3
  have HGW : Hid (w.heap.size ≤ G) := Lib.hid (by rw [hG]; exact HS.out)
  rw [← hG] at H3 ⊢
  clear hb3 hg3 hG HZ H1a H2a HEa HS
  go_wp2_with fail
  go_loopw [4, 5] (fun uv iv wr => ∃ (i : Nat), i ≤ 17 ∧ uv = .int .i64 (wRun h i).2 ∧ iv = .int .i64 (i : Int) ∧ Blk wr A (ints .i64 h) 39 ∧ Blk wr (A + 1) (ints .i64 (List.replicate 17 0)) 39 ∧ Blk wr G (ints .i64 (wRun h i).1) 39 ∧ Ext w wr) (fun _ iv _ => 17 - (intOf iv).toNat)
  case atStart => exact ⟨0, by omega, rfl, rfl, H1.out, H2.out, H3.out, HE.out⟩
  case round =>
    clear H1 H2 H3 HE
    obtain ⟨i, hi, rfl, rfl, hb1, hb2, hb3, hbel⟩ := hrel
    have i0 : (0 : Int) ≤ (i : Int) := Int.natCast_nonneg _
    have hrl : (wRun h i).1.length = 17 := by rw [wRun_length]; exact HC3.out.1
    obtain ⟨hu0, hu1⟩ := wRun_u h HC3.out.digit i
    have H1 := Lib.hid hb1
    have H2 := Lib.hid hb2
    have H3 := Lib.hid hb3
    have HE := Lib.hid hbel
    by_cases hli : i < 17
    · have i1 : (i : Int) < 17 := by omega
      have c1 := digit_cell hb3 (i := i) (by rw [hrl]; omega)
      have f1 := hb3.free i
      have hz := HC3.out.digit i
      have hfar := wRun_far h i i (Nat.le_refl _)
      have HS1 : Hid ((wRun h (i + 1)).1 = (wRun h i).1.set i (((wRun h i).2 + (wRun h i).1.getD i 0) % 256)) := Lib.hid rfl
      have HS2 : Hid ((wRun h (i + 1)).2 = ((wRun h i).2 + (wRun h i).1.getD i 0) / 256) := Lib.hid rfl
      rw [← hfar] at hz
      clear hb1 hb2 hb3 hbel hfar
      generalize (wRun h i).1.getD i 0 = z at *
      generalize (wRun h i).2 = u at *
      obtain ⟨z0, z1⟩ := hz
      have a1 := and_i64_255 (u + z) (by omega) (by omega)
      go_wp2_with fail
      go_roundw
      case rel =>
        refine ⟨i + 1, by omega, by rw [HS2.out], by go_num, H1.out.far (by have := HGA.out; simp; omega) _, H2.out.far (by have := HGA.out; simp; omega) _, ?_, Below.setCell HE.out (by have := HGW.out; simp; omega) _⟩
        rw [HS1.out]
        exact H3.out.seti i _
      case measure => simp [intOf]; omega
    · have hi17 : i = 17 := by omega
      subst hi17
      have c1 := digit_cell hb3 (i := 16) (by rw [hrl]; omega)
      have f1 := hb3.free 16
      have hsm := wRun_small h HC3.out.1 17 (Nat.le_refl _) 16 (by omega)
      have HW : Hid (wOut h = if 4 ≤ (wRun h 17).1.getD 16 0 then (wRun h 17).1.set 16 ((wRun h 17).1.getD 16 0 - 4) else h) := Lib.hid rfl
      have HWL := Lib.hid (wOut_length HC3.out)
      clear hb1 hb2 hb3 hbel
      have HRL := Lib.hid hrl
      generalize (wRun h 17).1 = rr at *
      clear hu0 hu1
      generalize (wRun h 17).2 = u at *
      have HGS : Hid (∀ z : Int, Blk (wr.setCell ⟨G, 16, none⟩ (.int .i64 z)) G (ints .i64 (rr.set 16 z)) 39) := Lib.hid (fun z => H3.out.seti 16 z)
      generalize hzz : rr.getD 16 0 = z at *
      obtain ⟨z0, z1⟩ := hsm
      by_cases h4 : 4 ≤ z
      · have hw : wOut h = rr.set 16 (z - 4) := by rw [HW.out, if_pos h4]
        obtain ⟨o, ho⟩ : ∃ o, o = wOut h := ⟨_, rfl⟩
        have HO := Lib.hid ho
        have HG := Lib.hid (HGS.out (z - 4))
        rw [← hw, ← ho] at HG
        rw [← ho] at HWL
        have H2n := Lib.hid (H2.out.far (a := ⟨G, 16, none⟩) (by have := HGA.out; simp; omega) (.int .i64 (z - 4)))
        have HEn : Hid (Ext w (wr.setCell ⟨G, 16, none⟩ (.int .i64 (z - 4)))) := Lib.hid (Below.setCell HE.out (by have := HGW.out; simp; omega) _)
        have HIo := Lib.hid (d17_size HWL.out)
        have HLo : Hid ((ints .i64 o).length = (ints .i64 (List.replicate 17 0)).length) := Lib.hid (by rw [ints_length, HWL.out, ints_length, List.length_replicate])
        clear hw ho hzz
        go_wp2_with (first | (refine wpList_load_blk rfl _ _ rfl G rfl _ _ _ _ HG.out Try.underlying39 HIo.out ?_) | (refine wpList_store_blk rfl _ _ _ rfl (A + 1) (ints .i64 o) rfl rfl _ _ H2n.out HLo.out HIo.out (ints_one _ _) ?_; intro w9 hb9 hg9))
        refine bodyPost_ret (result_blk rfl _ (A + 1) _ _ _ _ rfl hb9 Try.underlying39 HIo.out) rfl ?_
        exact ⟨by rw [HQH.out, HO.out], ext_grown HEn.out hg9 (by have := HAW.out; omega)⟩
      · have hw : wOut h = h := by rw [HW.out, if_neg h4]
        have HO := Lib.hid hw
        have z3 : z < 4 := by omega
        clear hw hzz
        go_wp2_with (first | (refine wpList_load_blk rfl _ _ rfl A rfl _ _ _ _ H1.out Try.underlying39 HI3.out ?_) | (refine wpList_store_blk rfl _ _ _ rfl (A + 1) (ints .i64 h) rfl rfl _ _ H2.out HLZ.out HI3.out (ints_one _ _) ?_; intro w9 hb9 hg9))
        refine bodyPost_ret (result_blk rfl _ (A + 1) _ _ _ _ rfl hb9 Try.underlying39 HI3.out) rfl ?_
        exact ⟨by rw [HQH.out, HO.out], ext_grown HE.out hg9 (by have := HAW.out; omega)⟩

end Go.Proofs.Ytelenldabjmjbaa

/- The walk of the document's own Poly1305. Each theorem names its own conditions. -/
namespace Go.Proofs.Ytelenldabjmjbaa
open Go.RowKit
set_option linter.unusedVariables false
set_option linter.unusedSimpArgs false

theorem Try.arr30 : (Try.prog.info? 30).map (·.size) = some 16 := by kernel_rfl
theorem tag_size {l : List UInt8} (h : l.length = 16) : (Try.prog.info? 30).map (·.size) = some (l.map bval).length := by rw [List.length_map, h]; exact Try.arr30
theorem and_i64_15 (a : Int) (h1 : -9223372036854775808 ≤ a) (h2 : a ≤ 9223372036854775807) : bits .and .i64 a 15 = a % 16 := by
  have h : (BitVec.ofInt 64 15).toNat = 2 ^ 4 - 1 := by decide
  have key : (BitVec.ofInt 64 a &&& BitVec.ofInt 64 15).toNat = (a % ((2 ^ 64 : Nat) : Int)).toNat % 2 ^ 4 := by
    rw [BitVec.toNat_and, BitVec.toNat_ofInt, h, Nat.and_two_pow_sub_one_eq_mod]
  show IntKind.i64.wrap ((BitVec.ofInt 64 a &&& BitVec.ofInt 64 15).toNat : Nat) = _
  rw [key, IntKind.wrap_i64]
  omega
theorem and_252_fin : ∀ n : Fin 256, bits .and .i64 (n.val : Int) 252 = (n.val : Int) / 4 * 4 := by decide +kernel
theorem and_i64_252 (a : Int) (h1 : 0 ≤ a) (h2 : a ≤ 255) : bits .and .i64 a 252 = a / 4 * 4 := by
  obtain ⟨n, rfl⟩ : ∃ n : Nat, a = (n : Int) := ⟨a.toNat, by omega⟩
  exact and_252_fin ⟨n, by omega⟩
theorem can17_zero : Can17 (List.replicate 17 0) := ⟨by simp, fun i hi => by rw [getD_eq (by simp; omega), List.getElem_replicate]; omega, by decide, by decide⟩
theorem can17_255 {h : List Int} (hc : Can17 h) : ∀ i, 0 ≤ h.getD i 0 ∧ h.getD i 0 ≤ 255 := fun i => by
  have := hc.digit i
  omega

set_option maxRecDepth 100000 in
set_option maxHeartbeats 16000000 in
theorem rPoly_any (kb b : List UInt8) (bv : Value) (w : World) (hk : kb.length = 32) (hb : Row1 w bv (b.map bval)) (hbl : b.length ≤ 1099511627776) :
    Calls Try.prog 11 #[.agg (kb.map bval).toArray, bv] w fun e w' => e = .returned (.agg ((polyTag kb b).map bval).toArray) ∧ Below w.heap.size w w' := by
  have HKL := Lib.hid hk
  have HBL := Lib.hid hbl
  have HR := Lib.hid hb
  obtain ⟨ab, cb, rfl, r1, r2, _, r4⟩ := id hb
  rw [List.length_map] at r1 HR ⊢
  unfold maxLen at r2
  have HC := Lib.hid r4
  have HB := Lib.hid (boxes4 w (kb.map bval) (ints .u8 (List.replicate 16 0)) (ints .i64 (List.replicate 17 0)) (ints .i64 (List.replicate 17 0)) 23 30 39 39)
  clear hk hb hbl r4
  go_enter Try.func11, Try.ntmps11
  go_upto_region 3 with (fail)
  obtain ⟨H1, H2, H3, H4, HE⟩ := HB.out
  change Code.wp _ _ _ _ ((((w.alloc (.cells (kb.map bval).toArray 23)).alloc (.cells (ints .u8 (List.replicate 16 0)).toArray 30)).alloc (.cells (ints .i64 (List.replicate 17 0)).toArray 39)).alloc (.cells (ints .i64 (List.replicate 17 0)).toArray 39))
  generalize (((w.alloc (.cells (kb.map bval).toArray 23)).alloc (.cells (ints .u8 (List.replicate 16 0)).toArray 30)).alloc (.cells (ints .i64 (List.replicate 17 0)).toArray 39)).alloc (.cells (ints .i64 (List.replicate 17 0)).toArray 39) = wa at *
  obtain ⟨A, hA⟩ : ∃ A, A = w.heap.size := ⟨_, rfl⟩
  have HAW : Hid (w.heap.size ≤ A) := Lib.hid (by omega)
  rw [← hA] at H1 H2 H3 H4 ⊢
  have H1 := Lib.hid H1
  have H2 := Lib.hid H2
  have H3 : Hid (Blk wa (A + 1 + 1) (ints .i64 (rA kb 0)) 39) := Lib.hid H3
  have H4 := Lib.hid H4
  have HE : Hid (Ext w wa) := Lib.hid HE
  clear hA HB
  go_wp2_with fail
  go_loopw [7] (fun iv wr => ∃ (k : Nat), k ≤ 16 ∧ iv = .int .i64 ((k : Int)) ∧ Blk wr A (kb.map bval) 23 ∧ Blk wr (A + 1) (ints .u8 (List.replicate 16 0)) 30 ∧ Blk wr (A + 1 + 1) (ints .i64 (rA kb k)) 39 ∧ Blk wr (A + 1 + 1 + 1) (ints .i64 (List.replicate 17 0)) 39 ∧ Ext w wr) (fun iv _ => 16 - (intOf iv).toNat)
  case atStart => exact ⟨0, by omega, rfl, H1.out, H2.out, H3.out, H4.out, HE.out⟩
  case round =>
    clear H1 H2 H3 H4 HE
    obtain ⟨k, hk, rfl, hb1, hb2, hb3, hb4, hbel⟩ := hrel
    have k0 : (0 : Int) ≤ (k : Int) := Int.natCast_nonneg _
    have H1 := Lib.hid hb1
    have H2 := Lib.hid hb2
    have H3 := Lib.hid hb3
    have H4 := Lib.hid hb4
    have HE := Lib.hid hbel
    by_cases hlk : k < 16
    · have k1 : (k : Int) < 16 := by omega
      have k2 : (k : Int) < 32 := by omega
      have k3 : (k : Int) < 17 := by omega
      have c1 := hb1.cell k
      rw [bval_get (by rw [HKL.out]; omega)] at c1
      have c2 := digit_cell hb3 (i := k) (by rw [rA_length]; omega)
      have f2 := hb3.free k
      have HS : Hid (rA kb (k + 1) = (rA kb k).set k ((kb.getD k 0).toNat : Int)) := Lib.hid rfl
      have y0 := (kb.getD k 0).toNat_lt
      clear hb1 hb2 hb3 hb4 hbel
      change wr.cell? ⟨A, k, none⟩ = some (.int .u8 ((kb.getD k 0).toNat : Int)) at c1
      generalize (kb.getD k 0).toNat = y at *
      have y1 : (y : Int) ≤ 255 := by omega
      have y2 : (0 : Int) ≤ (y : Int) := by omega
      go_wp2_with fail
      go_roundw
      case rel => exact ⟨k + 1, by omega, by go_num, H1.out.far (by simp; omega) _, H2.out.far (by simp) _, by rw [HS.out]; exact H3.out.seti k _, H4.out.far (by simp) _, Below.setCell HE.out (by have := HAW.out; simp; omega) _⟩
      case measure => simp [intOf]; omega
    · have hk16 : k = 16 := by omega
      subst hk16
      rw [show ((16 : Nat) : Int) = 16 from rfl]
      clear hb1 hb2 hb3 hb4 hbel
      have H3 : Hid (Blk wr (A + 1 + 1) (ints .i64 (rB kb 0)) 39) := Lib.hid H3.out
      go_wp2_with fail
      go_loopw [8] (fun iv wr => ∃ (k : Nat), k ≤ 4 ∧ iv = .int .i64 (3 + 4 * (k : Int)) ∧ Blk wr A (kb.map bval) 23 ∧ Blk wr (A + 1) (ints .u8 (List.replicate 16 0)) 30 ∧ Blk wr (A + 1 + 1) (ints .i64 (rB kb k)) 39 ∧ Blk wr (A + 1 + 1 + 1) (ints .i64 (List.replicate 17 0)) 39 ∧ Ext w wr) (fun iv _ => 20 - (intOf iv).toNat)
      case atStart => exact ⟨0, by omega, rfl, H1.out, H2.out, H3.out, H4.out, HE.out⟩
      case round =>
        clear H1 H2 H3 H4 HE
        obtain ⟨k, hk, rfl, hb1, hb2, hb3, hb4, hbel⟩ := hrel
        have k0 : (0 : Int) ≤ (k : Int) := Int.natCast_nonneg _
        have H1 := Lib.hid hb1
        have H2 := Lib.hid hb2
        have H3 := Lib.hid hb3
        have H4 := Lib.hid hb4
        have HE := Lib.hid hbel
        by_cases hlk : k < 4
        · have k1 : 3 + 4 * (k : Int) < 16 := by omega
          have k2 : (0 : Int) ≤ 3 + 4 * (k : Int) := by omega
          have k3 : 3 + 4 * (k : Int) < 17 := by omega
          have kn : (3 + 4 * (k : Int)).toNat = 3 + 4 * k := by omega
          have c1 := digit_cell hb3 (i := 3 + 4 * k) (by rw [rB_length]; omega)
          have f1 := hb3.free (3 + 4 * k)
          have hd := rB_digit kb k (3 + 4 * k) (by omega)
          have HS : Hid (rB kb (k + 1) = (rB kb k).set (3 + 4 * k) ((rB kb k).getD (3 + 4 * k) 0 % 16)) := Lib.hid rfl
          clear hb1 hb2 hb3 hb4 hbel
          generalize hz : (rB kb k).getD (3 + 4 * k) 0 = z at *
          clear hz
          obtain ⟨z0, z1⟩ := hd
          have a1 := and_i64_15 z (by omega) (by omega)
          go_wp2_with fail
          go_roundw
          case rel => exact ⟨k + 1, by omega, by go_num, H1.out.far (by simp; omega) _, H2.out.far (by simp) _, by rw [HS.out]; exact H3.out.seti _ _, H4.out.far (by simp) _, Below.setCell HE.out (by have := HAW.out; simp; omega) _⟩
          case measure => simp [intOf]; omega
        · have hk4 : k = 4 := by omega
          subst hk4
          rw [show ((4 : Nat) : Int) = 4 from rfl]
          rw [show (3 : Int) + 4 * 4 = 19 from rfl]
          clear hb1 hb2 hb3 hb4 hbel
          have H3 : Hid (Blk wr (A + 1 + 1) (ints .i64 (rC kb 0)) 39) := Lib.hid H3.out
          go_wp2_with fail
          go_loopw [9] (fun iv wr => ∃ (k : Nat), k ≤ 3 ∧ iv = .int .i64 (4 + 4 * (k : Int)) ∧ Blk wr A (kb.map bval) 23 ∧ Blk wr (A + 1) (ints .u8 (List.replicate 16 0)) 30 ∧ Blk wr (A + 1 + 1) (ints .i64 (rC kb k)) 39 ∧ Blk wr (A + 1 + 1 + 1) (ints .i64 (List.replicate 17 0)) 39 ∧ Ext w wr) (fun iv _ => 20 - (intOf iv).toNat)
          case atStart => exact ⟨0, by omega, rfl, H1.out, H2.out, H3.out, H4.out, HE.out⟩
          case round =>
            clear H1 H2 H3 H4 HE
            obtain ⟨k, hk, rfl, hb1, hb2, hb3, hb4, hbel⟩ := hrel
            have k0 : (0 : Int) ≤ (k : Int) := Int.natCast_nonneg _
            have H1 := Lib.hid hb1
            have H2 := Lib.hid hb2
            have H3 := Lib.hid hb3
            have H4 := Lib.hid hb4
            have HE := Lib.hid hbel
            by_cases hlk : k < 3
            · have k1 : 4 + 4 * (k : Int) < 16 := by omega
              have k2 : (0 : Int) ≤ 4 + 4 * (k : Int) := by omega
              have k3 : 4 + 4 * (k : Int) < 17 := by omega
              have kn : (4 + 4 * (k : Int)).toNat = 4 + 4 * k := by omega
              have c1 := digit_cell hb3 (i := 4 + 4 * k) (by rw [rC_length]; omega)
              have f1 := hb3.free (4 + 4 * k)
              have hd := rC_digit kb k (4 + 4 * k) (by omega)
              have HS : Hid (rC kb (k + 1) = (rC kb k).set (4 + 4 * k) ((rC kb k).getD (4 + 4 * k) 0 / 4 * 4)) := Lib.hid rfl
              clear hb1 hb2 hb3 hb4 hbel
              generalize hz : (rC kb k).getD (4 + 4 * k) 0 = z at *
              clear hz
              obtain ⟨z0, z1⟩ := hd
              have a1 := and_i64_252 z z0 z1
              go_wp2_with fail
              go_roundw
              case rel => exact ⟨k + 1, by omega, by go_num, H1.out.far (by simp; omega) _, H2.out.far (by simp) _, by rw [HS.out]; exact H3.out.seti _ _, H4.out.far (by simp) _, Below.setCell HE.out (by have := HAW.out; simp; omega) _⟩
              case measure => simp [intOf]; omega
            · have hk3 : k = 3 := by omega
              subst hk3
              rw [show ((3 : Nat) : Int) = 3 from rfl]
              rw [show (4 : Int) + 4 * 3 = 16 from rfl]
              clear hb1 hb2 hb3 hb4 hbel
              clear hk k0 hlk
              have HRL := Lib.hid (rC_length kb 3)
              have HRD := Lib.hid (fun i => rC_digit kb 3 i (by omega))
              have HRV := Lib.hid (rC_val kb)
              generalize rC kb 3 = r at *
              go_wp2_with fail
              go_loopw [10] (fun iv wr => ∃ (n f : Nat) (Hn : List Int), f = 16 * n ∧ n ≤ (b.length + 15) / 16 ∧ iv = .int .i64 (f : Int) ∧ Can17 Hn ∧ gV 256 Hn % (pQ : Int) = pAcc (pR kb) b n ∧ Blk wr A (kb.map bval) 23 ∧ Blk wr (A + 1) (ints .u8 (List.replicate 16 0)) 30 ∧ Blk wr (A + 1 + 1) (ints .i64 (r)) 39 ∧ Blk wr (A + 1 + 1 + 1) (ints .i64 (Hn)) 39 ∧ Ext w wr) (fun iv _ => b.length + 16 - (intOf iv).toNat)
              case atStart => exact ⟨0, 0, _, rfl, by omega, rfl, can17_zero, by rw [gV_zeros]; rfl, H1.out, H2.out, H3.out, H4.out, HE.out⟩
              case round =>
                clear H1 H2 H3 H4 HE
                obtain ⟨n, f, Hn, hf, hn, rfl, hcan, hacc, hb1, hb2, hb3, hb4, hbel⟩ := hrel
                have f0 : (0 : Int) ≤ (f : Int) := Int.natCast_nonneg _
                have HF := Lib.hid hf
                have HN := Lib.hid hn
                have HCAN := Lib.hid hcan
                have HACC := Lib.hid hacc
                have H1 := Lib.hid hb1
                have H2 := Lib.hid hb2
                have H3 := Lib.hid hb3
                have H4 := Lib.hid hb4
                have HE := Lib.hid hbel
                clear hf hn hcan hacc hb1 hb2 hb3 hb4 hbel
                by_cases hlf : f < b.length
                · have f1 : (f : Int) < (b.length : Int) := by omega
                  have HXA := Ext.alloc wr (.cells (ints .i64 (List.replicate 17 0)).toArray 39)
                  obtain ⟨C, hC⟩ : ∃ C, C = wr.heap.size := ⟨_, rfl⟩
                  have HCA : Hid (A + 1 + 1 + 1 < C) := Lib.hid (by have := H4.out.lt; omega)
                  have H5 : Hid (Blk (wr.alloc (.cells (ints .i64 (List.replicate 17 0)).toArray 39)) C (ints .i64 (cA b n 0)) 39) := Lib.hid (by rw [hC]; exact Blk.made wr (ints .i64 (List.replicate 17 0)) 39)
                  have H1 := Lib.hid (ext_blk H1.out HXA)
                  have H2 := Lib.hid (ext_blk H2.out HXA)
                  have H3 := Lib.hid (ext_blk H3.out HXA)
                  have H4 := Lib.hid (ext_blk H4.out HXA)
                  have HE := Lib.hid (HE.out.trans HXA)
                  clear HXA
                  go_upto_region 19 with (fail)
                  change Code.wp _ _ _ _ (wr.alloc (.cells (ints .i64 (List.replicate 17 0)).toArray 39))
                  rw [← hC]
                  clear hC
                  generalize wr.alloc (.cells (ints .i64 (List.replicate 17 0)).toArray 39) = wc at *
                  go_upto_if 59 with (fail)
                  obtain ⟨m, hm⟩ : ∃ m, m = min 16 (b.length - f) := ⟨_, rfl⟩
                  go_cut [12] from 54 to 59 (fun v wq => v = .int .i64 (m : Int) ∧ wq = wc)
                  case first =>
                    by_cases h16 : 16 < b.length - f
                    · have g1 : (16 : Int) < (b.length : Int) - (f : Int) := by omega
                      have hm16 : m = 16 := by omega
                      go_wp2_with fail
                      go_meet
                      exact ⟨by rw [hm16]; rfl, rfl⟩
                    · have g1 : ¬ (16 : Int) < (b.length : Int) - (f : Int) := by omega
                      have hm16 : (m : Int) = (b.length : Int) - (f : Int) := by omega
                      go_wp2_with fail
                      go_meet
                      exact ⟨by rw [hm16], rfl⟩
                  case rest =>
                    obtain ⟨rfl, rfl⟩ := hcut
                    have m0 : (0 : Int) ≤ (m : Int) := Int.natCast_nonneg _
                    have HM : Hid (m = min 16 (b.length - 16 * n)) := Lib.hid (by rw [hm, HF.out])
                    have m1 : m ≤ 16 := by omega
                    have hfm : f + m ≤ b.length := by omega
                    clear hm
                    obtain ⟨g, og, rfl, hgs, hgc⟩ := HC.out (by intro e; have h := congrArg List.length e; rw [List.length_map] at h; simp only [List.length_nil] at h; omega)
                    have HGS := Lib.hid hgs
                    have HGC := Lib.hid hgc
                    clear hgs hgc
                    go_wp2_with fail
                    go_loopw [13] (fun iv wr => ∃ (i : Nat), i ≤ m ∧ iv = .int .i64 (i : Int) ∧ Blk wr C (ints .i64 (cA b n i)) 39 ∧ Blk wr A (kb.map bval) 23 ∧ Blk wr (A + 1) (ints .u8 (List.replicate 16 0)) 30 ∧ Blk wr (A + 1 + 1) (ints .i64 (r)) 39 ∧ Blk wr (A + 1 + 1 + 1) (ints .i64 (Hn)) 39 ∧ Ext w wr) (fun iv _ => m - (intOf iv).toNat)
                    case atStart => exact ⟨0, by omega, rfl, H5.out, H1.out, H2.out, H3.out, H4.out, HE.out⟩
                    case round =>
                      clear H1 H2 H3 H4 H5 HE
                      obtain ⟨i, hi, rfl, hb5, hb1, hb2, hb3, hb4, hbel⟩ := hrel
                      have i0 : (0 : Int) ≤ (i : Int) := Int.natCast_nonneg _
                      have H1 := Lib.hid hb1
                      have H2 := Lib.hid hb2
                      have H3 := Lib.hid hb3
                      have H4 := Lib.hid hb4
                      have H5 := Lib.hid hb5
                      have HE := Lib.hid hbel
                      by_cases hlm : i < m
                      · have i1 : (i : Int) < (m : Int) := by omega
                        have i2 : (i : Int) < 17 := by omega
                        obtain ⟨q, hq⟩ : ∃ q, q = f + i := ⟨_, rfl⟩
                        have hql : q < b.length := by omega
                        have q1 : (f : Int) + (i : Int) = (q : Int) := by omega
                        have q2 : (q : Int) < (b.length : Int) := by omega
                        have q3 : (0 : Int) ≤ (q : Int) := by omega
                        have c1 : wr.cell? ⟨g, og + q, none⟩ = some (.int .u8 ((b.getD q 0).toNat : Int)) := by
                          have h := HGC.out q (by rw [List.length_map]; exact hql)
                          rw [bval_get hql] at h
                          rw [← h]
                          exact HE.out.cell (p := ⟨g, og + q, none⟩) HGS.out
                        have c2 := digit_cell hb5 (i := i) (by rw [cA_length]; omega)
                        have f2 := hb5.free i
                        have HS : Hid (cA b n (i + 1) = (cA b n i).set i ((b.getD q 0).toNat : Int)) := Lib.hid (by rw [hq, HF.out]; rfl)
                        have y0 := (b.getD q 0).toNat_lt
                        clear hb1 hb2 hb3 hb4 hb5 hbel hq
                        generalize (b.getD q 0).toNat = y at *
                        have y1 : (y : Int) ≤ 255 := by omega
                        have y2 : (0 : Int) ≤ (y : Int) := by omega
                        go_wp2_with fail
                        go_roundw
                        case rel => exact ⟨i + 1, by omega, by go_num, by rw [HS.out]; exact H5.out.seti i _, H1.out.far (by have := HCA.out; simp; omega) _, H2.out.far (by have := HCA.out; simp; omega) _, H3.out.far (by have := HCA.out; simp; omega) _, H4.out.far (by have := HCA.out; simp; omega) _, Below.setCell HE.out (by have := HAW.out; have := HCA.out; simp; omega) _⟩
                        case measure => simp [intOf]; omega
                      · have him : i = m := by omega
                        subst him
                        clear hb1 hb2 hb3 hb4 hb5 hbel
                        have i3 : (i : Int) < 17 := by omega
                        have c2 := digit_cell H5.out (i := i) (by rw [cA_length]; omega)
                        have f2 := H5.out.free i
                        obtain ⟨cc, hcc⟩ : ∃ cc, cc = (cA b n i).set i 1 := ⟨_, rfl⟩
                        have HCC : Hid (gV 256 cc = pBlk b n) := Lib.hid (by
                          rw [hcc]
                          have h := gV_blk b n (by have := HF.out; omega)
                          rw [← HM.out] at h
                          exact h)
                        have HCL : Hid (cc.length = 17) := Lib.hid (by rw [hcc, List.length_set, cA_length])
                        have HCD := Lib.hid (show ∀ j, 0 ≤ cc.getD j 0 ∧ cc.getD j 0 ≤ 255 from fun j => by rw [hcc]; exact blk_digit b n i m1 j)
                        have H5n : Hid (Blk (wr.setCell ⟨C, i, none⟩ (.int .i64 1)) C (ints .i64 cc) 39) := Lib.hid (by rw [hcc]; exact H5.out.seti i 1)
                        have H1n := Lib.hid (H1.out.far (a := ⟨C, i, none⟩) (by have := HCA.out; simp; omega) (.int .i64 1))
                        have H2n := Lib.hid (H2.out.far (a := ⟨C, i, none⟩) (by have := HCA.out; simp; omega) (.int .i64 1))
                        have H3n := Lib.hid (H3.out.far (a := ⟨C, i, none⟩) (by have := HCA.out; simp; omega) (.int .i64 1))
                        have H4n : Hid (Blk (wr.setCell ⟨C, i, none⟩ (.int .i64 1)) (A + 1 + 1 + 1) (ints .i64 (sA Hn cc 0)) 39) := Lib.hid (H4.out.far (a := ⟨C, i, none⟩) (by have := HCA.out; simp; omega) (.int .i64 1))
                        have HEn : Hid (Ext w (wr.setCell ⟨C, i, none⟩ (.int .i64 1))) := Lib.hid (Below.setCell HE.out (by have := HAW.out; have := HCA.out; simp; omega) _)
                        go_upto_region 27 with (fail)
                        clear H1 H2 H3 H4 H5 HE c2 f2 hcc
                        generalize wr.setCell ⟨C, i, none⟩ (.int .i64 1) = wd at *
                        go_wp2_with fail
                        go_loopw [14] (fun iv wr => ∃ (j : Nat), j ≤ 17 ∧ iv = .int .i64 (j : Int) ∧ Blk wr C (ints .i64 cc) 39 ∧ Blk wr A (kb.map bval) 23 ∧ Blk wr (A + 1) (ints .u8 (List.replicate 16 0)) 30 ∧ Blk wr (A + 1 + 1) (ints .i64 (r)) 39 ∧ Blk wr (A + 1 + 1 + 1) (ints .i64 (sA Hn cc j)) 39 ∧ Ext w wr) (fun iv _ => 17 - (intOf iv).toNat)
                        case atStart => exact ⟨0, by omega, rfl, H5n.out, H1n.out, H2n.out, H3n.out, H4n.out, HEn.out⟩
                        case round =>
                          clear H1n H2n H3n H4n H5n HEn
                          obtain ⟨j, hj, rfl, hb5, hb1, hb2, hb3, hb4, hbel⟩ := hrel
                          have j0 : (0 : Int) ≤ (j : Int) := Int.natCast_nonneg _
                          have H1 := Lib.hid hb1
                          have H2 := Lib.hid hb2
                          have H3 := Lib.hid hb3
                          have H4 := Lib.hid hb4
                          have H5 := Lib.hid hb5
                          have HE := Lib.hid hbel
                          have HSL : Hid ((sA Hn cc j).length = 17) := Lib.hid (by rw [sA_length]; exact HCAN.out.1)
                          by_cases hlj : j < 17
                          · have j1 : (j : Int) < 17 := by omega
                            have c1 := digit_cell hb4 (i := j) (by rw [HSL.out]; omega)
                            have c2 := digit_cell hb5 (i := j) (by rw [HCL.out]; omega)
                            have f1 := hb4.free j
                            have hd1 := sA_digit Hn cc HCAN.out.1 (can17_255 HCAN.out) HCD.out j j
                            have hd2 := HCD.out j
                            have HS : Hid (sA Hn cc (j + 1) = (sA Hn cc j).set j ((sA Hn cc j).getD j 0 + cc.getD j 0)) := Lib.hid rfl
                            clear hb1 hb2 hb3 hb4 hb5 hbel
                            generalize (sA Hn cc j).getD j 0 = y at *
                            generalize cc.getD j 0 = z at *
                            obtain ⟨y0, y1⟩ := hd1
                            obtain ⟨z0, z1⟩ := hd2
                            go_wp2_with fail
                            go_region
                            go_wp2_with fail
                            go_roundw
                            case rel => exact ⟨j + 1, by omega, by go_num, H5.out.far (by have := HCA.out; simp; omega) _, H1.out.far (by simp; omega) _, H2.out.far (by simp; omega) _, H3.out.far (by simp) _, by rw [HS.out]; exact H4.out.seti j _, Ext.trans (b := wr.setCell ⟨A + 1 + 1 + 1, j, none⟩ (.int .i64 (y + z))) (Below.setCell HE.out (by have := HAW.out; simp; omega) _) (Ext.drew _)⟩
                            case measure => simp [intOf]; omega
                          · have hj17 : j = 17 := by omega
                            subst hj17
                            rw [show ((17 : Nat) : Int) = 17 from rfl]
                            clear hb1 hb2 hb3 hb4 hb5 hbel
                            have HSD := Lib.hid (sA_digit Hn cc HCAN.out.1 (can17_255 HCAN.out) HCD.out 17)
                            have HSV := Lib.hid (sA_full Hn cc HCAN.out.1 HCL.out)
                            generalize sA Hn cc 17 = s at *
                            have HMUL := Lib.hid (mul17 HSL.out HRL.out HSD.out HRD.out)
                            have HTIM := Lib.hid (fun w => times17_any s r w HSL.out HRL.out HSD.out HRD.out)
                            generalize qThree (tList s r 17) = Hm at *
                            have HIs := Lib.hid (d17_size HSL.out)
                            have HIr := Lib.hid (d17_size HRL.out)
                            have HIm := Lib.hid (d17_size HMUL.out.1.1)
                            have HLm : Hid ((ints .i64 Hm).length = (ints .i64 s).length) := Lib.hid (by rw [ints_length, ints_length, HMUL.out.1.1, HSL.out])
                            go_wp2_with (first | (refine wpList_load_blk rfl _ _ rfl (A + 1 + 1 + 1) rfl _ _ _ _ H4.out Try.underlying39 HIs.out ?_) | (refine wpList_load_blk rfl _ _ rfl (A + 1 + 1) rfl _ _ _ _ H3.out Try.underlying39 HIr.out ?_))
                            refine (HTIM.out wr).mono ?_
                            rintro e w5 ⟨rfl, hb⟩
                            have H1 := Lib.hid (ext_blk H1.out hb)
                            have H2 := Lib.hid (ext_blk H2.out hb)
                            have H3 := Lib.hid (ext_blk H3.out hb)
                            have H4 := Lib.hid (ext_blk H4.out hb)
                            have HE := Lib.hid (HE.out.trans hb)
                            clear hb HTIM
                            have f63 : (f : Int) + 16 ≤ 9223372036854775807 := by have := HBL.out; omega
                            go_wp2_with (refine wpList_store_blk rfl _ _ _ rfl (A + 1 + 1 + 1) (ints .i64 Hm) rfl rfl _ _ H4.out HLm.out HIm.out (ints_one _ _) ?_; intro w6 hb6 hg6)
                            go_roundw
                            case rel =>
                              refine ⟨n + 1, f + 16, Hm, by have := HF.out; omega, by have := HF.out; omega, by go_num, HMUL.out.1, ?_, H1.out.grown hg6 (fun e => by have h := Option.some.inj e; omega), H2.out.grown hg6 (fun e => by have h := Option.some.inj e; omega), H3.out.grown hg6 (fun e => by have h := Option.some.inj e; omega), hb6, ext_grown HE.out hg6 (by have := HAW.out; omega)⟩
                              rw [HMUL.out.2, HSV.out, HCC.out, HRV.out]
                              show _ = (pAcc (pR kb) b n + pBlk b n) * pR kb % (pQ : Int)
                              rw [← HACC.out, Int.mul_emod, Int.add_emod, Int.emod_add_emod]
                              rw [Int.mul_emod ((gV 256 Hn % (pQ : Int) + pBlk b n)), Int.emod_add_emod]
                              simp
                            case measure => simp [intOf]; omega
                · have hnn : n = (b.length + 15) / 16 := by have := HF.out; have := HN.out; omega
                  have HNUM : Hid (pAcc (pR kb) b n = pNum kb b) := Lib.hid (by rw [hnn]; rfl)
                  have HC3 := Lib.hid (can17_three HCAN.out)
                  have HWV := Lib.hid (wOut_val (can17_three HCAN.out).1)
                  have HWH := Lib.hid (fun w => whole17_any Hn w HCAN.out)
                  have HI0 := Lib.hid (d17_size HCAN.out.1)
                  clear hnn
                  go_wp2_with (refine wpList_load_blk rfl _ _ rfl (A + 1 + 1 + 1) rfl _ _ _ _ H4.out Try.underlying39 HI0.out ?_)
                  refine (HWH.out wr).mono ?_
                  rintro e w5 ⟨rfl, hb⟩
                  have H1 := Lib.hid (ext_blk H1.out hb)
                  have H2 := Lib.hid (ext_blk H2.out hb)
                  have H4 := Lib.hid (ext_blk H4.out hb)
                  have HE := Lib.hid (HE.out.trans hb)
                  clear hb HWH H3
                  obtain ⟨h, hh⟩ : ∃ h, h = wOut (qThree Hn) := ⟨_, rfl⟩
                  have HHL : Hid (h.length = 17) := Lib.hid (by rw [hh]; exact HWV.out.1)
                  have HHD : Hid (∀ i, i < 17 → 0 ≤ h.getD i 0 ∧ h.getD i 0 < 256) := Lib.hid (by rw [hh]; exact HWV.out.2.1)
                  have HHV : Hid (gV 256 h = pNum kb b) := Lib.hid (by rw [hh, HWV.out.2.2, HC3.out.2, HACC.out, HNUM.out])
                  rw [← hh]
                  clear hh HC3 HWV HNUM HACC
                  have HTAG := Lib.hid (tag_digits HKL.out HHL.out HHD.out HHV.out)
                  have HIh := Lib.hid (d17_size HHL.out)
                  have HLh : Hid ((ints .i64 h).length = (ints .i64 Hn).length) := Lib.hid (by rw [ints_length, ints_length, HHL.out, HCAN.out.1])
                  go_upto_region 33 with (refine wpList_store_blk rfl _ _ _ rfl (A + 1 + 1 + 1) (ints .i64 h) rfl rfl _ _ H4.out HLh.out HIh.out (ints_one _ _) ?_; intro w6 hb6 hg6)
                  have H1 := Lib.hid (H1.out.grown hg6 (fun e => by have h := Option.some.inj e; omega))
                  have H2 := Lib.hid (H2.out.grown hg6 (fun e => by have h := Option.some.inj e; omega))
                  have HE := Lib.hid (ext_grown HE.out hg6 (by have := HAW.out; omega))
                  have H4 := Lib.hid hb6
                  clear hb6 hg6 HLh HIh HI0 HCAN HF HN
                  have HSL : Hid (((kb.drop 16).take 16).length = 16) := Lib.hid (by rw [List.length_take, List.length_drop, HKL.out]; rfl)
                  have HSG : Hid (∀ i, i < 16 → ((kb.drop 16).take 16).getD i 0 = kb.getD (16 + i) 0) := Lib.hid (fun i hi => by
                    simp [List.getD, List.getElem?_take, hi, List.getElem?_drop])
                  have HDD : Hid (∀ i, 0 ≤ h.getD i 0 ∧ h.getD i 0 ≤ 255) := Lib.hid (fun i => by
                    rcases Nat.lt_or_ge i 17 with hi | hi
                    · have := HHD.out i hi
                      omega
                    · rw [getD_out (by rw [HHL.out]; exact hi)]
                      omega)
                  have HUR := Lib.hid (uT_range HDD.out ((kb.drop 16).take 16))
                  generalize (kb.drop 16).take 16 = s at *
                  obtain ⟨o, ho⟩ : ∃ o, o = polyTag kb b := ⟨_, rfl⟩
                  have HO := Lib.hid ho
                  have HOL : Hid (o.length = 16) := Lib.hid (by rw [ho]; exact polyTag_length _ _)
                  have HOD : Hid (∀ i, i < 16 → tD h s i = ((o.getD i 0).toNat : Int)) := Lib.hid (fun i hi => by
                    have e := congrArg (fun l => l.getD i 0) HTAG.out
                    rw [← ho] at e
                    have e1 : (tL h s 16).getD i 0 = tD h s i := by
                      simp only [tL, List.getD_eq_getElem?_getD, List.getElem?_map, List.getElem?_range hi]
                      rfl
                    have hio : i < o.length := by rw [ho, polyTag_length]; exact hi
                    have e2 : (o.map fun b => (b.toNat : Int)).getD i 0 = ((o.getD i 0).toNat : Int) := by simp [List.getD, hio]
                    rw [← e1, ← e2]
                    exact e)
                  clear ho HTAG
                  obtain ⟨T, hT⟩ : ∃ T, T = w6.heap.size := ⟨_, rfl⟩
                  have HTA : Hid (A + 1 + 1 + 1 < T) := Lib.hid (by have := H4.out.lt; omega)
                  have HXA := Ext.alloc w6 (.cells (ints .u8 (List.replicate 16 0)).toArray 30)
                  have H6 : Hid (Blk (w6.alloc (.cells (ints .u8 (List.replicate 16 0)).toArray 30)) T ((fill 16 o 0).map bval) 30) := Lib.hid (by rw [fill_start, hT]; exact Blk.made w6 (ints .u8 (List.replicate 16 0)) 30)
                  have H1n := Lib.hid (ext_blk H1.out HXA)
                  have H2n := Lib.hid (ext_blk H2.out HXA)
                  have H4n := Lib.hid (ext_blk H4.out HXA)
                  have HEn := Lib.hid (HE.out.trans HXA)
                  clear HXA
                  go_upto_region 34 with (fail)
                  change Code.wp _ _ _ _ (w6.alloc (.cells (ints .u8 (List.replicate 16 0)).toArray 30))
                  rw [← hT]
                  clear H1 H2 H4 HE hT
                  generalize w6.alloc (.cells (ints .u8 (List.replicate 16 0)).toArray 30) = w8 at *
                  go_wp2_with fail
                  go_loopw [16, 17] (fun uv iv wr => ∃ (i : Nat), i ≤ 16 ∧ uv = .int .i64 (uT h s i) ∧ iv = .int .i64 (i : Int) ∧ Blk wr A (kb.map bval) 23 ∧ Blk wr (A + 1) (ints .u8 (List.replicate 16 0)) 30 ∧ Blk wr (A + 1 + 1 + 1) (ints .i64 h) 39 ∧ Blk wr T ((fill 16 o i).map bval) 30 ∧ Ext w wr) (fun _ iv _ => 16 - (intOf iv).toNat)
                  case atStart => exact ⟨0, by omega, rfl, rfl, H1n.out, H2n.out, H4n.out, H6.out, HEn.out⟩
                  case round =>
                    clear H1n H2n H4n H6 HEn
                    obtain ⟨i, hi, rfl, rfl, hb1, hb2, hb4, hb6, hbel⟩ := hrel
                    have i0 : (0 : Int) ≤ (i : Int) := Int.natCast_nonneg _
                    have H1 := Lib.hid hb1
                    have H2 := Lib.hid hb2
                    have H4 := Lib.hid hb4
                    have H6 := Lib.hid hb6
                    have HE := Lib.hid hbel
                    by_cases hli : i < 16
                    · have i1 : (i : Int) < 16 := by omega
                      have i2 : (i : Int) < 17 := by omega
                      obtain ⟨q, hq⟩ : ∃ q, q = 16 + i := ⟨_, rfl⟩
                      have q1 : (16 : Int) + (i : Int) = (q : Int) := by omega
                      have q2 : (q : Int) < 32 := by omega
                      have q3 : (0 : Int) ≤ (q : Int) := by omega
                      have c1 := digit_cell hb4 (i := i) (by rw [HHL.out]; omega)
                      have c2 := hb1.cell q
                      rw [bval_get (by rw [HKL.out]; omega)] at c2
                      have hsg := HSG.out i hli
                      rw [← hq] at hsg
                      rw [← hsg] at c2
                      obtain ⟨u6, c6⟩ : ∃ u, wr.cell? ⟨T, i, none⟩ = some u := ⟨_, by rw [hb6.cell, bval_get (by rw [fill_length HOL.out (by omega)]; exact hli)]⟩
                      have f6 := hb6.free i
                      have hu := HUR.out i
                      have hz := HDD.out i
                      have hy := (s.getD i 0).toNat_lt
                      have HU : Hid (uT h s (i + 1) = (uT h s i + h.getD i 0 + ((s.getD i 0).toNat : Int)) / 256) := Lib.hid rfl
                      have HD : Hid ((uT h s i + h.getD i 0 + ((s.getD i 0).toNat : Int)) % 256 = ((o.getD i 0).toNat : Int)) := Lib.hid (HOD.out i hli)
                      clear hb1 hb2 hb4 hb6 hbel hq hsg
                      change wr.cell? ⟨A, q, none⟩ = some (.int .u8 ((s.getD i 0).toNat : Int)) at c2
                      generalize (s.getD i 0).toNat = y at *
                      generalize h.getD i 0 = z at *
                      generalize uT h s i = u at *
                      obtain ⟨u0, u1⟩ := hu
                      obtain ⟨z0, z1⟩ := hz
                      have y1 : (y : Int) ≤ 255 := by omega
                      have y2 : (0 : Int) ≤ (y : Int) := by omega
                      have a1 := and_i64_255 (u + z + (y : Int)) (by omega) (by omega)
                      go_wp2_with fail
                      go_region
                      go_wp2_with fail
                      go_roundw
                      case rel =>
                        refine ⟨i + 1, by omega, by rw [HU.out], by go_num, H1.out.far (by have := HTA.out; simp; omega) _, H2.out.far (by have := HTA.out; simp; omega) _, H4.out.far (by have := HTA.out; simp; omega) _, ?_, Ext.trans (b := wr.setCell ⟨T, i, none⟩ (.int .u8 ((u + z + (y : Int)) % 256))) (Below.setCell HE.out (by have := HAW.out; have := HTA.out; simp; omega) _) (Ext.drew _)⟩
                        rw [← fill_set_val HOL.out hli HD.out]
                        exact H6.out.set i _
                      case measure => simp [intOf]; omega
                    · have hi16 : i = 16 := by omega
                      subst hi16
                      rw [fill_full HOL.out] at hb6
                      have H6 := Lib.hid hb6
                      have HIo : Hid ((Try.prog.info? 30).map (·.size) = some (o.map bval).length) := Lib.hid (tag_size HOL.out)
                      have HLo : Hid ((o.map bval).length = (ints .u8 (List.replicate 16 0)).length) := Lib.hid (by rw [List.length_map, HOL.out, ints_length, List.length_replicate])
                      clear hb1 hb2 hb4 hb6 hbel
                      go_wp2_with (first | (refine wpList_load_blk rfl _ _ rfl T rfl _ _ _ _ H6.out Try.underlying30 HIo.out ?_) | (refine wpList_store_blk rfl _ _ _ rfl (A + 1) (o.map bval) rfl rfl _ _ H2.out HLo.out HIo.out (bval_one _) ?_; intro w9 hb9 hg9))
                      refine bodyPost_ret (result_blk rfl _ (A + 1) _ _ _ _ rfl hb9 Try.underlying30 HIo.out) rfl ?_
                      exact ⟨by rw [HO.out], ext_grown HE.out hg9 (by have := HAW.out; omega)⟩

end Go.Proofs.Ytelenldabjmjbaa

/- The last operations of a drawn region, one behind the other: each the only one that may come. Nothing here speaks of a program. Each theorem names its own conditions. -/
namespace Go.Proofs.Ytelenldabjmjbaa
open Go.RowKit
set_option linter.unusedVariables false

section
variable {P : Program} {ops : Array Oper} {Q : Exit → Act → World → Prop} {md : Region.Mode} {t : Nat}
/-- The first part is done: what is left, in whatever world has come of it. -/
theorem end_free {m : Nat} {listed : Array Bool} {a : Act} {w : World} (hd : doneB t listed = true) (h0 : Region.ready md ops listed ≠ []) (h : ∀ w', Ext w w' → wpAny P md ops Q (m + 1) listed a w') : wpAnyB P md ops Q t (m + 1) listed a w.drew :=
  ⟨fun _ w' hw' => h w' ((Ext.drew w).trans hw'), fun h' => by rw [hd] at h'; cases h'⟩
theorem anyB_done {m : Nat} {listed : Array Bool} {a : Act} {w : World} (hd : doneB t listed = true) (h : ∀ w', Ext w w' → wpAny P md ops Q (m + 1) listed a w') : wpAnyB P md ops Q t (m + 1) listed a w :=
  ⟨fun _ w' hw' => h w' hw', fun h' => by rw [hd] at h'; cases h'⟩
/-- One operation of the first part is owed, which leaves old memory alone. -/
theorem end_step {m k : Nat} {o : Oper} {listed : Array Bool} {a : Act} {w : World} (hk : ops[k]? = some o) (hr : Region.ready md ops listed = [k]) (hd : doneB t listed = false) (hg : o.guard = none)
    (h : ∀ w', Ext w w' → o.wp P a w' (fun a' w'' => Ext w' w'' ∧ wpAnyB P md ops Q t m (listed.setIfInBounds k true) a' w'') Q) : wpAnyB P md ops Q t (m + 1) listed a w.drew := by
  refine ⟨fun h0 => (by rw [hd] at h0; cases h0), fun _ w' hw' => ⟨by rw [hr]; simp, fun i hi => ?_⟩⟩
  rw [hr] at hi
  obtain rfl : i = k := by simpa using hi
  unfold wpOp
  simp only [hk, Region.wanted, hg, if_true]
  exact Or.inl (h w' ((Ext.drew w).trans hw'))
/-- One operation alone may come. -/
theorem any_one {m k : Nat} {o : Oper} {listed : Array Bool} {a : Act} {w : World} (hk : ops[k]? = some o) (hr : Region.ready md ops listed = [k]) (hg : o.guard = none)
    (h : o.wp P a w (fun a' w'' => wpAny P md ops Q m (listed.setIfInBounds k true) a' w'') Q) : wpAny P md ops Q (m + 1) listed a w := by
  refine ⟨fun h0 => (by rw [hr] at h0; cases h0), fun i hi => ?_⟩
  rw [hr] at hi
  obtain rfl : i = k := by simpa using hi
  unfold wpOp
  simp only [hk, Region.wanted, hg, if_true]
  exact Or.inl h
theorem any_nil {listed : Array Bool} {a : Act} {w : World} (hr : Region.ready md ops listed = []) (h : Q .normal a w) : wpAny P md ops Q 0 listed a w := ⟨hr, h⟩
theorem wp_assign {o : Oper} {a : Act} {w : World} {K : Act → World → Prop} (x : Operand) (v : Value) (ho : o.op = .assign x) (hx : a.eval x = v) (h : K (a.put o.dst v) w) : o.wp P a w K Q := by
  unfold Oper.wp execOp
  simp only [ho, hx, Sem.run_pure]
  exact h

/-- The laws, where the temporary is named. -/
theorem wp_assign_d {o : Oper} {a : Act} {w : World} {K : Act → World → Prop} (d : Option Nat) (x : Operand) (v : Value) (hd : o.dst = d) (ho : o.op = .assign x) (hx : a.eval x = v) (h : K (a.put d v) w) : o.wp P a w K Q := by
  subst hd
  exact wp_assign x v ho hx h
theorem wp_buildSlice_d {o : Oper} {a : Act} {w : World} {K : Act → World → Prop} (d : Option Nat) (t e : TypeId) (len : Nat) (parts : Array (Nat × Operand)) (hd : o.dst = d) (ho : o.op = .buildSlice t len parts)
    (cells : Array Value) (ie : TypeInfo) (z : Value)
    (hu : P.underlying t = some (.slice e)) (hie : P.info? e = some ie) (hz : ie.zero = some z) (hsmall : ¬ len * ie.size > 2 ^ 24) (hpos : ¬ len * ie.size = 0)
    (hf : Instr.fill (fun i => some (i * ie.size, ie.size)) ((Array.range (len * ie.size)).map (z.cells[· % z.cells.size]!)) (parts.map fun (i, x) => (i, a.eval x)).toList = some cells)
    (h : K (a.put d (.slice (some ⟨w.heap.size, 0, none⟩) len len)) (w.alloc (.cells cells e))) : o.wp P a w K Q := by
  subst hd
  exact wp_buildSlice t e len parts ho cells ie z hu hie hz hsmall hpos hf h
theorem wp_append_row_d {o : Oper} {a : Act} {w : World} {v : Value} {vs : List Value} {K : Act → World → Prop} (d : Option Nat) (s y : Operand) (t : TypeId) (hd : o.dst = d)
    (ho : o.op = .call { callee := .builtin .append, args := #[s, y], argTypes := #[t, t] })
    (base : Nat) (e : TypeId) (i : TypeInfo) (z : Value) (bytes : Nat) (ht : P.underlying t = some (.slice e)) (hi : P.info? e = some i) (hz : i.zero = some z)
    (hsize : i.size = 1) (hby : i.bytes = bytes) (hzs : z.cells.size = 1)
    (x : Value) (n : Nat) (xs : List Value) (hs : a.eval s = x) (hown : w.ownsRow base e 1 x n xs)
    (hx : a.eval y = v) (hv : Row1 w v vs) (h1 : ∀ u ∈ vs, u.oneCell' = true)
    (h63 : n + vs.length ≤ maxLen) (hbytes : (n + vs.length) * bytes ≤ 140737488355328) (hbase : base ≤ w.heap.size)
    (h : ∀ x' w', w'.ownsRow base e 1 x' (n + vs.length) (xs ++ vs) → w.grownBy w' x.ownBlock → K (a.put d x') w') : o.wp P a w K Q := by
  subst hd
  exact wp_append_row s y t ho base e i z bytes ht hi hz hsize hby hzs x n xs hs hown hx hv h1 h63 hbytes hbase h
/-- A value's element. -/
theorem det_vindex {C : World → Prop} {D : Act → Prop} {o : Oper} {rest : List Oper} {a : Act} (ty : TypeId) (x y : Operand) (vx vy v : Value) (hw : Region.wanted o (yielded ops a.tmps) = true) (ho : o.op = .index ty x y) (hx : a.eval x = vx) (hy : a.eval y = vy)
    (h : ∀ w, (Instr.index ty vx vy).run P w = .ok v w) (next : wpDet P ops C D rest (a.put o.dst v)) : wpDet P ops C D (o :: rest) a :=
  det_val _ hw (fun w _ => by
    unfold execOp
    simp only [ho, hx, hy, Sem.run_bind, h, Result.andThen_ok, Sem.run_pure]) next
/-- The address of a slice's element. -/
theorem det_sindex {C : World → Prop} {D : Act → Prop} {o : Oper} {rest : List Oper} {a : Act} (ty e : TypeId) (x y : Operand) (c off len cap j : Nat) (hw : Region.wanted o (yielded ops a.tmps) = true) (ho : o.op = .indexAddr ty x y) (hx : a.eval x = .slice (some ⟨c, off, none⟩) len cap) (hy : a.eval y = .int .i64 (j : Int))
    (hu : P.underlying ty = some (.slice e)) (hj : j < len) (hs : ∀ w, (sizeOf e).run P w = .ok 1 w)
    (next : wpDet P ops C D rest (a.put o.dst (.pointer (some ⟨c, off + j, none⟩)))) : wpDet P ops C D (o :: rest) a :=
  det_val _ hw (fun w _ => by
    have h1 : (0 : Int) ≤ (j : Int) ∧ (j : Int) < (len : Int) := by omega
    unfold execOp
    simp [ho, hx, hy, Instr.indexAt, asIntOf, run_underlying hu, Instr.sureAddr, h1, hs, WideShapes.add_plain, hj]) next
end

end Go.Proofs.Ytelenldabjmjbaa

/- Equality of bools in a drawn region's one walk. Nothing here speaks of a program. -/
namespace Go.Proofs.Ytelenldabjmjbaa
open Go.RowKit
set_option linter.unusedVariables false

section
variable {P : Program} {ops : Array Oper} {C : World → Prop} {D : Act → Prop}

theorem run_equalIn_bools {ty : TypeId} (hu : P.underlying ty = some .bool) (d : Nat) (a b : Bool) (w : World) : (Op.equalIn (d + 1) ty (.bool a) (.bool b)).run P w = .ok (a == b) w := by
  simp only [Op.equalIn, Sem.run_bind, run_underlying hu, Result.andThen_ok, Sem.run_pure]
theorem run_equal_bools {ty : TypeId} (hu : P.underlying ty = some .bool) (a b : Bool) (w : World) : (Op.equal ty (.bool a) (.bool b)).run P w = .ok (a == b) w :=
  run_equalIn_bools hu 9999 a b w
/-- A bool, held against itself. -/
theorem det_eqb {o : Oper} {rest : List Oper} {a : Act} {ty rt : TypeId} {x y : Operand} (b : Bool) (hu : P.underlying ty = some .bool) (hw : Region.wanted o (yielded ops a.tmps) = true) (ho : o.op = .binOp .eql ty x y rt) (hx : a.eval x = .bool b) (hy : a.eval y = .bool b)
    (next : wpDet P ops C D rest (a.put o.dst (.bool true))) : wpDet P ops C D (o :: rest) a :=
  det_val _ hw (fun w _ => by
    unfold execOp
    simp only [ho, hx, hy]
    simp [eqGuard, binOp, run_equal_bools hu]) next
end

end Go.Proofs.Ytelenldabjmjbaa

/- What may be taken first in a drawn region in which calls and new memory stand in a chain. Nothing here speaks of a program. Each theorem names its own conditions. -/
namespace Go.Proofs.Ytelenldabjmjbaa
open Go.RowKit
set_option linter.unusedVariables false

section
variable {P : Program} {ops : Array Oper} {S : World → Prop}
theorem yi_val {o : Oper} {a : Act} (v : Value) (hw : Region.wanted o (yielded ops a.tmps) = true) (h : ∀ w, S w → (execOp a.eval o).run P w = .ok (.value v) w) : YieldsIf P ops S o v a := Or.inl ⟨hw, h⟩
theorem yi_skip {o : Oper} {a : Act} (hw : Region.wanted o (yielded ops a.tmps) = false) : YieldsIf P ops S o undef a := Or.inr ⟨hw, rfl⟩
theorem yi_move {o : Oper} {a : Act} (x : Operand) (v : Value) (hw : Region.wanted o (yielded ops a.tmps) = true) (ho : o.op = .move x) (hx : a.eval x = v) : YieldsIf P ops S o v a :=
  yi_val v hw (fun w _ => by unfold execOp; simp only [ho, hx, Sem.run_pure])
theorem yi_assign {o : Oper} {a : Act} (x : Operand) (v : Value) (hw : Region.wanted o (yielded ops a.tmps) = true) (ho : o.op = .assign x) (hx : a.eval x = v) : YieldsIf P ops S o v a :=
  yi_val v hw (fun w _ => by unfold execOp; simp only [ho, hx, Sem.run_pure])
theorem yi_pick {o : Oper} {a : Act} (c x y : Operand) (b : Bool) (v : Value) (hw : Region.wanted o (yielded ops a.tmps) = true) (ho : o.op = .pick c x y) (hc : a.eval c = .bool b) (hx : (if b then a.eval x else a.eval y) = v) : YieldsIf P ops S o v a :=
  yi_val v hw (fun w _ => by
    unfold execOp
    cases b <;> simp only [ho, hc, Bool.false_eq_true, if_false, if_true] at hx ⊢ <;> simp [asBool, hx])
theorem yi_eql {o : Oper} {a : Act} (ty rt e : TypeId) (x y : Operand) (n : Nat) (i : TypeInfo) (xs ys : List UInt8) (r : Bool) (hw : Region.wanted o (yielded ops a.tmps) = true) (ho : o.op = .binOp .eql ty x y rt) (hb : decide (xs = ys) = r)
    (hu : P.underlying ty = some (.array n e)) (he : P.underlying e = some (.int .u8)) (hi : P.info? e = some i) (hc : P.cellsOf e = 1) (hg : P.eqGuardType P.depth ty = false)
    (hx : a.eval x = .agg (xs.map bval).toArray) (hy : a.eval y = .agg (ys.map bval).toArray) (lx : xs.length = n) (ly : ys.length = n) : YieldsIf P ops S o (.bool r) a :=
  yi_val _ hw (fun w _ => by
    have h1 := run_equal_bytes hu he hi hc xs ys lx ly w
    rw [hb] at h1
    unfold execOp
    simp [ho, hx, hy, eqGuard, hg, binOp, h1])
/-- A slice, whose run is known. -/
theorem yi_slice {o : Oper} {a : Act} (t : TypeId) (x : Operand) (lo hi : Option Operand) (vx v : Value) (vlo vhi : Option Value) (hw : Region.wanted o (yielded ops a.tmps) = true) (ho : o.op = .slice t x lo hi none) (hx : a.eval x = vx) (hlo : lo.map a.eval = vlo) (hhi : hi.map a.eval = vhi)
    (h : ∀ w, (Instr.sliceAt t vx vlo vhi none).run P w = .ok v w) : YieldsIf P ops S o v a :=
  yi_val v hw (fun w _ => by
    unfold execOp
    simp only [ho, hx, hlo, hhi, Option.map_none, Sem.run_bind, h, Result.andThen_ok, Sem.run_pure])
theorem step_wp {o : Oper} {a : Act} {w : World} {K : Act → World → Prop} {Q : Exit → Act → World → Prop} {E : Prop} (hw : Region.wanted o (yielded ops a.tmps) = true) (h : Oper.wp P o a w K Q) : if Region.wanted o (yielded ops a.tmps) = true then Oper.wp P o a w K Q else E := by
  rw [if_pos hw]
  exact h
end

end Go.Proofs.Ytelenldabjmjbaa

/- Further operations that may be taken first in a drawn region in which calls and new memory stand in a chain: lengths, texts of bytes, comparisons, not. Nothing here speaks of a program. Each theorem names its own conditions. -/
namespace Go.Proofs.Ytelenldabjmjbaa
open Go.RowKit
set_option linter.unusedVariables false
set_option linter.unusedSimpArgs false

section
variable {P : Program} {ops : Array Oper} {S : World → Prop}
theorem yi_len {o : Oper} {a : Act} (x : Operand) (t e : TypeId) (ad : Option Addr) (n c : Nat) (ht : P.underlying t = some (.slice e)) (hw : Region.wanted o (yielded ops a.tmps) = true) (ho : o.op = .call { callee := .builtin .len, args := #[x], argTypes := #[t] }) (hx : a.eval x = .slice ad n c) : YieldsIf P ops S o (.int .i64 (n : Int)) a :=
  yi_val _ hw (fun w _ => by
    unfold execOp
    simp [ho, resolve, invoke, builtin, hx, Builtin.len_, run_underlying ht, goInt, Result.andThen])
theorem yi_not {o : Oper} {a : Act} (ty : TypeId) (x : Operand) (b : Bool) (hw : Region.wanted o (yielded ops a.tmps) = true) (ho : o.op = .unOp .not ty x) (hx : a.eval x = .bool b) : YieldsIf P ops S o (.bool !b) a :=
  yi_val _ hw (fun w _ => by
    unfold execOp
    simp [ho, hx, Op.unary, Result.andThen])
theorem yi_eqb {o : Oper} {a : Act} (ty rt : TypeId) (x y : Operand) (b c r : Bool) (hr : (b == c) = r) (hu : P.underlying ty = some .bool) (hw : Region.wanted o (yielded ops a.tmps) = true) (ho : o.op = .binOp .eql ty x y rt) (hx : a.eval x = .bool b) (hy : a.eval y = .bool c) : YieldsIf P ops S o (.bool r) a :=
  yi_val _ hw (fun w _ => by
    unfold execOp
    simp only [ho, hx, hy]
    simp [eqGuard, binOp, run_equal_bools hu, hr])
/-- A text of bytes, whose run is known. -/
theorem yi_conv {o : Oper} {a : Act} (s t : TypeId) (x : Operand) (vx v : Value) (hw : Region.wanted o (yielded ops a.tmps) = true) (ho : o.op = .convert s t x) (hx : a.eval x = vx) (h : ∀ w, S w → (convert s t vx).run P w = .ok v w) : YieldsIf P ops S o v a :=
  yi_val v hw (fun w hS => by
    unfold execOp
    simp only [ho, hx, Sem.run_bind, h w hS, Result.andThen_ok, Sem.run_pure])
theorem yi_eqi {o : Oper} {a : Act} (k : IntKind) (ty rt : TypeId) (x y : Operand) (b c : Int) (r : Bool) (hr : decide (b = c) = r) (hw : Region.wanted o (yielded ops a.tmps) = true) (ho : o.op = .binOp .eql ty x y rt) (hx : a.eval x = .int k b) (hy : a.eval y = .int k c) : YieldsIf P ops S o (.bool r) a :=
  yi_val _ hw (fun w _ => by
    subst hr
    unfold execOp
    simp only [ho, hx, hy]
    simp [eqGuard, binOp, Op.intCmp, Result.andThen]
    try rw [Bool.eq_iff_iff]; simp)
theorem yi_eqt {o : Oper} {a : Act} (ty rt : TypeId) (x y : Operand) (b c : List UInt8) (r : Bool) (hr : decide (b = c) = r) (hw : Region.wanted o (yielded ops a.tmps) = true) (ho : o.op = .binOp .eql ty x y rt) (hx : a.eval x = .string ⟨b.toArray⟩) (hy : a.eval y = .string ⟨c.toArray⟩) : YieldsIf P ops S o (.bool r) a :=
  yi_val _ hw (fun w _ => by
    subst hr
    unfold execOp
    simp only [ho, hx, hy]
    simp [eqGuard, binOp, Op.stringOp, Result.andThen]
    try rw [Bool.eq_iff_iff]; simp)
theorem yi_and {o : Oper} {a : Act} (k : IntKind) (ty rt : TypeId) (x y : Operand) (m n r : Int) (hr : bits .and k m n = r) (hw : Region.wanted o (yielded ops a.tmps) = true) (ho : o.op = .binOp .and ty x y rt) (hx : a.eval x = .int k m) (hy : a.eval y = .int k n) : YieldsIf P ops S o (.int k r) a :=
  yi_val _ hw (fun w _ => by rw [← hr]; unfold execOp bits; simp [ho, hx, hy, eqGuard, binOp, Op.intBits])
theorem yi_iconv {o : Oper} {a : Act} (src dst : TypeId) (x : Operand) (k k' : IntKind) (n r : Int) (hs : (P.underlying src).isSome = true) (hd : P.underlying dst = some (.int k')) (hr : k'.wrap n = r) (hw : Region.wanted o (yielded ops a.tmps) = true) (ho : o.op = .convert src dst x) (hx : a.eval x = .int k n) : YieldsIf P ops S o (.int k' r) a :=
  yi_val _ hw (fun w _ => by
    obtain ⟨u, hu⟩ := Option.isSome_iff_exists.1 hs
    have h : (convert src dst (.int k n)).run P w = .ok (.int k' r) w := by
      simp [convert, run_underlying hu, run_underlying hd, Conv.intToInt, hr]
    unfold execOp
    simp only [ho, hx, Sem.run_bind, h, Result.andThen_ok, Sem.run_pure])
theorem wp_alloc_d {o : Oper} {a : Act} {w : World} {K : Act → World → Prop} {Q : Exit → Act → World → Prop} (d : Option Nat) (ty : TypeId) (zs : List Value) (hd : o.dst = d) (ho : o.op = .alloc ty) (hz : ∀ w, (zeroValue ty).run P w = .ok (.agg zs.toArray) w)
    (h : K (a.put d (.pointer (some ⟨w.heap.size, 0, none⟩))) (w.alloc (.cells zs.toArray ty))) : o.wp P a w K Q := by
  subst hd
  unfold Oper.wp
  rw [run_alloc_zero ho hz]
  exact h
theorem wp_conv_d {o : Oper} {a : Act} {w : World} {K : Act → World → Prop} {Q : Exit → Act → World → Prop} (d : Option Nat) (s t : TypeId) (x : Operand) (vx v : Value) (w' : World) (hd : o.dst = d) (ho : o.op = .convert s t x) (hx : a.eval x = vx) (hr : (convert s t vx).run P w = .ok v w')
    (h : K (a.put d v) w') : o.wp P a w K Q := by
  subst hd
  unfold Oper.wp execOp
  simp only [ho, hx, Sem.run_bind, hr, Result.andThen_ok, Sem.run_pure]
  exact h
theorem yi_neqB {o : Oper} {a : Act} (ty rt e : TypeId) (x y : Operand) (n : Nat) (i : TypeInfo) (xs ys : List UInt8) (r : Bool) (hw : Region.wanted o (yielded ops a.tmps) = true) (ho : o.op = .binOp .neq ty x y rt) (hb : decide (xs = ys) = !r)
    (hu : P.underlying ty = some (.array n e)) (he : P.underlying e = some (.int .u8)) (hi : P.info? e = some i) (hc : P.cellsOf e = 1) (hg : P.eqGuardType P.depth ty = false)
    (hx : a.eval x = .agg (xs.map bval).toArray) (hy : a.eval y = .agg (ys.map bval).toArray) (lx : xs.length = n) (ly : ys.length = n) : YieldsIf P ops S o (.bool r) a :=
  yi_val _ hw (fun w _ => by
    have h1 := run_equal_bytes hu he hi hc xs ys lx ly w
    rw [hb] at h1
    unfold execOp
    simp [ho, hx, hy, eqGuard, hg, binOp, h1])
theorem yi_build {o : Oper} {a : Act} (ty : TypeId) (parts : Array (Nat × Operand)) (vs : Array (Nat × Value)) (v : Value) (hr : ∀ w, (Instr.build ty vs).run P w = .ok v w) (hw : Region.wanted o (yielded ops a.tmps) = true) (ho : o.op = .build ty parts) (hp : parts.map (fun (i, x) => (i, a.eval x)) = vs) : YieldsIf P ops S o v a :=
  yi_val _ hw (fun w _ => by
    subst hp
    unfold execOp
    simp only [ho, Sem.run_bind, hr, Result.andThen_ok, Sem.run_pure])
theorem wp_make_d {o : Oper} {a : Act} {w : World} {K : Act → World → Prop} {Q : Exit → Act → World → Prop} (d : Option Nat) (t : TypeId) (x y : Operand) (vx vy v : Value) (w' : World) (hd : o.dst = d) (ho : o.op = .makeSlice t x y) (hx : a.eval x = vx) (hy : a.eval y = vy) (hr : (Instr.makeSlice t vx vy).run P w = .ok v w')
    (h : K (a.put d v) w') : o.wp P a w K Q := by
  subst hd
  unfold Oper.wp execOp
  simp only [ho, hx, hy, Sem.run_bind, hr, Result.andThen_ok, Sem.run_pure]
  exact h
theorem yi_add {o : Oper} {a : Act} (k : IntKind) (ty rt : TypeId) (x y : Operand) (m n r : Int) (hr : k.wrap (m + n) = r) (hw : Region.wanted o (yielded ops a.tmps) = true) (ho : o.op = .binOp .add ty x y rt) (hx : a.eval x = .int k m) (hy : a.eval y = .int k n) : YieldsIf P ops S o (.int k r) a :=
  yi_val _ hw (fun w _ => by unfold execOp; simp [ho, hx, hy, eqGuard, binOp, Op.intArith, hr])
theorem yi_sub {o : Oper} {a : Act} (k : IntKind) (ty rt : TypeId) (x y : Operand) (m n r : Int) (hr : k.wrap (m - n) = r) (hw : Region.wanted o (yielded ops a.tmps) = true) (ho : o.op = .binOp .sub ty x y rt) (hx : a.eval x = .int k m) (hy : a.eval y = .int k n) : YieldsIf P ops S o (.int k r) a :=
  yi_val _ hw (fun w _ => by unfold execOp; simp [ho, hx, hy, eqGuard, binOp, Op.intArith, hr])
theorem yi_mul {o : Oper} {a : Act} (k : IntKind) (ty rt : TypeId) (x y : Operand) (m n r : Int) (hr : k.wrap (m * n) = r) (hw : Region.wanted o (yielded ops a.tmps) = true) (ho : o.op = .binOp .mul ty x y rt) (hx : a.eval x = .int k m) (hy : a.eval y = .int k n) : YieldsIf P ops S o (.int k r) a :=
  yi_val _ hw (fun w _ => by unfold execOp; simp [ho, hx, hy, eqGuard, binOp, Op.intArith, hr])
theorem yi_net {o : Oper} {a : Act} (ty rt : TypeId) (x y : Operand) (b c : List UInt8) (r : Bool) (hr : decide (b = c) = !r) (hw : Region.wanted o (yielded ops a.tmps) = true) (ho : o.op = .binOp .neq ty x y rt) (hx : a.eval x = .string ⟨b.toArray⟩) (hy : a.eval y = .string ⟨c.toArray⟩) : YieldsIf P ops S o (.bool r) a :=
  yi_val _ hw (fun w _ => by
    have hr2 : r = !decide (b = c) := by rw [hr, Bool.not_not]
    subst hr2
    unfold execOp
    simp only [ho, hx, hy]
    simp [eqGuard, binOp, Op.stringOp, Result.andThen]
    try rw [Bool.eq_iff_iff]; simp)
end

end Go.Proofs.Ytelenldabjmjbaa

/- Forms of rows and of a row of the call's own; a byte turned by another; pieces of a list. Nothing here speaks of a program. Each theorem names its own conditions. -/
namespace Go.Proofs.Ytelenldabjmjbaa
open Go.RowKit
set_option linter.unusedVariables false
set_option linter.unusedSimpArgs false

theorem own_form {w : World} {base n : Nat} {e : TypeId} {x : Value} {xs : List Value} (h : w.ownsRow base e 1 x n xs) (hn : 0 < n) :
    ∃ g cap cur, x = .slice (some ⟨g, 0, none⟩) n cap ∧ base ≤ g ∧ Blk w g cur e ∧ n ≤ cap ∧ cap ≤ maxLen ∧ cur.take n = xs ∧ n ≤ cur.length := by
  obtain ⟨h1, ⟨_, h0⟩ | ⟨g, cap, cur, rfl, h2, h3, h4, h5, h6, h7⟩⟩ := h
  · omega
  · rw [Nat.mul_one] at h7
    refine ⟨g, cap, cur.toList, rfl, h2, h3, h4, h5, h7, ?_⟩
    have := congrArg List.length h7
    rw [List.length_take] at this
    omega
theorem xor_u8 (a b : UInt8) : bits .xor .u8 (a.toNat : Int) (b.toNat : Int) = ((a ^^^ b).toNat : Int) := by
  have e1 : (BitVec.ofInt 8 (a.toNat : Int)) = a.toBitVec := by
    apply BitVec.eq_of_toNat_eq
    have := a.toNat_lt
    rw [BitVec.toNat_ofInt]
    show _ = a.toNat
    omega
  have e2 : (BitVec.ofInt 8 (b.toNat : Int)) = b.toBitVec := by
    apply BitVec.eq_of_toNat_eq
    have := b.toNat_lt
    rw [BitVec.toNat_ofInt]
    show _ = b.toNat
    omega
  show IntKind.u8.wrap ((BitVec.ofInt 8 (a.toNat : Int) ^^^ BitVec.ofInt 8 (b.toNat : Int)).toNat : Nat) = _
  rw [e1, e2, IntKind.wrap_u8]
  have h := (a ^^^ b).toNat_lt
  have e3 : (a.toBitVec ^^^ b.toBitVec).toNat = (a ^^^ b).toNat := rfl
  rw [e3]
  omega

theorem info_two {P : Program} {t : TypeId} {z : Value} {n : Nat} (h : (P.info? t).map (fun i => (i.zero, i.size)) = some (some z, n)) : ∃ i, P.info? t = some i ∧ i.zero = some z ∧ i.size = n := by
  cases hp : P.info? t with
  | none => rw [hp] at h; cases h
  | some i =>
    rw [hp] at h
    simp only [Option.map_some, Option.some.injEq, Prod.mk.injEq] at h
    exact ⟨i, rfl, h.1, h.2⟩
theorem row_form2 {w : World} {v : Value} {vs : List Value} (h : Row1 w v vs) : ∃ a n c, v = .slice a n c := by
  obtain ⟨a, c, rfl, _⟩ := h
  exact ⟨_, _, _, rfl⟩
theorem row_form {w : World} {v : Value} {vs : List Value} (h : Row1 w v vs) : ∃ a n c, v = .slice a n c := by
  obtain ⟨a, c, rfl, _⟩ := h
  exact ⟨_, _, _, rfl⟩
theorem cut3 (l : List UInt8) (p q : Nat) (h : p ≤ q) : [l.take p, (l.drop p).take (q - p), l.drop q].flatten = l := by
  have e : l.drop q = (l.drop p).drop (q - p) := by rw [List.drop_drop]; congr 1; omega
  simp only [List.flatten_cons, List.flatten_nil, List.append_nil]
  rw [e, List.take_append_drop, List.take_append_drop]
theorem cut4 (l : List UInt8) (q : Nat) : [[], l.take q, [], l.drop q].flatten = l := by
  simp

end Go.Proofs.Ytelenldabjmjbaa

/- The walk of what every law of chapter 10 begins with: alive. Laid by wip/gen/gply0.py. Each theorem names its own conditions. -/
namespace Go.Proofs.Ytelenldabjmjbaa
open Go.RowKit
set_option linter.unusedVariables false
set_option linter.unusedSimpArgs false

theorem tag_guard : Try.prog.eqGuardType Try.prog.depth 30 = false := by kernel_rfl
/-- The bytes 1, 2 and on to 32. -/
def smK : List UInt8 := [1, 2, 3, 4, 5, 6, 7, 8, 9, 10, 11, 12, 13, 14, 15, 16, 17, 18, 19, 20, 21, 22, 23, 24, 25, 26, 27, 28, 29, 30, 31, 32]
def tg0 : List UInt8 := [17, 18, 19, 20, 21, 22, 23, 24, 25, 26, 27, 28, 29, 30, 31, 32]
theorem smK_length : smK.length = 32 := rfl
theorem tg0_length : tg0.length = 16 := rfl
theorem smK_get : ∀ i : Fin 32, ((smK.getD i.val 0).toNat : Int) = (i.val : Int) + 1 := by decide +kernel
theorem tag_none : polyTag smK [] = tg0 := by decide +kernel
theorem tag_other : decide (polyTag smK [[1]].flatten = tg0) = !true := by decide +kernel
theorem smK_drop : smK.drop 16 = tg0 := rfl
theorem cut16 (B : Nat) (w : World) : (Instr.sliceAt 23 (.pointer (some ⟨B, 0, none⟩)) (some (.int .i64 16)) none none).run Try.prog w = .ok (.slice (some ⟨B, 16, none⟩) 16 16) w := cut_from Try.underlying23 Try.sizeOf5 w B 16 (by omega)
/-- The second half of a block of 32 bytes. -/
theorem half_row {w : World} {c : Nat} {l : List UInt8} {t : TypeId} (h : Blk w c (l.map bval) t) (hl : l.length = 32) : Row1 w (.slice (some ⟨c, 16, none⟩) 16 16) ((l.drop 16).map bval) := by
  have e : ((l.drop 16).map bval).length = 16 := by rw [List.length_map, List.length_drop, hl]
  exact ⟨_, 16, by rw [e], by omega, by unfold maxLen; omega, (fun e => by cases e), fun _ => ⟨c, 16, rfl, h.lt, fun i _ => by rw [h.cell, List.map_drop, List.getElem?_drop]⟩⟩
theorem rowB0 (w : World) : RowB w (.slice none 0 0) [] := ⟨[], Row1.nil w, rfl, fun i y k hy hk => by simp at hy⟩

set_option maxRecDepth 100000 in
set_option maxHeartbeats 4000000 in
theorem alive_any10 (w : World) : Calls Try.prog 8 #[] w fun e w' => e = .returned (.bool true) ∧ Below w.heap.size w w' := by
  obtain ⟨iq, hq0, hq1, hq2⟩ := info_two (P := Try.prog) (t := 27) (z := .slice none 0 0) (n := 1) (by kernel_rfl)
  have HQ0 := Lib.hid hq0
  have HQ1 := Lib.hid hq1
  have HQ2 := Lib.hid hq2
  obtain ⟨i0, hi, hz0, hz1, hz2⟩ := info_parts Try.info5
  have HI0 := Lib.hid hi
  have HZ0 := Lib.hid hz0
  have HZ1 := Lib.hid hz1
  have HZ2 := Lib.hid hz2
  clear hi hz0 hz1 hz2 hq0 hq1 hq2
  have HB1 := Lib.hid (Blk.made w (ints .u8 (List.replicate 32 0)) 23)
  have HE1 := Lib.hid (Ext.alloc w (.cells (ints .u8 (List.replicate 32 0)).toArray 23))
  go_enter Try.func8, Try.ntmps8
  go_upto_region 2 with (fail)
  change Code.wp _ _ _ _ (w.alloc (.cells (ints .u8 (List.replicate 32 0)).toArray 23))
  generalize w.alloc (.cells (ints .u8 (List.replicate 32 0)).toArray 23) = w1 at *
  obtain ⟨B, hB⟩ : ∃ B, B = w.heap.size := ⟨_, rfl⟩
  have HBW : Hid (w.heap.size ≤ B) := Lib.hid (by omega)
  have HB1 := HB1.out
  rw [← hB] at HB1 ⊢
  rw [← fill_start 32 smK] at HB1
  have HB1 := Lib.hid HB1
  clear hB
  go_wp2_with fail
  go_loopw [2] (fun iv wr => ∃ (k : Nat), k ≤ 32 ∧ iv = .int .i64 (k : Int) ∧ Blk wr B ((fill 32 smK k).map bval) 23 ∧ Ext w wr) (fun iv _ => 32 - (intOf iv).toNat)
  case atStart => exact ⟨0, by omega, rfl, HB1.out, HE1.out⟩
  case round =>
    clear HB1 HE1
    obtain ⟨k, hk, rfl, hb1, hbel⟩ := hrel
    have k0 : (0 : Int) ≤ (k : Int) := Int.natCast_nonneg _
    have HB1 := Lib.hid hb1
    have HE := Lib.hid hbel
    by_cases hlk : k < 32
    · have k1 : (k : Int) < 32 := by omega
      obtain ⟨u6, c6⟩ : ∃ u, wr.cell? ⟨B, k, none⟩ = some u := ⟨_, by rw [hb1.cell, bval_get (by rw [fill_length smK_length (by omega)]; exact hlk)]⟩
      have f6 := hb1.free k
      have HK := Lib.hid (smK_get ⟨k, hlk⟩)
      clear hb1 hbel
      go_wp2_with fail
      go_roundw
      case rel =>
        refine ⟨k + 1, by omega, by go_num, ?_, Below.setCell HE.out (by have := HBW.out; simp; omega) _⟩
        rw [← fill_set_val smK_length hlk HK.out.symm]
        exact HB1.out.set k _
      case measure => simp [intOf]; omega
    · have hk32 : k = 32 := by omega
      subst hk32
      rw [fill_full smK_length] at hb1
      have HB1 := Lib.hid hb1
      have HI1 : Hid ((Try.prog.info? 23).map (·.size) = some (smK.map bval).length) := Lib.hid (num_size smK_length)
      clear hb1 hbel
      go_wp2_with (refine wpList_load_blk rfl _ _ rfl B rfl _ _ _ _ HB1.out Try.underlying23 HI1.out ?_)
      refine (PSum_num smK _ [] wr smK_length (rowB0 wr) (by simp)).mono ?_
      rintro e w4 ⟨rfl, hb⟩
      have HTN : Hid (polyTag smK ([] : List (List UInt8)).flatten = tg0) := Lib.hid tag_none
      rw [HTN.out]
      have HB1 := Lib.hid (ext_blk HB1.out hb)
      have HE := Lib.hid (HE.out.trans hb)
      clear hb
      have HZT := Lib.hid (Blk.made w4 (ints .u8 (List.replicate 16 0)) 30)
      have HEA := Lib.hid (Ext.alloc w4 (.cells (ints .u8 (List.replicate 16 0)).toArray 30))
      have HI3 : Hid ((Try.prog.info? 30).map (·.size) = some (tg0.map bval).length) := Lib.hid (ptag_size tg0_length)
      have HLo : Hid ((tg0.map bval).length = (ints .u8 (List.replicate 16 0)).length) := Lib.hid (by rw [List.length_map, tg0_length, ints_length, List.length_replicate])
      go_upto_region 7 with (refine wpList_store_blk rfl _ _ _ rfl w4.heap.size (tg0.map bval) rfl rfl _ _ HZT.out HLo.out HI3.out (bval_one _) ?_; intro w6 hb6 hg6)
      have HE4 := Lib.hid (ext_grown HEA.out hg6 (Nat.le_refl _))
      have HE := Lib.hid (HE.out.trans HE4.out)
      have HB1 := Lib.hid (ext_blk HB1.out HE4.out)
      have HB3 := Lib.hid hb6
      obtain ⟨T, hT⟩ : ∃ T, T = w4.heap.size := ⟨_, rfl⟩
      rw [← hT] at HB3 ⊢
      have HR16 : Hid (Row1 w6 (.slice (some ⟨B, 16, none⟩) 16 16) (tg0.map bval)) := Lib.hid (half_row HB1.out smK_length)
      clear hb6 hg6 HZT HEA HLo HE4 hT HTN
      have B0 : Ext w6 w6.drew := Ext.drew _
      refine wp_region_held_drew (S := fun w' => Ext w6 w') (by kernel_rfl) B0 (fun hHeld => ?_)
      refine wpAnyH_take (i := 0) (v := .slice (some ⟨T, 0, none⟩) 16 16) rfl (by kernel_rfl) (by kernel_rfl) (by kernel_rfl) (fun _ _ _ h => h) (yi_slice _ _ _ _ (.pointer (some ⟨T, 0, none⟩)) (.slice (some ⟨T, 0, none⟩) 16 16) none none (by rfl) rfl rfl rfl rfl (fun w => cut_whole Try.underlying30 Try.sizeOf5 (by omega) _ w)) hHeld ?_
      simp only [Act.put, List.getElem_toArray, List.getElem_cons_zero, List.getElem_cons_succ, List.setIfInBounds_toArray, List.set_cons_zero, List.set_cons_succ]
      refine wpAnyH_take (i := 1) (v := .string ⟨(tg0).toArray⟩) rfl (by kernel_rfl) (by kernel_rfl) (by kernel_rfl) (fun _ _ _ h => h) (yi_conv _ _ _ (.slice (some ⟨T, 0, none⟩) 16 16) _ (by rfl) rfl rfl (fun w h => run_string_row _ _ 5 Try.underlying27 Try.underlying5 Try.underlying9 ((blk_row (n := 16) HB3.out (by rw [List.length_map]; exact tg0_length) (by unfold maxLen; omega)).below h))) hHeld ?_
      simp only [Act.put, List.getElem_toArray, List.getElem_cons_zero, List.getElem_cons_succ, List.setIfInBounds_toArray, List.set_cons_zero, List.set_cons_succ]
      refine wpAnyH_take (i := 2) (v := .slice (some ⟨B, 16, none⟩) 16 16) rfl (by kernel_rfl) (by kernel_rfl) (by kernel_rfl) (fun _ _ _ h => h) (yi_slice _ _ _ _ (.pointer (some ⟨B, 0, none⟩)) (.slice (some ⟨B, 16, none⟩) 16 16) (some (.int .i64 16)) none (by rfl) rfl rfl rfl rfl (fun w => cut16 _ w)) hHeld ?_
      simp only [Act.put, List.getElem_toArray, List.getElem_cons_zero, List.getElem_cons_succ, List.setIfInBounds_toArray, List.set_cons_zero, List.set_cons_succ]
      refine wpAnyH_take (i := 3) (v := .string ⟨(tg0).toArray⟩) rfl (by kernel_rfl) (by kernel_rfl) (by kernel_rfl) (fun _ _ _ h => h) (yi_conv _ _ _ (.slice (some ⟨B, 16, none⟩) 16 16) _ (by rfl) rfl rfl (fun w h => run_string_row _ _ 5 Try.underlying27 Try.underlying5 Try.underlying9 ((HR16.out).below h))) hHeld ?_
      simp only [Act.put, List.getElem_toArray, List.getElem_cons_zero, List.getElem_cons_succ, List.setIfInBounds_toArray, List.set_cons_zero, List.set_cons_succ]
      refine wpAnyH_take (i := 4) (v := .bool true) rfl (by kernel_rfl) (by kernel_rfl) (by kernel_rfl) (fun _ _ _ h => h) (yi_eqt _ _ _ _ (tg0) (tg0) true (decide_eq_true (rfl)) (by rfl) rfl rfl rfl) hHeld ?_
      simp only [Act.put, List.getElem_toArray, List.getElem_cons_zero, List.getElem_cons_succ, List.setIfInBounds_toArray, List.set_cons_zero, List.set_cons_succ]
      refine wpAnyH_take (i := 5) (v := .bool true) rfl (by kernel_rfl) (by kernel_rfl) (by kernel_rfl) (fun _ _ _ h => h) (yi_move _ (.bool true) (by rfl) rfl rfl) hHeld ?_
      simp only [Act.put, List.getElem_toArray, List.getElem_cons_zero, List.getElem_cons_succ, List.setIfInBounds_toArray, List.set_cons_zero, List.set_cons_succ]
      refine wpAnyH_take (i := 6) (v := .agg ((smK).map bval).toArray) rfl (by kernel_rfl) (by kernel_rfl) (by kernel_rfl) (fun _ _ _ h => h) (yieldsIf_load_mid (by rfl) _ _ rfl B 0 rfl _ _ (fun w h => bl_range HB1.out h) Try.underlying23 rfl HI1.out) hHeld ?_
      simp only [Act.put, List.getElem_toArray, List.getElem_cons_zero, List.getElem_cons_succ, List.setIfInBounds_toArray, List.set_cons_zero, List.set_cons_succ]
      refine wpAnyH_take (i := 10) (v := .agg ((tg0).map bval).toArray) rfl (by kernel_rfl) (by kernel_rfl) (by kernel_rfl) (fun _ _ _ h => h) (yieldsIf_load_mid (by rfl) _ _ rfl T 0 rfl _ _ (fun w h => bl_range HB3.out h) Try.underlying30 rfl HI3.out) hHeld ?_
      simp only [Act.put, List.getElem_toArray, List.getElem_cons_zero, List.getElem_cons_succ, List.setIfInBounds_toArray, List.set_cons_zero, List.set_cons_succ]
      refine wpAnyH_ready (rs := [7]) (by kernel_rfl) (by simp) (AllReadyH.cons rfl (fun K hK => ?_) AllReadyH.nil)
      refine step_wp (by rfl) ?_
      refine wp_buildSlice_d (some 22) _ _ _ _ rfl rfl #[.int .u8 1] i0 (.int .u8 0) Try.underlying27 HI0.out HZ0.out (by rw [HZ1.out]; decide) (by rw [HZ1.out]; decide) (by rw [HZ1.out]; kernel_rfl) ?_
      obtain ⟨m1, hm1⟩ : ∃ wNew, wNew = World.alloc w6.drew (.cells #[.int .u8 1] 5) := ⟨_, rfl⟩
      rw [← hm1]
      have b1 : Ext w6.drew m1 := by rw [hm1]; exact Ext.alloc _ _
      obtain ⟨g1, hg1⟩ : ∃ gNew, gNew = (w6.drew).heap.size := ⟨_, rfl⟩
      rw [← hg1]
      have r1 : Row1 m1 (.slice (some ⟨g1, 0, none⟩) 1 1) (([1] : List UInt8).map bval) := by rw [hm1, hg1]; exact Row1.made _ _ _ _ _ _ rfl rfl rfl (by unfold maxLen; omega)
      have o1 : World.ownsRow m1 (w6).heap.size 5 1 (.slice (some ⟨g1, 0, none⟩) 1 1) 1 (([1] : List UInt8).map bval) := by rw [hm1, hg1]; exact own_made _ _ _ _ _ _ rfl rfl (by unfold maxLen; omega) B0.size
      clear hm1 hg1
      have N1 : Ext w6 m1 := B0.trans b1
      refine hK.out _ _ N1 (fun hHeld => ?_)
      clear hK K
      try simp only [Act.put, List.getElem_toArray, List.getElem_cons_zero, List.getElem_cons_succ, List.setIfInBounds_toArray, List.set_cons_zero, List.set_cons_succ]
      refine wpAnyH_ready (rs := [8]) (by kernel_rfl) (by simp) (AllReadyH.cons rfl (fun K hK => ?_) AllReadyH.nil)
      refine step_wp (by rfl) ?_
      refine wp_buildSlice_d (some 23) _ _ _ _ rfl rfl #[.slice (some ⟨g1, 0, none⟩) 1 1] iq (.slice none 0 0) Try.underlying24 HQ0.out HQ1.out (by rw [HQ2.out]; decide) (by rw [HQ2.out]; decide) (by rw [HQ2.out]; kernel_rfl) ?_
      obtain ⟨m2, hm2⟩ : ∃ wNew, wNew = World.alloc m1 (.cells #[.slice (some ⟨g1, 0, none⟩) 1 1] 27) := ⟨_, rfl⟩
      rw [← hm2]
      have b2 : Ext m1 m2 := by rw [hm2]; exact Ext.alloc _ _
      obtain ⟨g2, hg2⟩ : ∃ gNew, gNew = (m1).heap.size := ⟨_, rfl⟩
      rw [← hg2]
      have r1 := r1.below b2
      have o1 := own_below o1 b2
      have r2 : Row1 m2 (.slice (some ⟨g2, 0, none⟩) 1 1) [.slice (some ⟨g1, 0, none⟩) 1 1] := by rw [hm2, hg2]; exact Row1.made _ _ _ _ _ _ rfl rfl rfl (by unfold maxLen; omega)
      clear hm2 hg2
      have N2 : Ext w6 m2 := N1.trans b2
      refine hK.out _ _ N2 (fun hHeld => ?_)
      clear hK K
      try simp only [Act.put, List.getElem_toArray, List.getElem_cons_zero, List.getElem_cons_succ, List.setIfInBounds_toArray, List.set_cons_zero, List.set_cons_succ]
      refine wpAnyH_ready (rs := [9]) (by kernel_rfl) (by simp) (AllReadyH.cons rfl (fun K hK => ?_) AllReadyH.nil)
      go_simp
      refine (PSum_num smK (.slice (some ⟨g2, 0, none⟩) 1 1) [[1]] _ smK_length (rowB1 r2 r1) (by simp)).mono ?_
      rintro e m3 ⟨rfl, b3⟩
      have r1 := r1.below b3
      have r2 := r2.below b3
      have o1 := own_below o1 b3
      have N3 : Ext w6 m3 := N2.trans b3
      refine hK.out _ _ N3 (fun hHeld => ?_)
      clear hK K
      try simp only [Act.put, List.getElem_toArray, List.getElem_cons_zero, List.getElem_cons_succ, List.setIfInBounds_toArray, List.set_cons_zero, List.set_cons_succ]
      refine wpAnyH_take (i := 11) (v := .bool true) rfl (by kernel_rfl) (by kernel_rfl) (by kernel_rfl) (fun _ _ _ h => h) (yi_neqB _ _ _ _ _ 16 _ (polyTag smK [[1]].flatten) (tg0) true (by rfl) rfl (tag_other) Try.underlying30 Try.underlying5 num_info num_cells tag_guard rfl rfl ((polyTag_length _ _)) (tg0_length)) hHeld ?_
      simp only [Act.put, List.getElem_toArray, List.getElem_cons_zero, List.getElem_cons_succ, List.setIfInBounds_toArray, List.set_cons_zero, List.set_cons_succ]
      refine wpAnyH_take (i := 12) (v := .bool true) rfl (by kernel_rfl) (by kernel_rfl) (by kernel_rfl) (fun _ _ _ h => h) (yi_pick _ _ _ true _ (by rfl) rfl rfl rfl) hHeld ?_
      simp only [Act.put, List.getElem_toArray, List.getElem_cons_zero, List.getElem_cons_succ, List.setIfInBounds_toArray, List.set_cons_zero, List.set_cons_succ]
      refine wpAnyH_ready (rs := [13]) (by kernel_rfl) (by simp) (AllReadyH.cons rfl (fun K hK => ?_) AllReadyH.nil)
      go_simp
      refine hK.out _ _ N3 (fun hHeld => ?_)
      clear hK K
      try simp only [Act.put, List.getElem_toArray, List.getElem_cons_zero, List.getElem_cons_succ, List.setIfInBounds_toArray, List.set_cons_zero, List.set_cons_succ]
      refine wpAnyH_done (by kernel_rfl) ?_ _
      go_wp2_with fail
      go_ret
      exact ⟨rfl, HE.out.trans N3⟩

end Go.Proofs.Ytelenldabjmjbaa

/- The walk of the document's own Join: many lists of bytes laid in one. Each theorem names its own conditions. -/
namespace Go.Proofs.Ytelenldabjmjbaa
open Go.RowKit
set_option linter.unusedVariables false
set_option linter.unusedSimpArgs false

theorem flat_succ (ls : List (List UInt8)) (k : Nat) (l : List UInt8) (h : ls[k]? = some l) : (ls.take (k + 1)).flatten = (ls.take k).flatten ++ l := by
  have hk : k < ls.length := by
    rcases Nat.lt_or_ge k ls.length with h' | h'
    · exact h'
    · rw [List.getElem?_eq_none h'] at h; cases h
  rw [List.take_succ_eq_append_getElem hk, List.flatten_append]
  rw [List.getElem?_eq_getElem hk] at h
  cases h
  simp
theorem flat_part (ls : List (List UInt8)) (k : Nat) : (ls.take k).flatten.length ≤ ls.flatten.length := by
  have h : ls.flatten = (ls.take k).flatten ++ (ls.drop k).flatten := by rw [← List.flatten_append, List.take_append_drop]
  rw [h, List.length_append]
  omega

set_option maxRecDepth 100000 in
set_option maxHeartbeats 4000000 in
theorem join_any (v : Value) (ls : List (List UInt8)) (w : World) (hv : RowB w v ls) (hb : ls.flatten.length ≤ 1099511627776) :
    Calls Try.prog 10 #[v] w fun e w' => ∃ x, e = .returned x ∧ Row1 w' x (ls.flatten.map bval) ∧ Below w.heap.size w w' := by
  obtain ⟨i0, hi, hz0, hz1, hz2⟩ := info_parts Try.info5
  obtain ⟨vals, hr, hlen, hx⟩ := hv
  obtain ⟨a, cap, rfl, r1, r2, r3, r4⟩ := id hr
  unfold maxLen at r2
  rw [hlen] at r1 ⊢
  have HI0 := Lib.hid hi
  have HZ0 := Lib.hid hz0
  have HZ1 := Lib.hid hz1
  have HZ2 := Lib.hid hz2
  have HX := Lib.hid hx
  have HC := Lib.hid r4
  have HLN := Lib.hid hlen
  have HB := Lib.hid hb
  have HNIL : Hid (w.ownsRow w.heap.size 5 1 (.slice none 0 0) 0 []) := Lib.hid (World.ownsRow_nil _ _ _ _)
  clear hr hx r3 r4 hb hlen hi hz0 hz1 hz2
  go_enter Try.func10, Try.ntmps10
  go_wp2_with fail
  go_loopw [3, 4] (fun x iv wr => ∃ (k : Nat), k ≤ ls.length ∧ iv = .int .i64 (k : Int) ∧ wr.ownsRow w.heap.size 5 1 x (ls.take k).flatten.length ((ls.take k).flatten.map bval) ∧ Ext w wr) (fun _ iv _ => ls.length - (intOf iv).toNat)
  case atStart => exact ⟨0, by omega, rfl, HNIL.out, Ext.refl w⟩
  case round =>
    clear HNIL
    obtain ⟨k, hk, rfl, ho, hE⟩ := hrel
    have k0 : (0 : Int) ≤ (k : Int) := Int.natCast_nonneg _
    have HO := Lib.hid ho
    have HE := Lib.hid hE
    have HS := Lib.hid hE.size
    clear ho hE
    by_cases hlk : k < ls.length
    · have k1 : (k : Int) < (ls.length : Int) := by omega
      obtain ⟨b', off, rfl, hbs, hcell⟩ := HC.out (by intro e; have h := congrArg List.length e; rw [HLN.out] at h; simp only [List.length_nil] at h; omega)
      obtain ⟨xv, hxv⟩ : ∃ x, vals[k]? = some x := ⟨_, List.getElem?_eq_getElem (by rw [HLN.out]; exact hlk)⟩
      obtain ⟨lk, hlk2⟩ : ∃ x, ls[k]? = some x := ⟨_, List.getElem?_eq_getElem hlk⟩
      have HXR := Lib.hid ((HX.out k xv lk hxv hlk2).below HE.out)
      have hft := flat_succ ls k lk hlk2
      have hfl := flat_part ls (k + 1)
      rw [hft, List.length_append] at hfl
      have HFT := Lib.hid hft
      have c0 : wr.cell? ⟨b', off + k, none⟩ = some xv := by
        have h := hcell k (by rw [HLN.out]; exact hlk)
        rw [hxv] at h
        rw [← h]
        exact HE.out.cell (p := ⟨b', off + k, none⟩) hbs
      have HFL : Hid ((ls.take k).flatten.length + (lk.map bval).length ≤ 1099511627776) := Lib.hid (by rw [List.length_map]; have := HB.out; omega)
      clear hcell hxv hlk2 hft hfl
      go_wp2_with (at_builtin; refine wpList_append_row rfl _ _ 27 rfl w.heap.size 5 i0 (.int .u8 0) 1 Try.underlying27 HI0.out HZ0.out HZ1.out HZ2.out rfl _ _ _ rfl HO.out rfl HXR.out (bval_one _) (by have := HFL.out; unfold maxLen; omega) (by have := HFL.out; omega) HS.out ?_; intro v3 w3 hown3 hgrow3)
      go_roundw
      case rel =>
        refine ⟨k + 1, by omega, by go_num, ?_, ext_own HE.out HO.out (Nat.le_refl _) hgrow3⟩
        rw [HFT.out, List.map_append, List.length_append]
        rw [List.length_map] at hown3
        exact hown3
      case measure => simp [intOf]; omega
    · have hk2 : (ls.length : Int) ≤ (k : Int) := by omega
      have hke : k = ls.length := by omega
      have hrw := Row1.of_own HO.out
      rw [hke, List.take_length] at hrw
      have HR := Lib.hid hrw
      clear hrw
      clear HO hke
      go_wp2_with fail
      go_ret
      exact ⟨_, rfl, HR.out, HE.out⟩

end Go.Proofs.Ytelenldabjmjbaa

/- The walk of what the laws of lists of bytes ask first: are they too many, or too long. Each theorem names its own conditions. -/
namespace Go.Proofs.Ytelenldabjmjbaa
open Go.RowKit
set_option linter.unusedVariables false
set_option linter.unusedSimpArgs false

/-- Are lists too many, or one too long? -/
def bigB (ls : List (List UInt8)) : Bool := decide (30 < ls.length) || ls.any fun x => decide (1000 < x.length)
theorem big_many {ls : List (List UInt8)} (h : 30 < ls.length) : bigB ls = true := by simp [bigB, h]
theorem big_one {ls : List (List UInt8)} {k : Nat} {l : List UInt8} (h : ls[k]? = some l) (hl : 1000 < l.length) : bigB ls = true := by
  unfold bigB
  rw [Bool.or_eq_true]
  right
  rw [List.any_eq_true]
  refine ⟨l, ?_, by simpa using hl⟩
  exact List.mem_of_getElem? h
theorem big_none {ls : List (List UInt8)} (h : ls.length ≤ 30) (hs : ∀ (j : Nat) (l : List UInt8), ls[j]? = some l → l.length ≤ 1000) : bigB ls = false := by
  unfold bigB
  rw [Bool.or_eq_false_iff]
  refine ⟨by simpa using h, ?_⟩
  rw [List.any_eq_false]
  intro x hx
  obtain ⟨j, hj, rfl⟩ := List.getElem_of_mem hx
  have := hs j _ (List.getElem?_eq_getElem hj)
  simpa using this
theorem flat_bound : ∀ (ls : List (List UInt8)), (∀ l ∈ ls, l.length ≤ 1000) → ls.flatten.length ≤ 1000 * ls.length
  | [], _ => by simp
  | l :: r, h => by
    have h1 := h l (List.mem_cons_self ..)
    have h2 := flat_bound r (fun x hx => h x (List.mem_cons_of_mem _ hx))
    simp only [List.flatten_cons, List.length_append, List.length_cons]
    omega
theorem small_flat {ls : List (List UInt8)} (h : bigB ls = false) : ls.flatten.length ≤ 30000 := by
  unfold bigB at h
  rw [Bool.or_eq_false_iff] at h
  have h1 : ls.length ≤ 30 := by simpa using h.1
  have h2 := h.2
  rw [List.any_eq_false] at h2
  have := flat_bound ls (fun l hl => by simpa using h2 l hl)
  omega
theorem small_len {ls : List (List UInt8)} (h : bigB ls = false) : ls.length ≤ 30 := by
  unfold bigB at h
  rw [Bool.or_eq_false_iff] at h
  simpa using h.1

set_option maxRecDepth 100000 in
set_option maxHeartbeats 4000000 in
theorem big_any (v : Value) (ls : List (List UInt8)) (w : World) (hv : RowB w v ls) : Calls Try.prog 9 #[v] w fun e w' => e = .returned (.bool (bigB ls)) ∧ w = w' := by
  obtain ⟨vals, hr, hlen, hx⟩ := hv
  obtain ⟨a, cap, rfl, r1, r2, r3, r4⟩ := id hr
  unfold maxLen at r2
  rw [hlen] at r1 ⊢
  have HX := Lib.hid hx
  have HC := Lib.hid r4
  have HLN := Lib.hid hlen
  clear hr hx r3 r4 hlen
  by_cases h30 : 30 < ls.length
  · have h31 : 30 < (ls.length : Int) := by omega
    rw [big_many h30]
    go_enter Try.func9, Try.ntmps9
    go_wp2_with fail
    go_ret
    exact ⟨rfl, rfl⟩
  · have h31 : (ls.length : Int) ≤ 30 := by omega
    have H30 : Hid (ls.length ≤ 30) := Lib.hid (by omega)
    obtain ⟨bb, hbb⟩ : ∃ b, b = bigB ls := ⟨_, rfl⟩
    have HBB := Lib.hid hbb
    rw [← hbb]
    clear h30 hbb
    go_enter Try.func9, Try.ntmps9
    go_wp2_with fail
    go_loop [3] (fun iv => ∃ k : Nat, k ≤ ls.length ∧ iv = .int .i64 (k : Int) ∧ ∀ (j : Nat) (l : List UInt8), j < k → ls[j]? = some l → l.length ≤ 1000) (fun iv => ls.length - (intOf iv).toNat)
    case atStart => exact ⟨0, Nat.zero_le _, rfl, fun j l hj => by omega⟩
    case round =>
      obtain ⟨k, hk, rfl, hall⟩ := hrel
      have HA := Lib.hid hall
      have k0 : (0 : Int) ≤ (k : Int) := Int.natCast_nonneg _
      clear hall
      by_cases hlk : k < ls.length
      · have k1 : (k : Int) < (ls.length : Int) := by omega
        obtain ⟨b', off, rfl, hbs, hcell⟩ := HC.out (by intro e; have h := congrArg List.length e; rw [HLN.out] at h; simp only [List.length_nil] at h; omega)
        obtain ⟨xv, hxv⟩ : ∃ x, vals[k]? = some x := ⟨_, List.getElem?_eq_getElem (by rw [HLN.out]; exact hlk)⟩
        obtain ⟨lk, hlk2⟩ : ∃ x, ls[k]? = some x := ⟨_, List.getElem?_eq_getElem hlk⟩
        have c0 : w.cell? ⟨b', off + k, none⟩ = some xv := by
          have h := hcell k (by rw [HLN.out]; exact hlk)
          rw [hxv] at h
          exact h
        obtain ⟨a2, cap2, rfl, s1, s2, s3, s4⟩ := HX.out k xv lk hxv hlk2
        rw [List.length_map] at s1 c0
        unfold maxLen at s2
        have HLK := Lib.hid hlk2
        clear hcell hxv hlk2 s3 s4
        by_cases hbig : 1000 < lk.length
        · have hbig2 : 1000 < (lk.length : Int) := by omega
          have HBT : Hid (bb = true) := Lib.hid (by rw [HBB.out]; exact big_one HLK.out hbig)
          go_wp2_with fail
          go_ret
          exact ⟨by rw [HBT.out]; rfl, rfl⟩
        · have hbig2 : (lk.length : Int) ≤ 1000 := by omega
          go_wp2_with fail
          go_round
          case rel =>
            refine ⟨k + 1, by omega, by go_num, fun j l hj hl => ?_⟩
            by_cases hjk : j = k
            · subst hjk
              have h := HLK.out
              rw [hl] at h
              cases h
              omega
            · exact HA.out j l (by omega) hl
          case measure => simp [intOf]; omega
      · have hk2 : (ls.length : Int) ≤ (k : Int) := by omega
        have HBF : Hid (bb = false) := Lib.hid (by
          rw [HBB.out]
          refine big_none H30.out (fun j l hl => HA.out j l ?_ hl)
          rcases Nat.lt_or_ge j ls.length with h | h
          · omega
          · rw [List.getElem?_eq_none h] at hl; cases hl)
        go_wp2_with fail
        go_ret
        exact ⟨by rw [HBF.out]; rfl, rfl⟩

end Go.Proofs.Ytelenldabjmjbaa
