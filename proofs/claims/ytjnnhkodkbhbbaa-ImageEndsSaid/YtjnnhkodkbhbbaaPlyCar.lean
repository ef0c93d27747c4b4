/- The walks of package poly's limbs: carried. Each theorem names its own conditions. -/
import Derived.Test.YtjnnhkodkbhbbaaProg
import Derived.Test.YtjnnhkodkbhbbaaPlyB
import Derived.Test.YtjnnhkodkbhbbaaArrKit
import Derived.Test.YtjnnhkodkbhbbaaInfoKit
import Derived.Test.YtjnnhkodkbhbbaaDetAll
import Derived.Test.YtjnnhkodkbhbbaaDetEnds
import Derived.Laws.Bits64b
import Derived.Deep.CutRange
import Derived.Deep.RegionWith
namespace Go.Proofs.Ytjnnhkodkbhbbaa
open Go.RowKit
set_option linter.unusedVariables false
set_option linter.unusedSimpArgs false

theorem Try.arr84 : (Try.prog.info? 84).map (·.size) = some 5 := by kernel_rfl
theorem lim_size {l : List Int} (h : l.length = 5) : (Try.prog.info? 84).map (·.size) = some (ints .u64 l).length := by rw [ints_length, h]; exact Try.arr84
theorem digit_q {w : World} {S i : Nat} {l : List Int} {t : TypeId} (h : Blk w S (ints .u64 l) t) (hi : i < l.length) : w.cell? ⟨S, i, none⟩ = some (.int .u64 (l.getD i 0)) := by
  rw [h.cell, ints_get hi]
theorem digit_b {w : World} {S i : Nat} {l : List Int} {t : TypeId} (h : Blk w S (ints .u8 l) t) (hi : i < l.length) : w.cell? ⟨S, i, none⟩ = some (.int .u8 (l.getD i 0)) := by
  rw [h.cell, ints_get hi]
theorem mask26 (a : Int) (h0 : 0 ≤ a) (h1 : a ≤ 18446744073709551615) : bits .and .u64 a 67108863 = a % 67108864 := by
  obtain ⟨n, rfl⟩ : ∃ n : Nat, a = (n : Int) := ⟨a.toNat, by omega⟩
  have h := bits_and_u64_nat n 67108863 (by omega) (by omega)
  have e : n &&& 67108863 = n % 67108864 := Nat.and_two_pow_sub_one_eq_mod n 26
  rw [e] at h
  exact h

set_option maxRecDepth 100000 in
set_option maxHeartbeats 4000000 in
theorem pcarried_any (a b c d e : Int) (ha : 0 ≤ a ∧ a ≤ 378302368699121664) (hb : 0 ≤ b ∧ b ≤ 378302368699121664) (hc : 0 ≤ c ∧ c ≤ 378302368699121664) (hd : 0 ≤ d ∧ d ≤ 378302368699121664) (he : 0 ≤ e ∧ e ≤ 90071992547409920) (w : World) :
    Calls Try.prog 75 #[.agg (ints .u64 [a, b, c, d, e]).toArray] w fun x w' => x = .returned (.agg (ints .u64 (carL [a, b, c, d, e])).toArray) ∧ Below w.heap.size w w' := by
  obtain ⟨b1, hb1⟩ : ∃ x, x = b + a / 67108864 := ⟨_, rfl⟩
  obtain ⟨c1, hc1⟩ : ∃ x, x = c + b1 / 67108864 := ⟨_, rfl⟩
  obtain ⟨d1, hd1⟩ : ∃ x, x = d + c1 / 67108864 := ⟨_, rfl⟩
  obtain ⟨e1, he1⟩ : ∃ x, x = e + d1 / 67108864 := ⟨_, rfl⟩
  obtain ⟨l, hl⟩ : ∃ x, x = a % 67108864 + 5 * (e1 / 67108864) := ⟨_, rfl⟩
  have HO : Hid (carL [a, b, c, d, e] = [l % 67108864, b1 % 67108864 + l / 67108864, c1 % 67108864, d1 % 67108864, e1 % 67108864]) := Lib.hid (by subst hl he1 hd1 hc1 hb1; rfl)
  have b2 : 0 ≤ b1 ∧ b1 ≤ 378302374400000000 := by omega
  have c2 : 0 ≤ c1 ∧ c1 ≤ 378302374400000000 := by omega
  have d2 : 0 ≤ d1 ∧ d1 ≤ 378302374400000000 := by omega
  have e2 : 0 ≤ e1 ∧ e1 ≤ 90071998300000000 := by omega
  have l2 : 0 ≤ l ∧ l ≤ 6777996000 := by omega
  rw [HO.out]
  have W1 : Hid (b + a / 67108864 = b1) := Lib.hid hb1.symm
  have W2 : Hid (c + b1 / 67108864 = c1) := Lib.hid hc1.symm
  have W3 : Hid (d + c1 / 67108864 = d1) := Lib.hid hd1.symm
  have W4 : Hid (e + d1 / 67108864 = e1) := Lib.hid he1.symm
  have W5 : Hid (a % 67108864 + 5 * (e1 / 67108864) = l) := Lib.hid hl.symm
  have HB := Lib.hid (boxes2 w (ints .u64 [a, b, c, d, e]) (ints .u64 [0, 0, 0, 0, 0]) 84 84)
  clear hb1 hc1 hd1 he1 hl HO
  go_enter Try.func75, Try.ntmps75
  go_upto_region 1 with (fail)
  obtain ⟨H1, H2, HE⟩ := HB.out
  change Code.wp _ _ _ _ ((w.alloc (.cells (ints .u64 [a, b, c, d, e]).toArray 84)).alloc (.cells (ints .u64 [0, 0, 0, 0, 0]).toArray 84))
  generalize (w.alloc (.cells (ints .u64 [a, b, c, d, e]).toArray 84)).alloc (.cells (ints .u64 [0, 0, 0, 0, 0]).toArray 84) = wa at *
  obtain ⟨A, hA⟩ : ∃ A, A = w.heap.size := ⟨_, rfl⟩
  have HAW : Hid (w.heap.size ≤ A) := Lib.hid (by omega)
  rw [← hA] at H1 H2 ⊢
  have H1 := Lib.hid H1
  have H2 := Lib.hid H2
  have HE : Hid (Ext w wa) := Lib.hid HE
  clear hA HB
  have q0 := H1.out.cell 0
  have q1 := H1.out.cell 1
  have f1 := H1.out.free 1
  simp only [ints, List.map_cons, List.map_nil, List.getElem?_cons_zero, List.getElem?_cons_succ] at q0 q1
  go_upto_region 2 with (fail)
  rw [W1.out]
  have H1 : Hid (Blk (wa.setCell ⟨A, 1, none⟩ (.int .u64 b1)) A (ints .u64 [a, b1, c, d, e]) 84) := Lib.hid (H1.out.seti 1 _)
  have H2 := Lib.hid (H2.out.far (a := ⟨A, 1, none⟩) (by simp) (.int .u64 b1))
  have HE : Hid (Ext w (wa.setCell ⟨A, 1, none⟩ (.int .u64 b1))) := Lib.hid (Below.setCell HE.out (by have := HAW.out; simp; omega) _)
  generalize wa.setCell ⟨A, 1, none⟩ (.int .u64 b1) = wa1 at *
  clear q0 q1 f1
  have q0 := H1.out.cell 1
  have q1 := H1.out.cell 2
  have f1 := H1.out.free 2
  simp only [ints, List.map_cons, List.map_nil, List.getElem?_cons_zero, List.getElem?_cons_succ] at q0 q1
  go_upto_region 3 with (fail)
  rw [W2.out]
  have H1 : Hid (Blk (wa1.setCell ⟨A, 2, none⟩ (.int .u64 c1)) A (ints .u64 [a, b1, c1, d, e]) 84) := Lib.hid (H1.out.seti 2 _)
  have H2 := Lib.hid (H2.out.far (a := ⟨A, 2, none⟩) (by simp) (.int .u64 c1))
  have HE : Hid (Ext w (wa1.setCell ⟨A, 2, none⟩ (.int .u64 c1))) := Lib.hid (Below.setCell HE.out (by have := HAW.out; simp; omega) _)
  generalize wa1.setCell ⟨A, 2, none⟩ (.int .u64 c1) = wa2 at *
  clear q0 q1 f1
  have q0 := H1.out.cell 2
  have q1 := H1.out.cell 3
  have f1 := H1.out.free 3
  simp only [ints, List.map_cons, List.map_nil, List.getElem?_cons_zero, List.getElem?_cons_succ] at q0 q1
  go_upto_region 4 with (fail)
  rw [W3.out]
  have H1 : Hid (Blk (wa2.setCell ⟨A, 3, none⟩ (.int .u64 d1)) A (ints .u64 [a, b1, c1, d1, e]) 84) := Lib.hid (H1.out.seti 3 _)
  have H2 := Lib.hid (H2.out.far (a := ⟨A, 3, none⟩) (by simp) (.int .u64 d1))
  have HE : Hid (Ext w (wa2.setCell ⟨A, 3, none⟩ (.int .u64 d1))) := Lib.hid (Below.setCell HE.out (by have := HAW.out; simp; omega) _)
  generalize wa2.setCell ⟨A, 3, none⟩ (.int .u64 d1) = wa3 at *
  clear q0 q1 f1
  have q0 := H1.out.cell 3
  have q1 := H1.out.cell 4
  have f1 := H1.out.free 4
  simp only [ints, List.map_cons, List.map_nil, List.getElem?_cons_zero, List.getElem?_cons_succ] at q0 q1
  go_upto_region 5 with (fail)
  rw [W4.out]
  have H1 : Hid (Blk (wa3.setCell ⟨A, 4, none⟩ (.int .u64 e1)) A (ints .u64 [a, b1, c1, d1, e1]) 84) := Lib.hid (H1.out.seti 4 _)
  have H2 := Lib.hid (H2.out.far (a := ⟨A, 4, none⟩) (by simp) (.int .u64 e1))
  have HE : Hid (Ext w (wa3.setCell ⟨A, 4, none⟩ (.int .u64 e1))) := Lib.hid (Below.setCell HE.out (by have := HAW.out; simp; omega) _)
  generalize wa3.setCell ⟨A, 4, none⟩ (.int .u64 e1) = wa4 at *
  clear q0 q1 f1
  have q0 := H1.out.cell 0
  have q1 := H1.out.cell 1
  have q2 := H1.out.cell 2
  have q3 := H1.out.cell 3
  have q4 := H1.out.cell 4
  have m0 := mask26 a (by omega) (by omega)
  have m1 := mask26 b1 (by omega) (by omega)
  have m2 := mask26 c1 (by omega) (by omega)
  have m3 := mask26 d1 (by omega) (by omega)
  have m4 := mask26 e1 (by omega) (by omega)
  have m5 := mask26 l (by omega) (by omega)
  simp only [ints, List.map_cons, List.map_nil, List.getElem?_cons_zero, List.getElem?_cons_succ] at q0 q1 q2 q3 q4
  go_upto_region 6 with (fail)
  rw [W5.out]
  go_wp2_with (refine wpList_store_blk rfl _ _ _ rfl (A + 1) (ints .u64 [l % 67108864, b1 % 67108864 + l / 67108864, c1 % 67108864, d1 % 67108864, e1 % 67108864]) rfl rfl _ _ H2.out rfl (lim_size rfl) (ints_one _ _) ?_; intro w5 hb5 hg5)
  refine bodyPost_ret (result_blk rfl _ (A + 1) _ _ _ _ rfl hb5 Try.underlying84 (lim_size rfl)) rfl ?_
  exact ⟨rfl, ext_grown HE.out hg5 (by have := HAW.out; omega)⟩


end Go.Proofs.Ytjnnhkodkbhbbaa
