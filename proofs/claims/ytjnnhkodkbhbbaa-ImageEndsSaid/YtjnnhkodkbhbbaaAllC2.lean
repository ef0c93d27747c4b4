/- Texts that belong together, one behind the other; each says in its own first remark what it shows. -/
import Derived.Test.YtjnnhkodkbhbbaaRowMore
import Derived.Laws.Slices
import Derived.Test.YtjnnhkodkbhbbaaAllC1
import Derived.Test.YtjnnhkodkbhbbaaFormKit
import Derived.Test.YtjnnhkodkbhbbaaInfoKit
import Derived.Test.YtjnnhkodkbhbbaaProg
import Derived.Test.YtjnnhkodkbhbbaaRowKit
import Derived.Test.YtjnnhkodkbhbbaaMakeKit
import Derived.StillTailTactics
import Derived.LoopN
import Derived.Test.YtjnnhkodkbhbbaaChaMix
import Derived.Test.YtjnnhkodkbhbbaaDigKit
import Derived.Deep.CutRange
import Derived.Lib.AppendZeros
import Derived.Test.YtjnnhkodkbhbbaaPlyB
import Derived.Test.YtjnnhkodkbhbbaaPlyCar
import Derived.Test.YtjnnhkodkbhbbaaArrKit
import Derived.Test.YtjnnhkodkbhbbaaByteKit
import Derived.Laws.CopyOwn
import Derived.Deep.RegionWith
import Derived.ScopeJumps
import Derived.Control
import Derived.Test.YtjnnhkodkbhbbaaDetLoad
import Derived.Test.YtjnnhkodkbhbbaaPlyTim
import Derived.Deep.LoopGhost
import Derived.Test.YtjnnhkodkbhbbaaNumKit

/- s[n:] of whatever reads as a list, whatever its address. Nothing here speaks of a program. Each theorem names its own conditions. -/
namespace Go.Proofs.Ytjnnhkodkbhbbaa
open Go.RowKit
set_option linter.unusedVariables false

section
variable {P : Program} {w : World}
theorem row_cut {t e : TypeId} (ht : P.underlying t = some (.slice e)) (hs : ∀ w, (sizeOf e).run P w = .ok 1 w) {v : Value} {vs : List Value} (h : Row1 w v vs) (n : Nat) (hn : n ≤ vs.length) :
    ∃ v', Row1 w v' (vs.drop n) ∧ ∀ w', (Instr.sliceAt t v (some (.int .i64 (n : Int))) none none).run P w' = .ok v' w' := by
  obtain ⟨a, cap, rfl, h1, h2, h3, h4⟩ := h
  have e2 : P.elem t = e := by unfold Program.elem; rw [ht]
  have ht2 : P.underlying t = some (.slice (P.elem t)) := by rw [e2]; exact ht
  have hr : ∀ w', (Instr.sliceAt t (.slice a vs.length cap) (some (.int .i64 (n : Int))) none none).run P w' = .ok (sliced a n vs.length cap 1) w' := fun w' => by
    rw [run_sliceAt_slice w' t _ _ _ _ ht2, run_slice_l (ht := ht2) (kl := .i64) (l := (n : Int)) (h0 := by omega) (h1 := by omega), e2, hs]
    simp
  refine ⟨_, ?_, hr⟩
  have hl : (vs.drop n).length = vs.length - n := by simp
  unfold sliced
  by_cases hc : cap = n
  · rw [if_pos hc]
    have hv : vs.drop n = [] := List.drop_eq_nil_of_le (by omega)
    rw [hv]
    refine ⟨a, cap - n, by rw [show vs.length - n = 0 from by omega]; rfl, Nat.zero_le _, by omega, fun e => by have := h3 e; omega, fun h => absurd rfl h⟩
  · rw [if_neg hc]
    refine ⟨a.map (·.add (n * 1)), cap - n, by rw [hl], by rw [hl]; omega, by omega, fun e => ?_, fun hne => ?_⟩
    · cases a with
      | none => have := h3 rfl; omega
      | some a => cases e
    · have hne2 : vs ≠ [] := by rintro rfl; simp at hne
      obtain ⟨b, off, rfl, g1, g2⟩ := h4 hne2
      refine ⟨b, off + n, by rw [Option.map_some, WideShapes.add_plain, Nat.mul_one], g1, fun i hi => ?_⟩
      rw [hl] at hi
      rw [Nat.add_assoc, g2 (n + i) (by omega), List.getElem?_drop]
/-- A part of what reads as a list, by the address that slicing makes of it. -/
theorem row_sliced {a : Option Addr} {cap : Nat} {vs : List Value} (h : Row1 w (.slice a vs.length cap) vs) (i k : Nat) (hik : i ≤ k) (hk : k ≤ vs.length) : Row1 w (sliced a i k cap 1) ((vs.drop i).take (k - i)) := by
  obtain ⟨a0, cap0, e0, h1, h2, h3, h4⟩ := h
  cases e0
  have hl : ((vs.drop i).take (k - i)).length = k - i := by simp; omega
  unfold sliced
  by_cases hc : cap = i
  · rw [if_pos hc]
    have hv : (vs.drop i).take (k - i) = [] := List.eq_nil_of_length_eq_zero (by omega)
    rw [hv]
    refine ⟨a, cap - i, by rw [show k - i = 0 from by omega]; rfl, Nat.zero_le _, by omega, fun e => by have := h3 e; omega, fun h => absurd rfl h⟩
  · rw [if_neg hc]
    refine ⟨a.map (·.add (i * 1)), cap - i, by rw [hl], by rw [hl]; omega, by omega, fun e => ?_, fun hne => ?_⟩
    · cases a with
      | none => have := h3 rfl; omega
      | some a => cases e
    · have hne2 : vs ≠ [] := by rintro rfl; simp at hne
      obtain ⟨b, off, rfl, g1, g2⟩ := h4 hne2
      refine ⟨b, off + i, by rw [Option.map_some, WideShapes.add_plain, Nat.mul_one], g1, fun j hj => ?_⟩
      rw [hl] at hj
      rw [Nat.add_assoc, g2 (i + j) (by omega), List.getElem?_take, if_pos hj, List.getElem?_drop]
/-- s[:k]. -/
theorem row_upto {t e : TypeId} (ht : P.underlying t = some (.slice e)) (hs : ∀ w, (sizeOf e).run P w = .ok 1 w) {v : Value} {vs : List Value} (h : Row1 w v vs) (k : Nat) (hk : k ≤ vs.length) :
    ∃ v', Row1 w v' (vs.take k) ∧ ∀ w', (Instr.sliceAt t v none (some (.int .i64 (k : Int))) none).run P w' = .ok v' w' := by
  obtain ⟨a, cap, rfl, h1, _⟩ := id h
  have e2 : P.elem t = e := by unfold Program.elem; rw [ht]
  have ht2 : P.underlying t = some (.slice (P.elem t)) := by rw [e2]; exact ht
  refine ⟨sliced a 0 k cap 1, by simpa using row_sliced h 0 k (Nat.zero_le _) hk, fun w' => ?_⟩
  rw [run_sliceAt_slice w' t _ _ _ _ ht2, run_slice_h (ht := ht2) (kh := .i64) (h := (k : Int)) (h0 := by omega) (h2 := by omega), e2, hs]
  simp
/-- s[i:k]. -/
theorem row_mid {t e : TypeId} (ht : P.underlying t = some (.slice e)) (hs : ∀ w, (sizeOf e).run P w = .ok 1 w) {v : Value} {vs : List Value} (h : Row1 w v vs) (i k : Nat) (hik : i ≤ k) (hk : k ≤ vs.length) :
    ∃ v', Row1 w v' ((vs.drop i).take (k - i)) ∧ ∀ w', (Instr.sliceAt t v (some (.int .i64 (i : Int))) (some (.int .i64 (k : Int))) none).run P w' = .ok v' w' := by
  obtain ⟨a, cap, rfl, h1, _⟩ := id h
  have e2 : P.elem t = e := by unfold Program.elem; rw [ht]
  have ht2 : P.underlying t = some (.slice (P.elem t)) := by rw [e2]; exact ht
  refine ⟨sliced a i k cap 1, row_sliced h i k hik hk, fun w' => ?_⟩
  rw [run_sliceAt_slice w' t _ _ _ _ ht2, run_slice_lh (ht := ht2) (kl := .i64) (kh := .i64) (l := (i : Int)) (h := (k : Int)) (h0 := by omega) (h1 := by omega) (h2 := by omega), e2, hs]
  simp
/-- Rows of rows. -/
theorem rowB1 {v x : Value} {l : List UInt8} (h : Row1 w v [x]) (hx : Row1 w x (l.map bval)) : RowB w v [l] :=
  ⟨_, h, rfl, fun i y k hy hk => by
    match i with
    | 0 => simp at hy hk; subst hy; subst hk; exact hx
    | i + 1 => simp at hy⟩
theorem rowB2 {v x y : Value} {l m : List UInt8} (h : Row1 w v [x, y]) (hx : Row1 w x (l.map bval)) (hy : Row1 w y (m.map bval)) : RowB w v [l, m] :=
  ⟨_, h, rfl, fun i u k hu hk => by
    match i with
    | 0 => simp at hu hk; subst hu; subst hk; exact hx
    | 1 => simp at hu hk; subst hu; subst hk; exact hy
    | i + 2 => simp at hu⟩
theorem rowB3 {v x y z : Value} {l m n : List UInt8} (h : Row1 w v [x, y, z]) (hx : Row1 w x (l.map bval)) (hy : Row1 w y (m.map bval)) (hz : Row1 w z (n.map bval)) : RowB w v [l, m, n] :=
  ⟨_, h, rfl, fun i u k hu hk => by
    match i with
    | 0 => simp at hu hk; subst hu; subst hk; exact hx
    | 1 => simp at hu hk; subst hu; subst hk; exact hy
    | 2 => simp at hu hk; subst hu; subst hk; exact hz
    | i + 3 => simp at hu⟩
theorem rowB4 {v x y z u : Value} {l m n o : List UInt8} (h : Row1 w v [x, y, z, u]) (hx : Row1 w x (l.map bval)) (hy : Row1 w y (m.map bval)) (hz : Row1 w z (n.map bval)) (hu : Row1 w u (o.map bval)) : RowB w v [l, m, n, o] :=
  ⟨_, h, rfl, fun i q k hq hk => by
    match i with
    | 0 => simp at hq hk; subst hq; subst hk; exact hx
    | 1 => simp at hq hk; subst hq; subst hk; exact hy
    | 2 => simp at hq hk; subst hq; subst hk; exact hz
    | 3 => simp at hq hk; subst hq; subst hk; exact hu
    | i + 4 => simp at hq⟩
/-- A new block of cells that bears a mark, as a row. -/
theorem Row1.made_mark (w : World) (c : Array Value) (e : TypeId) (fr : Nat × Nat) (n m : Nat) (l : List Value) (hn : w.heap.size = n) (hc : c.toList = l) (hl : l.length = m) (hm : m ≤ maxLen) : Row1 (w.alloc (.cells c e fr)) (.slice (some ⟨n, 0, none⟩) m m) l := by
  subst hn; subst hl; subst hc
  refine ⟨_, _, rfl, Nat.le_refl _, hm, (fun e => by cases e), fun _ => ⟨w.heap.size, 0, rfl, by simp, fun i hi => ?_⟩⟩
  rw [Nat.zero_add, World.cell?_alloc_mark]
  simp
/-- A whole array, as a row. -/
theorem blk_row {c n : Nat} {cs : List Value} {t : TypeId} (h : Blk w c cs t) (hn : cs.length = n) (hm : n ≤ maxLen) : Row1 w (.slice (some ⟨c, 0, none⟩) n n) cs := by
  subst hn
  exact ⟨_, _, rfl, Nat.le_refl _, hm, (fun e => by cases e), fun _ => ⟨c, 0, rfl, h.lt, fun i _ => by rw [Nat.zero_add, h.cell]⟩⟩
/-- a[:] of an array that is a variable. -/
theorem cut_whole {t : TypeId} {n : Nat} {e : TypeId} (ht : P.underlying t = some (.array n e)) (h : ∀ w, (sizeOf e).run P w = .ok 1 w) (hn : 0 < n) (A : Nat) (w : World) :
    (Instr.sliceAt t (.pointer (some ⟨A, 0, none⟩)) none none none).run P w = .ok (.slice (some ⟨A, 0, none⟩) n n) w := by
  have e1 : P.arrayLen t = n := by unfold Program.arrayLen; rw [ht]
  have e2 : P.elem t = e := by unfold Program.elem; rw [ht]
  rw [run_sliceAt_array_all w t ⟨A, 0, none⟩ (by rw [e1, e2]; exact ht), e2, h, e1]
  simp [slicedAt, Addr.add, show ¬ n = 0 by omega]
end

end Go.Proofs.Ytjnnhkodkbhbbaa

/- What the walks of RefAea3 need and no function of the document. Each theorem names its own conditions. -/
namespace Go.Proofs.Ytjnnhkodkbhbbaa
open Go.RowKit
set_option linter.unusedVariables false
set_option linter.unusedSimpArgs false

theorem res_two {fn : Func} {i j : Nat} (hf : fn.results = #[.tmp i, .tmp j]) (tmps : Array Value) (w : World) :
    (results fn tmps).run Try.prog w = .ok (.tuple #[tmps.getD i undef, tmps.getD j undef]) w := by
  unfold results
  rw [hf]
  simp

end Go.Proofs.Ytjnnhkodkbhbbaa

/- The walks of the document's own Seal and Open of chapter 11. Laid by wip/gen/gaea3.py. Each theorem names its own conditions. -/
namespace Go.Proofs.Ytjnnhkodkbhbbaa
open Go.RowKit
set_option linter.unusedVariables false
set_option linter.unusedSimpArgs false

set_option maxRecDepth 100000 in
set_option maxHeartbeats 8000000 in
theorem rSeal_any (kb nb p s : List UInt8) (pv sv : Value) (w : World) (hk : kb.length = 32) (hn : nb.length = 12) (hp : Row1 w pv (p.map bval)) (hs : Row1 w sv (s.map bval)) (hpl : p.length ≤ 1000000000) (hsl : s.length ≤ 1000000000) :
    Calls Try.prog 28 #[.agg (kb.map bval).toArray, .agg (nb.map bval).toArray, pv, sv] w fun e w' => ∃ x, e = .returned x ∧ w'.ownsRow w.heap.size 5 1 x (p.length + 16) ((sealB kb nb p s).map bval) ∧ Below w.heap.size w w' := by
  obtain ⟨i0, hi, hz0, hz1, hz2⟩ := info_parts Try.info5
  have HI0 := Lib.hid hi
  have HZ0 := Lib.hid hz0
  have HZ1 := Lib.hid hz1
  have HZ2 := Lib.hid hz2
  have HP0 := Lib.hid hp
  have HS0 := Lib.hid hs
  have HPL := Lib.hid hpl
  have HSL := Lib.hid hsl
  have HB := Lib.hid (boxes2 w (kb.map bval) (nb.map bval) 34 44)
  have HIK : Hid ((Try.prog.info? 34).map (·.size) = some (kb.map bval).length) := Lib.hid (num_size hk)
  have HIN : Hid ((Try.prog.info? 44).map (·.size) = some (nb.map bval).length) := Lib.hid (nonce_size hn)
  have HKL := Lib.hid hk
  have HNL := Lib.hid hn
  clear hi hz0 hz1 hz2 hp hs hk hn hpl hsl
  go_enter Try.func28, Try.ntmps28
  go_upto_region 1 with (fail)
  obtain ⟨H1, H2, HE⟩ := HB.out
  change Code.wp _ _ _ _ ((w.alloc (.cells (kb.map bval).toArray 34)).alloc (.cells (nb.map bval).toArray 44))
  generalize (w.alloc (.cells (kb.map bval).toArray 34)).alloc (.cells (nb.map bval).toArray 44) = wa at *
  obtain ⟨A, hA⟩ : ∃ A, A = w.heap.size := ⟨_, rfl⟩
  have HAW : Hid (w.heap.size ≤ A) := Lib.hid (by omega)
  rw [← hA] at H1 H2 ⊢
  have H1 := Lib.hid H1
  have H2 := Lib.hid H2
  have HE : Hid (Ext w wa) := Lib.hid HE
  clear hA HB
  go_wp2_with (first | (refine wpList_load_blk rfl _ _ rfl A rfl _ _ _ _ H1.out Try.underlying34 HIK.out ?_) | (refine wpList_load_blk rfl _ _ rfl (A + 1) rfl _ _ _ _ H2.out Try.underlying44 HIN.out ?_))
  refine (rTurn_any kb nb p _ 1 wa HKL.out HNL.out (HP0.out.below HE.out) (by have := HPL.out; omega) (by decide) (by decide)).mono ?_
  rintro e w1 ⟨x1, rfl, ho1, hb1⟩
  have HO1 : Hid (w1.ownsRow w.heap.size 5 1 x1 p.length ((chaTurn kb 1 nb p).map bval)) := Lib.hid (own_mono ho1 HE.out.size)
  have H1 := Lib.hid (ext_blk H1.out hb1)
  have H2 := Lib.hid (ext_blk H2.out hb1)
  have HE := Lib.hid (HE.out.trans hb1)
  clear ho1 hb1
  have HCL := Lib.hid (chaTurn_length kb 1 nb p)
  have HSB : Hid (sealB kb nb p s = chaTurn kb 1 nb p ++ aeaTag kb nb (chaTurn kb 1 nb p) s) := Lib.hid rfl
  generalize chaTurn kb 1 nb p = c at *
  go_wp2_with (first | (refine wpList_load_blk rfl _ _ rfl A rfl _ _ _ _ H1.out Try.underlying34 HIK.out ?_) | (refine wpList_load_blk rfl _ _ rfl (A + 1) rfl _ _ _ _ H2.out Try.underlying44 HIN.out ?_))
  refine (rTag_any kb nb c s _ _ w1 HKL.out HNL.out (Row1.of_own HO1.out) (HS0.out.below HE.out) (by rw [HCL.out]; exact HPL.out) HSL.out).mono ?_
  rintro e w2 ⟨rfl, hb⟩
  have HE := Lib.hid (HE.out.trans hb)
  have HO2 := Lib.hid (own_below HO1.out hb)
  clear hb HO1 H1 H2
  have HTL := Lib.hid (aeaTag_length kb nb c s)
  generalize aeaTag kb nb c s = tg at *
  have HZ := Lib.hid (Blk.made w2 (ints .u8 (List.replicate 16 0)) 58)
  have HEA := Lib.hid (Ext.alloc w2 (.cells (ints .u8 (List.replicate 16 0)).toArray 58))
  have HIT : Hid ((Try.prog.info? 58).map (·.size) = some (tg.map bval).length) := Lib.hid (tag_size HTL.out)
  have HLo : Hid ((tg.map bval).length = (ints .u8 (List.replicate 16 0)).length) := Lib.hid (by rw [List.length_map, HTL.out, ints_length, List.length_replicate])
  go_upto_region 3 with (refine wpList_store_blk rfl _ _ _ rfl w2.heap.size (tg.map bval) rfl rfl _ _ HZ.out HLo.out HIT.out (bval_one _) ?_; intro w3 hb3 hg3)
  have HE4 := Lib.hid (ext_grown HEA.out hg3 (Nat.le_refl _))
  have HO3 := Lib.hid (own_below HO2.out HE4.out)
  have HE := Lib.hid (HE.out.trans HE4.out)
  obtain ⟨T, hT⟩ : ∃ T, T = w2.heap.size := ⟨_, rfl⟩
  rw [← hT] at hb3 ⊢
  have HTR := Lib.hid (blk_row (n := 16) hb3 (by rw [List.length_map, HTL.out]) (by unfold maxLen; omega))
  clear hb3 hg3 HZ HEA HE4 HLo hT HO2
  have HF : Hid (p.length + (tg.map bval).length ≤ 1000000100) := Lib.hid (by rw [List.length_map, HTL.out]; have := HPL.out; omega)
  go_wp2_with (at_builtin; refine wpList_append_row rfl _ _ 22 rfl w.heap.size 5 i0 (.int .u8 0) 1 Try.underlying22 HI0.out HZ0.out HZ1.out HZ2.out rfl _ _ _ rfl HO3.out rfl HTR.out (bval_one _) (by have := HF.out; unfold maxLen; omega) (by have := HF.out; omega) HE.out.size ?_; intro v4 w4 hown4 hgrow4)
  have HE4 := Lib.hid (ext_own HE.out HO3.out (Nat.le_refl _) hgrow4)
  have HO4 : Hid (w4.ownsRow w.heap.size 5 1 v4 (p.length + 16) ((sealB kb nb p s).map bval)) := Lib.hid (own_eq hown4 (by rw [List.length_map, HTL.out]) (by rw [HSB.out, List.map_append]))
  clear hown4 hgrow4
  go_ret
  exact ⟨_, rfl, HO4.out, HE4.out⟩
end Go.Proofs.Ytjnnhkodkbhbbaa

/- The walks of the document's own encodings: numbers and byte strings, put and read. Each theorem names its own conditions. -/
namespace Go.Proofs.Ytjnnhkodkbhbbaa
open Go.RowKit
set_option linter.unusedVariables false


theorem i64_and255 (n : Int) : bits .and .i64 n 255 = n % 256 := by
  have h255 : (BitVec.ofInt 64 255).toNat = 2 ^ 8 - 1 := by decide
  have key : (BitVec.ofInt 64 n &&& BitVec.ofInt 64 255).toNat = (n % ((2 ^ 64 : Nat) : Int)).toNat % 2 ^ 8 := by
    rw [BitVec.toNat_and, BitVec.toNat_ofInt, h255, Nat.and_two_pow_sub_one_eq_mod]
  show IntKind.i64.wrap ((BitVec.ofInt 64 n &&& BitVec.ofInt 64 255).toNat : Nat) = n % 256
  rw [key, IntKind.wrap_i64]
  omega

/-- The eight cells, as the loop leaves them. -/
theorem cells8 (x : Int) : [Value.int .u8 (bits .and .i64 (x / 256 / 256 / 256 / 256 / 256 / 256 / 256) 255 % 256), .int .u8 (bits .and .i64 (x / 256 / 256 / 256 / 256 / 256 / 256) 255 % 256),
    .int .u8 (bits .and .i64 (x / 256 / 256 / 256 / 256 / 256) 255 % 256), .int .u8 (bits .and .i64 (x / 256 / 256 / 256 / 256) 255 % 256), .int .u8 (bits .and .i64 (x / 256 / 256 / 256) 255 % 256),
    .int .u8 (bits .and .i64 (x / 256 / 256) 255 % 256), .int .u8 (bits .and .i64 (x / 256) 255 % 256), .int .u8 (bits .and .i64 x 255 % 256)] = (pck_be8 x).map bval := by
  unfold pck_be8
  simp only [List.map_cons, List.map_nil, byte_cell, i64_and255, Int.emod_emod]
  have e : ∀ k : Nat, x / 256 ^ k / 256 = x / 256 ^ (k + 1) := by
    intro k
    rw [Int.ediv_ediv_of_nonneg (Int.pow_nonneg (by omega)), Int.pow_succ]
  have e0 : x / 256 ^ 0 = x := by simp
  have e1 : x / 256 = x / 256 ^ 1 := by simp
  rw [e1]
  simp only [e, e0]

set_option maxHeartbeats 1000000 in
theorem rint_loop (bv : Value) (bl : List UInt8) (b off cap n : Nat) (ns : List Int) (w : World) (hb : Row1 w bv (bl.map bval)) (hn : ns.length = n) (hn0 : 0 < n) (hcap : n ≤ cap) (hm : cap ≤ maxLen) (hbw : b < w.heap.size)
    (hx : ∀ i, i < ns.length → w.cell? ⟨b, off + i, none⟩ = some (.int .i64 (ns.getD i 0))) (hsz : bl.length + 8 * n ≤ 1099511627776) :
    Calls Try.prog 29 #[bv, .slice (some ⟨b, off, none⟩) n cap] w fun e w' => ∃ v, e = .returned v ∧ w'.ownsRow w.heap.size 5 1 v (bl.length + 8 * n) ((bl ++ be8s ns).map bval) ∧ Below w.heap.size w w' := by
  unfold maxLen at hm
  obtain ⟨i0, hi, hz0, hz1, hz2⟩ := info_parts Try.info5
  have HX := Lib.hid hx
  have HN := Lib.hid hn
  have HB := Lib.hid hb
  have hbl : Hid ((bl.map bval).length = bl.length) := Lib.hid (by simp)
  clear hx hn hb
  go_enter Try.func29, Try.ntmps29
  go_wp2_with (at_builtin; refine wpList_append_row rfl _ _ 22 rfl w.heap.size 5 i0 (.int .u8 0) 1 Try.underlying22 hi hz0 hz1 hz2 rfl _ 0 [] rfl (World.ownsRow_nil _ _ _ _) rfl HB.out (bval_one _) (by rw [hbl.out]; unfold maxLen; omega) (by rw [hbl.out]; omega) (Nat.le_refl _) ?_; intro v1 w1 hown1 hgrow1)
  have hown0 : w1.ownsRow w.heap.size 5 1 v1 (bl.length + 8 * 0) ((bl ++ be8s (ns.take 0)).map bval) := by
    have e : 0 + (bl.map bval).length = bl.length + 8 * 0 := by simp
    rw [e, List.nil_append] at hown1
    simpa [be8s] using hown1
  have hbel0 : Below w.heap.size w w1 := (Below.refl _ _).grown hgrow1 (Nat.le_refl _) (fun r hr => by cases hr)
  clear hown1 hgrow1
  have HO0 := Lib.hid hown0
  have HB0 := Lib.hid hbel0
  clear hown0 hbel0
  go_loopw [5, 6] (fun v i wr => ∃ k : Nat, k ≤ n ∧ i = .int .i64 k ∧ wr.ownsRow w.heap.size 5 1 v (bl.length + 8 * k) ((bl ++ be8s (ns.take k)).map bval) ∧ Below w.heap.size w wr) (fun _ i _ => n - (intOf i).toNat)
  case atStart => exact ⟨0, Nat.zero_le _, rfl, HO0.out, HB0.out⟩
  case round =>
    obtain ⟨k, hk, rfl, hown, hbel⟩ := hrel
    by_cases hlt : k < n
    · have hn := HN.out
      have c1 := hbel.cell (p := ⟨b, off + k, none⟩) hbw
      rw [HX.out k (by omega)] at c1
      have hsz2 := hbel.size
      generalize hx : ns.getD k 0 = x at *
      have HXK := Lib.hid hx
      have HO := Lib.hid hown
      have HBE := Lib.hid hbel
      clear hn hx hown hbel
      go_wp2_with fail
      refine wp_loop_rounds 9 ?_
      iterate 8 (rw [rounds_succ]; go_wp2_with fail)
      rw [rounds_succ]
      go_wp2_with (at_builtin; refine wpList_append_row rfl _ _ 22 rfl w.heap.size 5 i0 (.int .u8 0) 1 Try.underlying22 hi hz0 hz1 hz2 rfl _ (bl.length + 8 * k) _ rfl (HO.out.alloc _) rfl (Row1.made wr _ _ _ _ _ rfl (cells8 x) rfl (by unfold maxLen; omega)) (bval_one _) ?c1 ?c2 ?c3 ?_)
      case c1 => show bl.length + 8 * k + 8 ≤ _; unfold maxLen; omega
      case c2 => show (bl.length + 8 * k + 8) * 1 ≤ _; omega
      case c3 => simp; omega
      intro v2 w2 hown2 hgrow2
      have hn := HN.out
      have hown3 : w2.ownsRow w.heap.size 5 1 v2 (bl.length + 8 * (k + 1)) ((bl ++ be8s (ns.take (k + 1))).map bval) := by
        rw [List.take_succ_eq_append_getElem (by omega), be8s_snoc]
        have e : ns[k]'(by omega) = x := by rw [← HXK.out]; simp [List.getD, show k < ns.length from by omega]
        rw [e, List.map_append, List.map_append]
        have e2 : bl.length + 8 * k + (pck_be8 x).length = bl.length + 8 * (k + 1) := by rw [be8_length]; omega
        rw [e2] at hown2
        exact hown2
      have hbel3 : Below w.heap.size w w2 := (HBE.out.alloc hsz2 _).grown hgrow2 (by simp; omega) (fun r hr => (HO.out.lt r hr).1)
      clear hown2 hgrow2 hn
      go_wp2_with fail
      go_roundw
      case rel => exact ⟨k + 1, by omega, by go_num, hown3, hbel3⟩
      case measure => simp [intOf]; omega
    · have hk' : k = n := by omega
      subst hk'
      have hn := HN.out
      rw [List.take_of_length_le (by omega)] at hown
      have HO := Lib.hid hown
      have HBE := Lib.hid hbel
      clear hown hbel hn
      go_wp2_with fail
      go_ret
      exact ⟨_, rfl, HO.out, HBE.out⟩

set_option maxHeartbeats 400000 in
theorem rint_none (bv : Value) (bl : List UInt8) (a : Option Addr) (cap : Nat) (w : World) (hb : Row1 w bv (bl.map bval)) (hsz : bl.length ≤ 1099511627776) (hm : cap ≤ maxLen) :
    Calls Try.prog 29 #[bv, .slice a 0 cap] w fun e w' => ∃ v, e = .returned v ∧ w'.ownsRow w.heap.size 5 1 v bl.length (bl.map bval) ∧ Below w.heap.size w w' := by
  unfold maxLen at hm
  obtain ⟨i0, hi, hz0, hz1, hz2⟩ := info_parts Try.info5
  have HB := Lib.hid hb
  have hbl : Hid ((bl.map bval).length = bl.length) := Lib.hid (by simp)
  clear hb
  go_enter Try.func29, Try.ntmps29
  go_wp2_with (at_builtin; refine wpList_append_row rfl _ _ 22 rfl w.heap.size 5 i0 (.int .u8 0) 1 Try.underlying22 hi hz0 hz1 hz2 rfl _ 0 [] rfl (World.ownsRow_nil _ _ _ _) rfl HB.out (bval_one _) (by rw [hbl.out]; unfold maxLen; omega) (by rw [hbl.out]; omega) (Nat.le_refl _) ?_; intro v1 w1 hown1 hgrow1)
  have hown0 : w1.ownsRow w.heap.size 5 1 v1 bl.length (bl.map bval) := by
    have e : 0 + (bl.map bval).length = bl.length := by simp
    rw [e, List.nil_append] at hown1
    exact hown1
  have hbel0 : Below w.heap.size w w1 := (Below.refl _ _).grown hgrow1 (Nat.le_refl _) (fun r hr => by cases hr)
  clear hown1 hgrow1
  have HO0 := Lib.hid hown0
  have HB0 := Lib.hid hbel0
  clear hown0 hbel0
  refine wp_loop_rounds 1 ?_
  rw [rounds_succ]
  go_wp2_with fail
  go_ret
  exact ⟨_, rfl, HO0.out, HB0.out⟩

theorem row_nums {w : World} {b off : Nat} {zs : List Int} (h : ∀ i, i < (zs.map (Value.int .i64)).length → w.cell? ⟨b, off + i, none⟩ = (zs.map (Value.int .i64))[i]?) :
    ∀ i, i < zs.length → w.cell? ⟨b, off + i, none⟩ = some (.int .i64 (zs.getD i 0)) := by
  intro i hi
  rw [h i (by simpa using hi)]
  simp [List.getD, hi]

/-- The document's own Int: the bytes and the numbers' bytes behind them, in a row of the call's own. -/
theorem rint_any {bv lv : Value} {bl : List UInt8} {ns : List Int} (w : World) (hb : Row1 w bv (bl.map bval)) (hl : Row1 w lv (ns.map (.int .i64))) (hsz : bl.length + 8 * ns.length ≤ 1099511627776) :
    Calls Try.prog 29 #[bv, lv] w fun e w' => ∃ v, e = .returned v ∧ w'.ownsRow w.heap.size 5 1 v (bl.length + 8 * ns.length) ((bl ++ be8s ns).map bval) ∧ Below w.heap.size w w' := by
  obtain ⟨a, cap, rfl, h1, h2, h3, h4⟩ := hl
  rw [List.length_map] at h1 ⊢
  by_cases h0 : ns = []
  · subst h0
    have := rint_none bv bl a cap w hb (by omega) h2
    simpa [be8s] using this
  · obtain ⟨b, off, rfl, hbw, hc⟩ := h4 (by simpa using h0)
    exact rint_loop bv bl b off cap ns.length ns w hb rfl (List.length_pos_iff.2 h0) h1 h2 hbw (row_nums hc) hsz

end Go.Proofs.Ytjnnhkodkbhbbaa

/- The walk of the document's own encoding of one number. Each theorem names its own conditions. -/
namespace Go.Proofs.Ytjnnhkodkbhbbaa
open Go.RowKit
set_option linter.unusedVariables false

set_option maxHeartbeats 400000 in
/-- The document's own One: a number's bytes. -/
theorem rone_any (n : Int) (w : World) :
    Calls Try.prog 19 #[.int .i64 n] w fun e w' => ∃ v, e = .returned v ∧ w'.ownsRow w.heap.size 5 1 v 8 ((pck_be8 n).map bval) ∧ Below w.heap.size w w' := by
  have h := Lib.hid (rint_any (w.alloc (.cells #[.int .i64 n] 3)) (bl := []) (ns := [n]) (Row1.nil _) (Row1.made w #[.int .i64 n] 3 _ 1 [.int .i64 n] rfl rfl rfl (by unfold maxLen; omega) : Row1 _ _ ([n].map (.int .i64))) (by simp))
  go_enter Try.func19, Try.ntmps19
  go_wp2_with fail
  refine (h.out).mono ?_
  rintro e w' ⟨v, rfl, hown, hbel⟩
  have hown2 : w'.ownsRow w.heap.size 5 1 v 8 ((pck_be8 n).map bval) := by
    have : (([] : List UInt8) ++ be8s [n]) = pck_be8 n := by simp [be8s]
    rw [this] at hown
    obtain ⟨g1, g2⟩ := hown
    refine ⟨g1, ?_⟩
    rcases g2 with ⟨g3, g4⟩ | ⟨g, cap, cur, r1, r2, r3⟩
    · exact Or.inl ⟨g3, g4⟩
    · exact Or.inr ⟨g, cap, cur, r1, by simp at r2; omega, r3⟩
  have hbel2 : Below w.heap.size w w' := ((Below.refl w.heap.size w).alloc (Nat.le_refl _) _).trans (hbel.mono (by simp))
  clear hown hbel
  have HO := Lib.hid hown2
  have HB := Lib.hid hbel2
  clear hown2 hbel2
  go_wp2_with fail
  go_ret
  exact ⟨_, rfl, HO.out, HB.out⟩

end Go.Proofs.Ytjnnhkodkbhbbaa

/- The document's own nonce and SealBlock. Each theorem names its own conditions. -/
namespace Go.Proofs.Ytjnnhkodkbhbbaa
open Go.RowKit
set_option linter.unusedVariables false
set_option linter.unusedSimpArgs false

def z12 : List UInt8 := List.replicate 12 0
theorem z12_length : z12.length = 12 := by simp [z12]
theorem lay_non (i : Int) : splice (z12.map bval) 4 ((pck_be8 i).map bval) = (([0, 0, 0, 0] ++ pck_be8 i : List UInt8)).map bval := by
  have h := splice_mid (pre := ([0, 0, 0, 0] : List UInt8).map bval) (mid := (List.replicate 8 (0 : UInt8)).map bval) (post := []) (new := (pck_be8 i).map bval) (by rw [List.length_map, List.length_map, be8_length]; rfl)
  rw [List.map_append]
  simpa [z12] using h
set_option maxRecDepth 100000 in
set_option maxHeartbeats 8000000 in
theorem rnonce_any (i : Int) (w : World) : Calls Try.prog 26 #[.int .i64 i] w fun e w' => e = .returned (.agg ((([0, 0, 0, 0] ++ pck_be8 i : List UInt8)).map bval).toArray) ∧ Below w.heap.size w w' := by
  have HB := Lib.hid (boxes2 w (z12.map bval) (z12.map bval) 44 44)
  go_enter Try.func26, Try.ntmps26
  go_upto_region 2 with (fail)
  obtain ⟨h1, h2, hE⟩ := HB.out
  change Code.wp _ _ _ _ ((w.alloc (.cells (z12.map bval).toArray 44)).alloc (.cells (z12.map bval).toArray 44))
  generalize (w.alloc (.cells (z12.map bval).toArray 44)).alloc (.cells (z12.map bval).toArray 44) = wa at *
  obtain ⟨N, hN⟩ : ∃ N, N = w.heap.size + 1 := ⟨_, rfl⟩
  rw [← hN] at h2 ⊢
  obtain ⟨R, hR⟩ : ∃ R, R = w.heap.size := ⟨_, rfl⟩
  rw [← hR] at h1 ⊢
  have HO : Hid (R < N ∧ w.heap.size = R) := Lib.hid (by omega)
  have HE : Hid (Ext w wa) := Lib.hid hE
  have H1 := Lib.hid h1
  have H2 := Lib.hid h2
  clear hN hR HB h1 h2 hE
  refine wp_region_held_drew (S := fun _ => True) (by kernel_rfl) trivial (fun hHeld => ?_)
  refine wpAnyH_take (i := 0) (v := .slice (some ⟨N, 4, none⟩) 8 8) rfl (by kernel_rfl) (by kernel_rfl) (by kernel_rfl) (fun _ _ _ h => h) (yi_val (.slice (some ⟨N, 4, none⟩) 8 8) (by rfl) (fun w _ => by go_simp)) hHeld ?_
  simp only [Act.put, List.getElem_toArray, List.getElem_cons_zero, List.getElem_cons_succ, List.setIfInBounds_toArray, List.set_cons_zero, List.set_cons_succ]
  refine wpAnyH_take (i := 1) (v := .int .i64 i) rfl (by kernel_rfl) (by kernel_rfl) (by kernel_rfl) (fun _ _ _ h => h) (yi_move _ (.int .i64 i) (by rfl) rfl rfl) hHeld ?_
  simp only [Act.put, List.getElem_toArray, List.getElem_cons_zero, List.getElem_cons_succ, List.setIfInBounds_toArray, List.set_cons_zero, List.set_cons_succ]
  refine wpAnyH_ready (rs := [2]) (by kernel_rfl) (by simp) (AllReadyH.cons rfl (fun K0 hK0 => ?_) AllReadyH.nil)
  go_simp
  refine (rone_any i wa.drew).mono ?_
  rintro e wb ⟨rv, rfl, ho, hb⟩
  have hr := Row1.of_own ho
  obtain ⟨ar, cr, hrv, _⟩ := id hr
  rw [List.length_map, be8_length] at hrv
  subst hrv
  have HRR := Lib.hid hr
  have HX := Lib.hid ((Ext.drew wa).trans hb)
  have H1 := Lib.hid (ext_blk H1.out HX.out)
  have H2 := Lib.hid (ext_blk H2.out HX.out)
  have HE := Lib.hid (HE.out.trans HX.out)
  clear hr ho hb HX
  refine hK0.out _ _ trivial (fun hHeld => ?_)
  clear hK0 K0
  try simp only [Act.put, List.getElem_toArray, List.getElem_cons_zero, List.getElem_cons_succ, List.setIfInBounds_toArray, List.set_cons_zero, List.set_cons_succ]
  refine wpAnyH_ready (rs := [3]) (by kernel_rfl) (by simp) (AllReadyH.cons rfl (fun K0 hK0 => ?_) AllReadyH.nil)
  refine step_wp (by rfl) ?_
  refine wp_copy_blk _ _ 22 22 rfl 5 Try.underlying22 one_u8m _ _ _ _ _ _ rfl rfl N 4 _ _ H2.out ((pck_be8 i).map bval) (by rw [List.length_map, be8_length]; rfl) (fun h => ⟨rfl, row_src HRR.out (pck_be8 i) (by rw [List.take_length]) (Nat.le_refl _) (Ext.refl _) h⟩) (by rw [List.length_map, List.length_map, be8_length, z12_length]; omega) (bval_one _) ?_
  intro wc hb6 hg6
  rw [lay_non] at hb6
  have H2 := Lib.hid hb6
  have H1 := Lib.hid (H1.out.grown hg6 (by have := HO.out; simp; omega))
  have HE := Lib.hid (ext_grown HE.out hg6 (by have := HO.out; omega))
  clear hb6 hg6 HRR
  refine hK0.out _ _ trivial (fun hHeld => ?_)
  clear hK0 K0 hHeld
  try simp only [Act.put, List.getElem_toArray, List.getElem_cons_zero, List.getElem_cons_succ, List.setIfInBounds_toArray, List.set_cons_zero, List.set_cons_succ]
  refine wpAnyH_done (by kernel_rfl) ?_ _
  have HLN : Hid (([0, 0, 0, 0] ++ pck_be8 i : List UInt8).length = 12) := Lib.hid rfl
  have HIN := Lib.hid (nonce_size HLN.out)
  go_wp2_with (first | (refine wpList_load_blk rfl _ _ rfl N rfl _ _ _ _ H2.out Try.underlying44 HIN.out ?_) | (refine wpList_store_blk rfl _ _ _ rfl R ((([0, 0, 0, 0] ++ pck_be8 i : List UInt8)).map bval) rfl rfl _ _ H1.out (by rw [List.length_map, List.length_map, HLN.out, z12_length]) HIN.out (bval_one _) ?_; intro w9 hb9 hg9))
  refine bodyPost_ret (result_blk rfl _ R _ _ _ _ rfl hb9 Try.underlying44 HIN.out) rfl ?_
  exact ⟨rfl, ext_grown HE.out hg9 (by have := HO.out; omega)⟩
set_option maxRecDepth 100000 in
set_option maxHeartbeats 8000000 in
theorem rSealBlock_any (key : List UInt8) (ver : Int) (i : Nat) (p : List UInt8) (pv : Value) (w : World) (hk : key.length = 32) (hv : smallB ver = true) (hi : i ≤ 31) (hp : Row1 w pv (p.map bval)) (hl : p.length = 64) :
    Calls Try.prog 18 #[.agg (key.map bval).toArray, .int .i64 ver, .int .i64 (i : Int), pv] w fun e w' => ∃ x, e = .returned (.tuple #[x, .int .i64 0]) ∧ w'.ownsRow w.heap.size 5 1 x 80 ((blkS key ver i p).map bval) ∧ Below w.heap.size w w' := by
  obtain ⟨a, cap, hpv, _⟩ := id hp
  rw [List.length_map] at hpv
  obtain ⟨pn, hpn⟩ : ∃ n, n = p.length := ⟨_, rfl⟩
  rw [← hpn] at hpv
  subst hpv
  have HKL := Lib.hid hk
  have HPL := Lib.hid hl
  have HIK := Lib.hid (num_size hk)
  have HP0 := Lib.hid hp
  have HB := Lib.hid (And.intro (Blk.made w (key.map bval) 34) (Ext.alloc w (.cells (key.map bval).toArray 34)))
  go_enter Try.func18, Try.ntmps18
  go_upto_region 1 with (fail)
  obtain ⟨h0, hE⟩ := HB.out
  change Code.wp _ _ _ _ (w.alloc (.cells (key.map bval).toArray 34))
  generalize w.alloc (.cells (key.map bval).toArray 34) = wa at *
  obtain ⟨A, hA⟩ : ∃ X, X = w.heap.size := ⟨_, rfl⟩
  rw [← hA] at h0 ⊢
  have HA0 := Lib.hid h0
  have HE : Hid (Ext w wa) := Lib.hid hE
  have HO : Hid (w.heap.size = A) := Lib.hid (by omega)
  clear HB hE h0 hA
  have HP := Lib.hid (HP0.out.below HE.out)
  have hpn2 : pn = 64 := by omega
  subst hpn2
  have hi0 : decide ((i : Int) < 0) = false := decide_eq_false (by omega)
  have hi1 : decide ((31 : Int) < (i : Int)) = false := decide_eq_false (by omega)
  clear hpn hk hp hl HP0
  go_wp2_with fail
  refine (rsmall_q ver true wa hv).mono ?_
  rintro e w3 ⟨rfl, rfl⟩
  clear hv
  go_upto_region 3 with (fail)
  clear hi0 hi1
  generalize hpv : Value.slice a 64 cap = pv at *
  have B0 : Ext wa wa.drew := Ext.drew _
  refine wp_region_held_drew (S := fun w' => Ext wa w') (by kernel_rfl) B0 (fun hHeld => ?_)
  refine wpAnyH_take (i := 0) (v := .agg ((key).map bval).toArray) rfl (by kernel_rfl) (by kernel_rfl) (by kernel_rfl) (fun _ _ _ h => h) (yieldsIf_load_mid (by rfl) _ _ rfl A 0 rfl _ _ (fun w h => bl_range HA0.out h) Try.underlying34 rfl HIK.out) hHeld ?_
  simp only [Act.put, List.getElem_toArray, List.getElem_cons_zero, List.getElem_cons_succ, List.setIfInBounds_toArray, List.set_cons_zero, List.set_cons_succ]
  refine wpAnyH_take (i := 1) (v := .int .i64 (i : Int)) rfl (by kernel_rfl) (by kernel_rfl) (by kernel_rfl) (fun _ _ _ h => h) (yi_move _ (.int .i64 (i : Int)) (by rfl) rfl rfl) hHeld ?_
  simp only [Act.put, List.getElem_toArray, List.getElem_cons_zero, List.getElem_cons_succ, List.setIfInBounds_toArray, List.set_cons_zero, List.set_cons_succ]
  refine wpAnyH_take (i := 3) (v := pv) rfl (by kernel_rfl) (by kernel_rfl) (by kernel_rfl) (fun _ _ _ h => h) (yi_move _ (pv) (by rfl) rfl rfl) hHeld ?_
  simp only [Act.put, List.getElem_toArray, List.getElem_cons_zero, List.getElem_cons_succ, List.setIfInBounds_toArray, List.set_cons_zero, List.set_cons_succ]
  refine wpAnyH_take (i := 4) (v := .int .i64 ver) rfl (by kernel_rfl) (by kernel_rfl) (by kernel_rfl) (fun _ _ _ h => h) (yi_move _ (.int .i64 ver) (by rfl) rfl rfl) hHeld ?_
  simp only [Act.put, List.getElem_toArray, List.getElem_cons_zero, List.getElem_cons_succ, List.setIfInBounds_toArray, List.set_cons_zero, List.set_cons_succ]
  refine wpAnyH_rel (B := wa) [(2, some 28, .is (.agg ((nonB i).map bval).toArray)), (5, some 31, .row ((pck_be8 ver).map bval)), (6, some 32, .own wa.heap.size 5 80 ((blkS key ver i p).map bval) 7), (7, some 8, .own wa.heap.size 5 80 ((blkS key ver i p).map bval) 9), (8, some 9, .is (.int .i64 0))] B0 (fun u => ?_) (fun u wd hx9 hp => ?_)
  · simp only [putsR, Act.put, List.setIfInBounds_toArray, List.set_cons_zero, List.set_cons_succ]
    refine RelOb.cons rfl rfl (fun w1 K hx hd hK => ?_) ?_
    · go_simp
      have h := rnonce_any (i : Int) w1
      rw [nonB_is] at h
      refine h.mono ?_
      rintro e m ⟨rfl, b⟩
      exact hK.out _ _ (Or.inl b) ⟨rfl, fun h => by cases h⟩
    refine RelOb.cons rfl rfl (fun w1 K hx hd hK => ?_) ?_
    · go_simp
      refine (rone_any ver w1).mono ?_
      rintro e m ⟨x, rfl, o, b⟩
      exact hK.out _ _ (Or.inl b) ⟨Row1.of_own o, fun h => by cases h⟩
    refine RelOb.cons rfl rfl (fun w1 K hx hd hK => ?_) ?_
    · have h2 : u 2 = .agg ((nonB i).map bval).toArray := (hd 2 (by kernel_rfl)).1
      have r5 : Row1 w1 (u 5) ((pck_be8 ver).map bval) := (hd 5 (by kernel_rfl)).1
      have h := rSeal_any key (nonB i) p (pck_be8 ver) _ _ w1 HKL.out (nonB_length i) (HP.out.below hx) r5 (by rw [HPL.out]; decide) (by rw [be8_length]; decide)
      rw [← h2] at h
      clear h2
      go_simp
      refine h.mono ?_
      rintro e m ⟨x, rfl, o, b⟩
      rw [blkS_is, HPL.out] at o
      have o2 : m.ownsRow wa.heap.size 5 1 x 80 ((blkS key ver i p).map bval) := own_mono o hx.size
      exact hK.out _ _ (Or.inl b) ⟨Row1.of_own o2, fun _ => o2⟩
    refine RelOb.cons rfl rfl (fun w1 K hx hd hK => ?_) ?_
    · have h0 := hd 6 (by kernel_rfl)
      have r : Row1 w1 (u 6) ((blkS key ver i p).map bval) := h0.1
      exact ob_assign _ (u 6) (hK.out _ _ (Or.inl (Ext.refl _)) ⟨r, fun _ => h0.2 rfl⟩) (by rfl) rfl rfl rfl
    refine RelOb.cons rfl rfl (fun w1 K hx hd hK => ?_) ?_
    · exact ob_assign _ (.int .i64 0) (hK.out _ _ (Or.inl (Ext.refl _)) ⟨rfl, fun h => by cases h⟩) (by rfl) rfl rfl rfl
    exact RelOb.nil
  simp only [putsR, Act.put, List.setIfInBounds_toArray, List.set_cons_zero, List.set_cons_succ]
  have HO : Hid (wd.ownsRow wa.heap.size 5 1 (u 7) 80 ((blkS key ver i p).map bval)) := Lib.hid ((hp 7).2 9 rfl (by decide))
  have h8 : u 8 = .int .i64 0 := (hp 8).1
  have HX := Lib.hid hx9
  clear hp hx9
  rw [h8]
  generalize u 7 = x at *
  go_wp2_with fail
  refine bodyPost_ret (res_twoP rfl _ _) rfl ?_
  exact ⟨x, rfl, own_mono HO.out HE.out.size, HE.out.trans HX.out⟩

end Go.Proofs.Ytjnnhkodkbhbbaa

/- The walk of the document's own Cut, of any bytes. Each theorem names its own conditions. -/
namespace Go.Proofs.Ytjnnhkodkbhbbaa
open Go.RowKit
set_option linter.unusedVariables false
set_option linter.unusedSimpArgs false

/-- A row of one's own stands where a row of another type grows. -/
theorem own_apart {w w' : World} {base base' n k : Nat} {e e' : TypeId} {x v : Value} {xs vs : List Value} (h : w.ownsRow base e 1 x n xs) (hv : w.ownsRow base' e' 1 v k vs) (hne : e ≠ e') (g : w.grownBy w' v.ownBlock) : w'.ownsRow base e 1 x n xs := by
  obtain ⟨h1, h2⟩ := h
  refine ⟨h1, ?_⟩
  rcases h2 with h2 | ⟨b, cap, cur, rfl, r2, r3, r4⟩
  · exact Or.inl h2
  · refine Or.inr ⟨b, cap, cur, rfl, r2, ?_, r4⟩
    have hb : b < w.heap.size := (Array.getElem?_eq_some_iff.1 r3).1
    refine (g.block b hb (fun q => ?_)).trans r3
    rcases hv.2 with ⟨rfl, _⟩ | ⟨b', cap', cur', rfl, _, q3, _⟩
    · cases q
    · have q2 : b = b' := Option.some.inj q
      subst q2
      rw [r3] at q3
      injection q3 with q3
      injection q3 with _ q4
      exact hne q4
/-- Rows of one's own that read as the lists of a row of them. -/
def RowsO (w : World) (base : Nat) (vals : List Value) (f : Nat → List UInt8) (m : Nat) : Prop := ∀ j x, vals[j]? = some x → w.ownsRow base 5 1 x m ((f j).map bval)
section
variable {w w' : World} {base : Nat} {vals : List Value} {f : Nat → List UInt8} {m k : Nat}
theorem RowsO.nil : RowsO w base [] f m := fun j x h => by simp at h
theorem RowsO.below (h : RowsO w base vals f m) (g : Ext w w') : RowsO w' base vals f m := fun j x e => own_below (h j x e) g
theorem RowsO.grown {v : Value} {vs : List Value} (h : RowsO w base vals f m) (hv : w.ownsRow base 22 1 v k vs) (g : w.grownBy w' v.ownBlock) : RowsO w' base vals f m := fun j x e => own_apart (h j x e) hv (by decide) g
theorem RowsO.snoc {x : Value} (h : RowsO w base vals f m) (hl : vals.length = k) (hx : w.ownsRow base 5 1 x m ((f k).map bval)) : RowsO w base (vals ++ [x]) f m := fun j y e => by
  by_cases hj : j < vals.length
  · rw [List.getElem?_append_left hj] at e
    exact h j y e
  · rw [List.getElem?_append_right (by omega)] at e
    obtain ⟨h1, h2⟩ := List.getElem?_eq_some_iff.1 e
    have h3 : j - vals.length < 1 := by simpa using h1
    obtain rfl : j = k := by omega
    have h4 : j - vals.length = 0 := by omega
    simp only [h4, List.getElem_cons_zero] at h2
    subst h2
    exact hx
theorem RowsO.rowB {v : Value} (h : RowsO w base vals f m) (hr : Row1 w v vals) (hl : vals.length = k) : RowB w v ((List.range k).map f) := by
  refine ⟨vals, hr, by rw [hl, List.length_map, List.length_range], fun i x l h1 h2 => ?_⟩
  have h3 := Row1.of_own (h i x h1)
  rw [List.getElem?_map] at h2
  obtain ⟨hi, -⟩ := List.getElem?_eq_some_iff.1 h1
  rw [List.getElem?_range (by omega)] at h2
  simp only [Option.map_some, Option.some.injEq] at h2
  rw [← h2]
  exact h3
end
theorem cutN_of {b : List UInt8} (h : 0 < b.length) : cutN b = (b.length + 63) / 64 := if_neg (fun e => by rw [e] at h; exact absurd h (by decide))
theorem cut_lay (b : List UInt8) (k : Nat) : splice ((zB 64).map bval) 0 (((b.drop (64 * k)).take 64).map bval) = (cutAt b k).map bval := by
  have hl : ((b.drop (64 * k)).take 64).length ≤ 64 := by rw [List.length_take]; omega
  unfold splice cutAt
  rw [List.take_zero, List.nil_append, Nat.zero_add, List.length_map, ← List.map_drop, ← List.map_append]
  unfold zB
  rw [List.drop_replicate]

set_option maxRecDepth 100000 in
set_option maxHeartbeats 8000000 in
theorem rCut_loop (b : List UInt8) (bv : Value) (w : World) (hb : Row1 w bv (b.map bval)) (hne : 0 < b.length) (hle : b.length ≤ 2048) :
    Calls Try.prog 10 #[bv] w fun e w' => ∃ x, e = .returned (.tuple #[x, .int .i64 0]) ∧ RowB w' x (cutF b) ∧ Below w.heap.size w w' := by
  obtain ⟨i0, hi, hz0, hz1, hz2⟩ := info_parts Try.info5
  have HI0 := Lib.hid hi
  have HZ0 := Lib.hid hz0
  have HZ1 := Lib.hid hz1
  have HZ2 := Lib.hid hz2
  clear hi hz0 hz1 hz2
  obtain ⟨iq, hq0, hq1, hq2, hq3⟩ := rows_info
  have HQ0 := Lib.hid hq0
  have HQ1 := Lib.hid hq1
  have HQ2 := Lib.hid hq2
  have HQ3 := Lib.hid hq3
  clear hq0 hq1 hq2 hq3
  obtain ⟨ab, cb, hbv, -⟩ := id hb
  rw [List.length_map] at hbv
  subst hbv
  have HR := Lib.hid hb
  have HNE := Lib.hid hne
  have HLE := Lib.hid hle
  have HCN := Lib.hid (cutN_of hne)
  have d0 : decide ((2048 : Int) < (b.length : Int)) = false := decide_eq_false (by omega)
  clear hb hne hle
  go_enter Try.func10, Try.ntmps10
  go_wp2_with fail
  clear d0
  go_loopw [4, 5] (fun v i wr => ∃ (k q : Nat) (vals : List Value), q = 64 * k ∧ k ≤ cutN b ∧ i = .int .i64 (q : Int) ∧ wr.ownsRow w.heap.size 22 1 v k vals ∧ RowsO wr w.heap.size vals (cutAt b) 64 ∧ vals.length = k ∧ Ext w wr) (fun _ i _ => 2112 - (intOf i).toNat)
  case atStart => exact ⟨0, 0, [], rfl, Nat.zero_le _, rfl, World.ownsRow_nil _ _ _ _, RowsO.nil, rfl, Ext.refl _⟩
  case round =>
    obtain ⟨k, q, vals, hq, hk, rfl, ho, hv, hl, hE⟩ := hrel
    have HO := Lib.hid ho
    have HV := Lib.hid hv
    have HL := Lib.hid hl
    have HE := Lib.hid hE
    have HK := Lib.hid hk
    have HQ := Lib.hid hq
    clear ho hv hl hE hk hq
    by_cases hlt : q < b.length
    · have hlt2 : (q : Int) < (b.length : Int) := by omega
      have HLT := Lib.hid hlt
      obtain ⟨v2, hr2, hc2⟩ := row_cut (P := Try.prog) Try.underlying22 Try.sizeOf5 HR.out q (by rw [List.length_map]; omega)
      obtain ⟨a2, c2, hv2, -⟩ := id hr2
      rw [List.length_drop, List.length_map] at hv2
      subst hv2
      rw [← List.map_drop] at hr2
      have HR2 := Lib.hid hr2
      have HC2 := Lib.hid hc2
      clear hr2 hc2
      have hmk : (Instr.makeSlice 22 (.int .i64 64) (.int .i64 64)).run Try.prog wr = .ok (.slice (some ⟨wr.heap.size, 0, none⟩) 64 64) (wr.alloc (.cells ((zB 64).map bval).toArray 5)) := run_make_zeros wr _ _ Try.underlying22 i0 HI0.out HZ0.out HZ1.out HZ2.out 64 (by omega)
      have HB := Lib.hid (Blk.made wr ((zB 64).map bval) 5)
      have HA := Lib.hid (Ext.alloc wr (.cells ((zB 64).map bval).toArray 5))
      go_upto_region 8 with (fail)
      clear hmk hlt hlt2
      generalize wr.alloc (.cells ((zB 64).map bval).toArray 5) = w1 at *
      have HR1 := Lib.hid (HR2.out.below (HE.out.trans HA.out))
      obtain ⟨X, hX⟩ : ∃ X, X = wr.heap.size := ⟨_, rfl⟩
      have HXW : Hid (wr.heap.size ≤ X) := Lib.hid (by omega)
      rw [← hX] at HB ⊢
      clear hX
      have hcut := HC2.out w1
      obtain ⟨L, hL⟩ : ∃ L, L = b.length - q := ⟨_, rfl⟩
      rw [← hL] at hcut HR1 HR2 HC2
      obtain ⟨cs, hcs⟩ : ∃ cs, cs = (b.drop q).take 64 := ⟨_, rfl⟩
      have HCS : Hid ((cs.map bval).length = Nat.min L 64) := Lib.hid (by rw [hcs, List.length_map, List.length_take, List.length_drop, hL]; exact Nat.min_comm _ _)
      have HSR := Lib.hid (fun h => And.intro (rfl : (some (⟨X, 0, none⟩ : Addr)) = some ⟨X, 0, none⟩) (row_src HR1.out cs (by rw [hcs, List.length_take]; exact (List.take_eq_take_min ..).symm ▸ (by simp)) (by rw [hcs, List.length_take]; omega) (Ext.refl _) h))
      have HFT : Hid (0 + (cs.map bval).length ≤ ((zB 64).map bval).length) := Lib.hid (by rw [hcs, List.length_map, List.length_take, List.length_map, zB_length]; omega)
      have HLY : Hid (splice ((zB 64).map bval) 0 (cs.map bval) = (cutAt b k).map bval) := Lib.hid (by rw [hcs, HQ.out]; exact cut_lay b k)
      clear hcs hL
      go_upto_region 9 with (refine wpList_copy_blk rfl (.tmp 21) (.tmp 24) 22 22 rfl 5 Try.underlying22 one_u8m (some ⟨X, 0, none⟩) a2 64 64 L c2 rfl rfl X 0 ((zB 64).map bval) 5 HB.out (cs.map bval) HCS.out HSR.out HFT.out (bval_one _) ?_; intro w2 hb2 hg2)
      rw [HLY.out] at hb2
      have HX2 := Lib.hid (ext_grown HA.out hg2 HXW.out)
      have HE2 := Lib.hid (HE.out.trans HX2.out)
      have HXO := Lib.hid (own_blk (base := w.heap.size) (n := 64) hb2 (Nat.le_trans HE.out.size HXW.out) (by rw [List.length_map, cutAt_length]) (by unfold maxLen; omega))
      have HO2 := Lib.hid (own_below HO.out HX2.out)
      have HV2 := Lib.hid ((HV.out.below HX2.out).snoc HL.out HXO.out)
      have HKL : Hid (k ≤ 32) := Lib.hid (Nat.le_trans HK.out (cutN_le HLE.out))
      have HR3 := Lib.hid (Row1.made w2 #[.slice (some ⟨X, 0, none⟩) 64 64] 22 _ 1 [.slice (some ⟨X, 0, none⟩) 64 64] rfl rfl rfl (by unfold maxLen; omega))
      have HX3 := Lib.hid (Ext.alloc w2 (.cells #[.slice (some ⟨X, 0, none⟩) 64 64] 22))
      clear hb2 hg2 HCS HSR HFT HLY HB HA HR1 HR2 HC2 hcut HO HV HE HXO HXW
      go_upto_region 6 with (at_builtin; refine wpList_append_row rfl _ _ 24 rfl w.heap.size 22 iq (.slice none 0 0) 24 Try.underlying24 HQ0.out HQ1.out HQ2.out HQ3.out rfl _ k _ rfl (own_below HO2.out HX3.out) rfl HR3.out (by intro u hu; simp at hu; subst hu; rfl) (by have := HKL.out; show k + 1 ≤ maxLen; unfold maxLen; omega) (by have := HKL.out; show (k + 1) * 24 ≤ 140737488355328; omega) (Nat.le_trans HE2.out.size HX3.out.size) ?_; intro v3 w3 ho3 hg3)
      have HO3 := Lib.hid ho3
      have HV3 := Lib.hid ((HV2.out.below HX3.out).grown (own_below HO2.out HX3.out) hg3)
      have HE3 := Lib.hid (ext_own (HE2.out.trans HX3.out) (own_below HO2.out HX3.out) (Nat.le_refl _) hg3)
      clear ho3 hg3 HO2 HV2 HX2 HE2 HR3 HX3
      have hw1 : (q : Int) + 64 ≤ 9223372036854775807 := by have := HQ.out; have := HKL.out; omega
      have hw0 : -9223372036854775808 ≤ (q : Int) + 64 := by omega
      go_wp2_with fail
      go_roundw
      case rel => exact ⟨k + 1, q + 64, _, by have := HQ.out; omega, by have := HQ.out; have := HLT.out; have := HCN.out; omega, by go_num, HO3.out, HV3.out, by rw [List.length_append, HL.out]; rfl, HE3.out⟩
      case measure => simp [intOf]; have := HQ.out; have := HKL.out; omega
    · have hge : (b.length : Int) ≤ (q : Int) := by omega
      have hd : decide (q < b.length) = false := decide_eq_false hlt
      have hkn : k = cutN b := by have := HQ.out; have := HCN.out; have := HK.out; omega
      have hq0 : q ≠ 0 := by have := HNE.out; omega
      have hq1 : ((q : Int) == 0) = false := by simpa using hq0
      have HKN := Lib.hid hkn
      clear hkn
      go_wp2_with fail
      refine bodyPost_ret (res_twoP rfl _ _) rfl ?_
      exact ⟨_, rfl, by unfold cutF; rw [← HKN.out]; exact HV.out.rowB (Row1.of_own HO.out) HL.out, HE.out⟩
set_option maxRecDepth 100000 in
set_option maxHeartbeats 8000000 in
theorem rCut_none (ab : Option Addr) (cb : Nat) (w : World) (hb : Row1 w (.slice ab 0 cb) (([] : List UInt8).map bval)) : Calls Try.prog 10 #[.slice ab 0 cb] w fun e w' => ∃ x, e = .returned (.tuple #[x, .int .i64 0]) ∧ RowB w' x [z64] ∧ Below w.heap.size w w' := by
  obtain ⟨i0, hi, hz0, hz1, hz2⟩ := info_parts Try.info5
  have HI0 := Lib.hid hi
  have HZ0 := Lib.hid hz0
  have HZ1 := Lib.hid hz1
  have HZ2 := Lib.hid hz2
  clear hi hz0 hz1 hz2
  obtain ⟨iq, hq0, hq1, hq2, hq3⟩ := rows_info
  have HQ0 := Lib.hid hq0
  have HQ1 := Lib.hid hq1
  have HQ2 := Lib.hid hq2
  have HQ3 := Lib.hid hq3
  clear hq0 hq1 hq2 hq3
  obtain ⟨v2, hr2, hc2⟩ := row_cut (P := Try.prog) Try.underlying22 Try.sizeOf5 hb 0 (by simp)
  obtain ⟨a2, c2, hv2, -⟩ := id hr2
  have hv3 : v2 = .slice a2 0 c2 := hv2
  subst hv3
  have HC2 := Lib.hid hc2
  clear hr2 hc2 hv2 hb
  have hmk : (Instr.makeSlice 22 (.int .i64 64) (.int .i64 64)).run Try.prog w = .ok (.slice (some ⟨w.heap.size, 0, none⟩) 64 64) (w.alloc (.cells ((zB 64).map bval).toArray 5)) := run_make_zeros w _ _ Try.underlying22 i0 HI0.out HZ0.out HZ1.out HZ2.out 64 (by omega)
  have HB := Lib.hid (Blk.made w ((zB 64).map bval) 5)
  have HE := Lib.hid (Ext.alloc w (.cells ((zB 64).map bval).toArray 5))
  go_enter Try.func10, Try.ntmps10
  go_wp2_with fail
  refine wp_loop_rounds 2 ?_
  rw [rounds_succ]
  go_upto_region 8 with (fail)
  clear hmk
  generalize w.alloc (.cells ((zB 64).map bval).toArray 5) = w1 at *
  obtain ⟨X, hX⟩ : ∃ X, X = w.heap.size := ⟨_, rfl⟩
  have HO : Hid (w.heap.size ≤ X) := Lib.hid (by omega)
  rw [← hX] at HB ⊢
  clear hX
  have hcut : (Instr.sliceAt 22 (.slice ab 0 cb) (some (.int .i64 0)) none none).run Try.prog w1 = .ok (.slice a2 0 c2) w1 := HC2.out w1
  have HF : Hid (0 + ([] : List Value).length ≤ ((zB 64).map bval).length) := Lib.hid (by simp)
  go_upto_region 9 with (refine wpList_copy_blk rfl (.tmp 21) (.tmp 24) 22 22 rfl 5 Try.underlying22 one_u8m (some ⟨X, 0, none⟩) a2 64 64 0 c2 rfl rfl X 0 ((zB 64).map bval) 5 HB.out [] rfl (fun h => absurd h (by simp)) HF.out (by intro v hv; cases hv) ?_; intro w2 hb2 hg2)
  rw [splice_nil] at hb2
  have HB := Lib.hid hb2
  have HE := Lib.hid (ext_grown HE.out hg2 HO.out)
  clear hb2 hg2 HF
  generalize w2 = w1 at *
  have HXR := Lib.hid (blk_row (n := 64) HB.out (by rw [List.length_map, zB_length]) (by unfold maxLen; omega))
  have HR2 := Lib.hid (Row1.made w1 #[.slice (some ⟨X, 0, none⟩) 64 64] 22 _ 1 [.slice (some ⟨X, 0, none⟩) 64 64] rfl rfl rfl (by unfold maxLen; omega))
  have HE2 := Lib.hid (Ext.alloc w1 (.cells #[.slice (some ⟨X, 0, none⟩) 64 64] 22))
  go_wp2_with (at_builtin; refine wpList_append_row rfl _ _ 24 rfl w1.heap.size 22 iq (.slice none 0 0) 24 Try.underlying24 HQ0.out HQ1.out HQ2.out HQ3.out rfl (.slice none 0 0) 0 [] rfl (World.ownsRow_nil _ _ _ _) rfl HR2.out (by intro u hu; simp at hu; subst hu; rfl) (by simp [maxLen]) (by simp) HE2.out.size ?_; intro v3 w3 ho3 hg3)
  rw [List.nil_append] at ho3
  have HX3 := Lib.hid (ext_own HE2.out (World.ownsRow_nil _ _ 22 _) HE2.out.size hg3)
  have HRB := Lib.hid (rowB1 (Row1.of_own ho3) (HXR.out.below HX3.out))
  have HE := Lib.hid (HE.out.trans HX3.out)
  clear ho3 hg3 HR2 HE2 HXR HB HX3
  rw [rounds_succ]
  go_wp2_with fail
  refine bodyPost_ret (res_twoP rfl _ _) rfl ?_
  exact ⟨v3, rfl, HRB.out, HE.out⟩

set_option maxRecDepth 100000 in
set_option maxHeartbeats 8000000 in
theorem rCut_long (b : List UInt8) (bv : Value) (w : World) (hb : Row1 w bv (b.map bval)) (hle : 2048 < b.length) :
    Calls Try.prog 10 #[bv] w fun e w' => e = .returned (.tuple #[.slice none 0 0, .int .i64 3]) ∧ Below w.heap.size w w' := by
  obtain ⟨ab, cb, hbv, -⟩ := id hb
  rw [List.length_map] at hbv
  subst hbv
  have d0 : decide ((2048 : Int) < (b.length : Int)) = true := decide_eq_true (by omega)
  clear hb hle
  go_enter Try.func10, Try.ntmps10
  go_wp2_with fail
  refine bodyPost_ret (res_twoP rfl _ _) rfl ?_
  exact ⟨rfl, Below.refl _ _⟩
/-- What Cut answers. -/
def cutL (b : List UInt8) : List (List UInt8) := if b.length ≤ 2048 then cutF b else []
def cutE (b : List UInt8) : Int := if b.length ≤ 2048 then 0 else 3
theorem cutF_nil : cutF [] = [z64] := rfl
theorem rCut_any (b : List UInt8) (bv : Value) (w : World) (hb : Row1 w bv (b.map bval)) :
    Calls Try.prog 10 #[bv] w fun e w' => ∃ x, e = .returned (.tuple #[x, .int .i64 (cutE b)]) ∧ RowB w' x (cutL b) ∧ Below w.heap.size w w' := by
  by_cases h : b.length ≤ 2048
  · have e1 : cutE b = 0 := if_pos h
    have e2 : cutL b = cutF b := if_pos h
    rw [e1, e2]
    by_cases h0 : 0 < b.length
    · exact rCut_loop b bv w hb h0 h
    · obtain rfl : b = [] := List.length_eq_zero_iff.1 (by omega)
      obtain ⟨ab, cb, hbv, -⟩ := id hb
      have hv : bv = .slice ab 0 cb := hbv
      subst hv
      exact rCut_none ab cb w hb
  · have e1 : cutE b = 3 := if_neg h
    have e2 : cutL b = [] := if_neg h
    rw [e1, e2]
    refine (rCut_long b bv w hb (by omega)).mono ?_
    rintro e w' ⟨rfl, g⟩
    exact ⟨_, rfl, ⟨[], Row1.nil _, rfl, fun i x l h1 => by simp at h1⟩, g⟩

end Go.Proofs.Ytjnnhkodkbhbbaa

/- Images as functions on lists: what Open answers, and what of it. No program. Each theorem names its own conditions. -/
namespace Go.Proofs.Ytjnnhkodkbhbbaa
open Go.RowKit
set_option linter.unusedVariables false
set_option linter.unusedSimpArgs false

/-- May a block be sealed or opened there? -/
def imgB (ver i : Int) (n m : Nat) : Bool := smallB ver && (decide (0 ≤ i) && (decide (i ≤ 31) && decide (n = m)))
theorem imgB_all {ver i : Int} {n m : Nat} (h : imgB ver i n m = true) : smallB ver = true ∧ 0 ≤ i ∧ i ≤ 31 ∧ n = m := by
  unfold imgB at h
  simpa only [Bool.and_eq_true, decide_eq_true_iff] using h
theorem imgB_of {ver i : Int} {n m : Nat} (h1 : smallB ver = true) (h2 : 0 ≤ i) (h3 : i ≤ 31) (h4 : n = m) : imgB ver i n m = true := by
  unfold imgB
  rw [h1, decide_eq_true h2, decide_eq_true h3, decide_eq_true h4]
  rfl
/-- What Open answers. -/
def opnO (key : List UInt8) (ver i : Int) (c : List UInt8) : Option (List UInt8) := openB key (nonB i.toNat) c (pck_be8 ver)
def opnE (key : List UInt8) (ver i : Int) (c : List UInt8) : Int := if imgB ver i c.length 80 = true then (if (opnO key ver i c).isSome = true then 0 else 10) else 1
def opnL (key : List UInt8) (ver i : Int) (c : List UInt8) : List UInt8 := if imgB ver i c.length 80 = true then (opnO key ver i c).getD [] else []
/-- What was sealed is opened. -/
theorem opn_seal {key : List UInt8} {ver : Int} {i : Nat} {p : List UInt8} (h1 : smallB ver = true) (h2 : i ≤ 31) (h3 : p.length = 64) : opnE key ver (i : Int) (blkS key ver i p) = 0 ∧ opnL key ver (i : Int) (blkS key ver i p) = p := by
  have hb : imgB ver (i : Int) (blkS key ver i p).length 80 = true := imgB_of h1 (by omega) (by omega) (blkS_length h3)
  have ho : opnO key ver (i : Int) (blkS key ver i p) = some p := by
    unfold opnO
    rw [Int.toNat_natCast]
    exact open_seal _ _ _ _
  unfold opnE opnL
  rw [if_pos hb, if_pos hb, ho]
  exact ⟨rfl, rfl⟩
theorem opn_out {key : List UInt8} {ver i : Int} {c : List UInt8} (h : imgB ver i c.length 80 = false) : opnE key ver i c = 1 ∧ opnL key ver i c = [] := by
  unfold opnE opnL
  rw [if_neg (by rw [h]; decide), if_neg (by rw [h]; decide)]
  exact ⟨rfl, rfl⟩
theorem opn_in {key : List UInt8} {ver i : Int} {c : List UInt8} (h : imgB ver i c.length 80 = true) : opnE key ver i c = (if (opnO key ver i c).isSome = true then 0 else 10) ∧ opnL key ver i c = (opnO key ver i c).getD [] := by
  unfold opnE opnL
  rw [if_pos h, if_pos h]
  exact ⟨rfl, rfl⟩
/-- All blocks of an image, one behind the other: it, and noughts. -/
theorem cut_flat_take (b : List UInt8) : ∀ n, 64 * n ≤ b.length → ((List.range n).map (cutAt b)).flatten = b.take (64 * n)
  | 0, _ => by simp
  | n + 1, h => by
    rw [List.range_succ, List.map_append, List.flatten_append, cut_flat_take b n (by omega)]
    have e : cutAt b n = (b.drop (64 * n)).take 64 := by
      unfold cutAt
      rw [show 64 - ((b.drop (64 * n)).take 64).length = 0 by rw [List.length_take, List.length_drop]; omega, List.replicate_zero, List.append_nil]
    rw [List.map_singleton, List.flatten_cons, List.flatten_nil, List.append_nil, e, show 64 * (n + 1) = 64 * n + 64 by omega, List.take_add]
theorem cut_flat_length (b : List UInt8) : ∀ n, ((List.range n).map (cutAt b)).flatten.length = 64 * n
  | 0 => by simp
  | n + 1 => by
    rw [List.range_succ, List.map_append, List.flatten_append, List.length_append, cut_flat_length b n, List.map_singleton, List.flatten_cons, List.flatten_nil, List.append_nil, cutAt_length]
    omega
theorem cut_flat (b : List UInt8) : b.length ≤ (cutF b).flatten.length ∧ (cutF b).flatten.take b.length = b := by
  have hl : (cutF b).flatten.length = 64 * cutN b := cut_flat_length b (cutN b)
  rw [hl]
  by_cases h0 : b = []
  · subst h0
    exact ⟨Nat.zero_le _, rfl⟩
  have hn : cutN b = (b.length + 63) / 64 := if_neg h0
  have hp : 0 < b.length := List.length_pos_iff.2 h0
  refine ⟨by omega, ?_⟩
  obtain ⟨m, hm⟩ : ∃ m, cutN b = m + 1 := ⟨cutN b - 1, by omega⟩
  have e : (cutF b).flatten = b.take (64 * m) ++ cutAt b m := by
    unfold cutF
    rw [hm, List.range_succ, List.map_append, List.flatten_append, cut_flat_take b m (by omega), List.map_singleton, List.flatten_cons, List.flatten_nil, List.append_nil]
  have ht : (b.take (64 * m)).length = 64 * m := by rw [List.length_take]; omega
  have hd : (b.drop (64 * m)).take 64 = b.drop (64 * m) := List.take_of_length_le (by rw [List.length_drop]; omega)
  rw [e]
  unfold cutAt
  rw [hd, ← List.append_assoc, List.take_append_drop, List.take_left]

end Go.Proofs.Ytjnnhkodkbhbbaa

/- The document's own SealBlock, of anything. Each theorem names its own conditions. -/
namespace Go.Proofs.Ytjnnhkodkbhbbaa
open Go.RowKit
set_option linter.unusedVariables false
set_option linter.unusedSimpArgs false

/-- What SealBlock answers. -/
def selE (ver i : Int) (n m : Nat) : Int := if imgB ver i n m = true then 0 else 1
def selL (key : List UInt8) (ver i : Int) (p : List UInt8) : List UInt8 := if imgB ver i p.length 64 = true then blkS key ver i.toNat p else []

set_option maxRecDepth 100000 in
set_option maxHeartbeats 8000000 in
theorem rSealBlock_bad (key : List UInt8) (ver i : Int) (p : List UInt8) (pv : Value) (w : World) (hk : key.length = 32) (hp : Row1 w pv (p.map bval)) (hn : imgB ver i p.length 64 = false) :
    Calls Try.prog 18 #[.agg (key.map bval).toArray, .int .i64 ver, .int .i64 i, pv] w fun e w' => e = .returned (.tuple #[.slice none 0 0, .int .i64 1]) ∧ Below w.heap.size w w' := by
  obtain ⟨a, cap, hpv, -⟩ := id hp
  rw [List.length_map] at hpv
  obtain ⟨pn, hpn⟩ : ∃ n, n = p.length := ⟨_, rfl⟩
  rw [← hpn] at hpv hn
  subst hpv
  have HN := Lib.hid hn
  clear hn hpn hp hk
  have HE0 := Lib.hid (Ext.alloc w (.cells (key.map bval).toArray 34))
  go_enter Try.func18, Try.ntmps18
  go_upto_region 1 with (fail)
  change Code.wp _ _ _ _ (w.alloc (.cells (key.map bval).toArray 34))
  generalize w.alloc (.cells (key.map bval).toArray 34) = wa at *
  have HE : Hid (Ext w wa) := HE0
  clear HE0
  cases hs : smallB ver with
  | false =>
    have HS := Lib.hid hs
    clear hs
    go_wp2_with fail
    refine (rsmall_q ver false wa HS.out).mono ?_
    rintro e w3 ⟨rfl, rfl⟩
    go_wp2_with fail
    refine bodyPost_ret (res_twoP rfl _ _) rfl ?_
    exact ⟨rfl, HE.out⟩
  | true =>
    have HS := Lib.hid hs
    clear hs
    go_wp2_with fail
    refine (rsmall_q ver true wa HS.out).mono ?_
    rintro e w3 ⟨rfl, rfl⟩
    by_cases h1 : i < 0
    · go_wp2_with fail
      refine bodyPost_ret (res_twoP rfl _ _) rfl ?_
      exact ⟨rfl, HE.out⟩
    by_cases h2 : 31 < i
    · go_wp2_with fail
      refine bodyPost_ret (res_twoP rfl _ _) rfl ?_
      exact ⟨rfl, HE.out⟩
    have h3 : pn ≠ 64 := fun e => by
      have h := HN.out
      unfold imgB at h
      rw [HS.out, e, decide_eq_true (show (0 : Int) ≤ i by omega), decide_eq_true (show i ≤ (31 : Int) by omega)] at h
      exact absurd h (by decide)
    have h4 : ((pn : Int) != 64) = true := by simp; omega
    go_wp2_with fail
    refine bodyPost_ret (res_twoP rfl _ _) rfl ?_
    exact ⟨rfl, HE.out⟩
theorem rSealBlock_full (key : List UInt8) (ver i : Int) (p : List UInt8) (pv : Value) (w : World) (hk : key.length = 32) (hp : Row1 w pv (p.map bval)) :
    Calls Try.prog 18 #[.agg (key.map bval).toArray, .int .i64 ver, .int .i64 i, pv] w fun e w' => ∃ x, e = .returned (.tuple #[x, .int .i64 (selE ver i p.length 64)]) ∧ w'.ownsRow w.heap.size 5 1 x (selL key ver i p).length ((selL key ver i p).map bval) ∧ Below w.heap.size w w' := by
  cases h : imgB ver i p.length 64 with
  | true =>
    have e1 : selE ver i p.length 64 = 0 := if_pos h
    have e2 : selL key ver i p = blkS key ver i.toNat p := if_pos h
    obtain ⟨h1, h2, h3, h4⟩ := imgB_all h
    obtain ⟨n, rfl⟩ : ∃ n : Nat, i = n := ⟨i.toNat, by omega⟩
    rw [e1, e2, blkS_length h4]
    exact rSealBlock_any key ver n p pv w hk h1 (by omega) hp h4
  | false =>
    have e1 : selE ver i p.length 64 = 1 := if_neg (by rw [h]; decide)
    have e2 : selL key ver i p = [] := if_neg (by rw [h]; decide)
    rw [e1, e2]
    refine (rSealBlock_bad key ver i p pv w hk hp h).mono ?_
    rintro e w' ⟨rfl, g⟩
    exact ⟨_, rfl, World.ownsRow_nil _ _ _ _, g⟩

end Go.Proofs.Ytjnnhkodkbhbbaa

/- The walk of the document's own Make of any bytes. Laid by wip/gen/gimg2.py. Each theorem names its own conditions. -/
namespace Go.Proofs.Ytjnnhkodkbhbbaa
open Go.RowKit
set_option linter.unusedVariables false
set_option linter.unusedSimpArgs false

set_option maxRecDepth 100000 in
set_option maxHeartbeats 8000000 in
theorem rMake_good (key : List UInt8) (ver : Int) (b : List UInt8) (bv : Value) (w : World) (hk : key.length = 32) (hv : smallB ver = true) (hb : Row1 w bv (b.map bval)) (hle : b.length ≤ 2048) :
    Calls Try.prog 14 #[.agg (key.map bval).toArray, .int .i64 ver, bv] w fun e w' => ∃ x, e = .returned (.tuple #[x, .int .i64 0]) ∧ RowB w' x (makF key ver b) ∧ Below w.heap.size w w' := by
  have HVS := Lib.hid hv
  clear hv
  obtain ⟨i0, hi, hz0, hz1, hz2⟩ := info_parts Try.info5
  have HI0 := Lib.hid hi
  have HZ0 := Lib.hid hz0
  have HZ1 := Lib.hid hz1
  have HZ2 := Lib.hid hz2
  clear hi hz0 hz1 hz2
  obtain ⟨iq, hq0, hq1, hq2, hq3⟩ := rows_info
  have HQ0 := Lib.hid hq0
  have HQ1 := Lib.hid hq1
  have HQ2 := Lib.hid hq2
  have HQ3 := Lib.hid hq3
  clear hq0 hq1 hq2 hq3
  have HKL := Lib.hid hk
  have HLE := Lib.hid hle
  have HIK := Lib.hid (num_size hk)
  have HBV := Lib.hid hb
  have HB := Lib.hid (And.intro (Blk.made w (key.map bval) 34) (Ext.alloc w (.cells (key.map bval).toArray 34)))
  go_enter Try.func14, Try.ntmps14
  go_upto_region 1 with (fail)
  obtain ⟨h0, hE⟩ := HB.out
  change Code.wp _ _ _ _ (w.alloc (.cells (key.map bval).toArray 34))
  generalize w.alloc (.cells (key.map bval).toArray 34) = wa at *
  obtain ⟨A, hA⟩ : ∃ X, X = w.heap.size := ⟨_, rfl⟩
  rw [← hA] at h0 ⊢
  have HA0 := Lib.hid h0
  have HE : Hid (Ext w wa) := Lib.hid hE
  have HO : Hid (w.heap.size = A) := Lib.hid (by omega)
  clear HB hE h0 hA
  have HCT := Lib.hid (rCut_any b bv wa (HBV.out.below HE.out))
  have e1 : cutE b = 0 := if_pos HLE.out
  have e2 : cutL b = cutF b := if_pos HLE.out
  rw [e1, e2] at HCT
  clear e1 e2 hk hb hle
  go_wp2_with fail
  refine HCT.out.mono ?_
  rintro e w1 ⟨lx, rfl, ⟨vals, hr, hlen, hxs⟩, hb⟩
  rw [cutF_length] at hlen
  obtain ⟨la, lc, hlx, -, -, -, hcell⟩ := id hr
  obtain ⟨lb, lo, hla, -, hc⟩ := hcell (by intro e; rw [e] at hlen; have := cutN_pos b; simp at hlen; omega)
  subst hla
  rw [hlen] at hlx hc
  subst hlx
  have HVL := Lib.hid hlen
  have HCC := Lib.hid hc
  have HXS : Hid (∀ j x, vals[j]? = some x → Row1 w1 x ((cutAt b j).map bval)) := Lib.hid (fun j x h => by
    refine hxs j x (cutAt b j) h ?_
    obtain ⟨hj, -⟩ := List.getElem?_eq_some_iff.1 h
    unfold cutF
    rw [List.getElem?_map, List.getElem?_range (by omega)]
    rfl)
  have HA0 := Lib.hid (ext_blk HA0.out hb)
  have HE := Lib.hid (HE.out.trans hb)
  clear hr hlen hxs hb hcell hc HCT HBV
  have HN32 := Lib.hid (cutN_le HLE.out)
  go_wp2_with fail
  go_loopw [10, 11] (fun v s wr => ∃ (i : Nat) (vs : List Value), i ≤ cutN b ∧ s = .int .i64 (i : Int) ∧ wr.ownsRow w1.heap.size 22 1 v i vs ∧ RowsO wr w1.heap.size vs (fun j => blkS key ver j (cutAt b j)) 80 ∧ vs.length = i ∧ Ext w1 wr) (fun _ s _ => 32 - (intOf s).toNat)
  case atStart => exact ⟨0, [], Nat.zero_le _, rfl, World.ownsRow_nil _ _ _ _, RowsO.nil, rfl, Ext.refl _⟩
  case round =>
    obtain ⟨i, vs, hi, rfl, ho, hv, hl, hE⟩ := hrel
    have HO2 := Lib.hid ho
    have HV := Lib.hid hv
    have HL := Lib.hid hl
    have HE1 := Lib.hid hE
    have HI := Lib.hid hi
    clear ho hv hl hE hi
    by_cases hlt : i < cutN b
    · have hlt2 : (i : Int) < ((cutN b : Nat) : Int) := by omega
      have i0' : (0 : Int) ≤ (i : Int) := Int.natCast_nonneg _
      have HLT := Lib.hid hlt
      have HI31 : Hid (i ≤ 31) := Lib.hid (by have := HN32.out; omega)
      obtain ⟨xi, hxi⟩ : ∃ x, vals[i]? = some x := ⟨_, List.getElem?_eq_getElem (by rw [HVL.out]; exact hlt)⟩
      have HXI := Lib.hid ((HXS.out i xi hxi).below HE1.out)
      have HLC : Hid (wr.cell? ⟨lb, lo + i, none⟩ = some xi) := Lib.hid (by
        have h := (HCC.out i hlt).trans hxi
        exact (Below.cell HE1.out (World.block_lt_of_cell? w1 _ h)).trans h)
      have HA1 := Lib.hid (ext_blk HA0.out HE1.out)
      have HE2 := Lib.hid (HE.out.trans HE1.out)
      generalize HEE : HE = HEX at *
      clear hxi HEE
      have HE := HE2
      go_upto_region 8 with (fail)
      have B0 : Ext wr wr.drew := Ext.drew _
      refine wp_region_held_drew (S := fun w' => Ext wr w') (by kernel_rfl) B0 (fun hHeld => ?_)
      refine wpAnyH_take (i := 0) (v := .agg ((key).map bval).toArray) rfl (by kernel_rfl) (by kernel_rfl) (by kernel_rfl) (fun _ _ _ h => h) (yieldsIf_load_mid (by rfl) _ _ rfl A 0 rfl _ _ (fun w h => bl_range HA1.out h) Try.underlying34 rfl HIK.out) hHeld ?_
      simp only [Act.put, List.getElem_toArray, List.getElem_cons_zero, List.getElem_cons_succ, List.setIfInBounds_toArray, List.set_cons_zero, List.set_cons_succ]
      refine wpAnyH_take (i := 1) (v := .int .i64 ver) rfl (by kernel_rfl) (by kernel_rfl) (by kernel_rfl) (fun _ _ _ h => h) (yi_move _ (.int .i64 ver) (by rfl) rfl rfl) hHeld ?_
      simp only [Act.put, List.getElem_toArray, List.getElem_cons_zero, List.getElem_cons_succ, List.setIfInBounds_toArray, List.set_cons_zero, List.set_cons_succ]
      refine wpAnyH_take (i := 2) (v := .int .i64 (i : Int)) rfl (by kernel_rfl) (by kernel_rfl) (by kernel_rfl) (fun _ _ _ h => h) (yi_move _ (.int .i64 (i : Int)) (by rfl) rfl rfl) hHeld ?_
      simp only [Act.put, List.getElem_toArray, List.getElem_cons_zero, List.getElem_cons_succ, List.setIfInBounds_toArray, List.set_cons_zero, List.set_cons_succ]
      refine wpAnyH_take (i := 3) (v := .slice (some ⟨lb, lo, none⟩) (cutN b) lc) rfl (by kernel_rfl) (by kernel_rfl) (by kernel_rfl) (fun _ _ _ h => h) (yi_move _ (.slice (some ⟨lb, lo, none⟩) (cutN b) lc) (by rfl) rfl rfl) hHeld ?_
      simp only [Act.put, List.getElem_toArray, List.getElem_cons_zero, List.getElem_cons_succ, List.setIfInBounds_toArray, List.set_cons_zero, List.set_cons_succ]
      refine wpAnyH_take (i := 4) (v := .int .i64 (i : Int)) rfl (by kernel_rfl) (by kernel_rfl) (by kernel_rfl) (fun _ _ _ h => h) (yi_move _ (.int .i64 (i : Int)) (by rfl) rfl rfl) hHeld ?_
      simp only [Act.put, List.getElem_toArray, List.getElem_cons_zero, List.getElem_cons_succ, List.setIfInBounds_toArray, List.set_cons_zero, List.set_cons_succ]
      refine wpAnyH_take (i := 5) (v := .pointer (some ⟨lb, lo + i, none⟩)) rfl (by kernel_rfl) (by kernel_rfl) (by kernel_rfl) (fun _ _ _ h => h) (yi_val (.pointer (some ⟨lb, lo + i, none⟩)) (by rfl) (fun w _ => by go_simp)) hHeld ?_
      simp only [Act.put, List.getElem_toArray, List.getElem_cons_zero, List.getElem_cons_succ, List.setIfInBounds_toArray, List.set_cons_zero, List.set_cons_succ]
      refine wpAnyH_take (i := 6) (v := xi) rfl (by kernel_rfl) (by kernel_rfl) (by kernel_rfl) (fun _ _ _ h => h) (yi_val xi (by rfl) (fun w h => by have hc := (Below.cell h (World.block_lt_of_cell? wr _ HLC.out)).trans HLC.out; go_simp)) hHeld ?_
      simp only [Act.put, List.getElem_toArray, List.getElem_cons_zero, List.getElem_cons_succ, List.setIfInBounds_toArray, List.set_cons_zero, List.set_cons_succ]
      refine wpAnyH_ready (rs := [7]) (by kernel_rfl) (by simp) (AllReadyH.cons rfl (fun K hK => ?_) AllReadyH.nil)
      go_simp
      refine (rSealBlock_any key ver i (cutAt b i) xi wr.drew HKL.out HVS.out HI31.out (HXI.out.below B0) (cutAt_length _ _)).mono ?_
      rintro e m1 ⟨x1, rfl, o1, b1⟩
      have HX1 := Lib.hid (own_mono o1 (HE1.out.trans B0).size)
      clear o1
      have N1 : Ext wr m1 := B0.trans b1
      refine hK.out _ _ N1 (fun hHeld => ?_)
      clear hK K
      try simp only [Act.put, List.getElem_toArray, List.getElem_cons_zero, List.getElem_cons_succ, List.setIfInBounds_toArray, List.set_cons_zero, List.set_cons_succ]
      refine wpAnyH_take (i := 8) (v := .tuple #[x1, .int .i64 0]) rfl (by kernel_rfl) (by kernel_rfl) (by kernel_rfl) (fun _ _ _ h => h) (yi_move _ (.tuple #[x1, .int .i64 0]) (by rfl) rfl rfl) hHeld ?_
      simp only [Act.put, List.getElem_toArray, List.getElem_cons_zero, List.getElem_cons_succ, List.setIfInBounds_toArray, List.set_cons_zero, List.set_cons_succ]
      refine wpAnyH_take (i := 9) (v := x1) rfl (by kernel_rfl) (by kernel_rfl) (by kernel_rfl) (fun _ _ _ h => h) (yi_val (x1) (by rfl) (fun w _ => by go_simp)) hHeld ?_
      simp only [Act.put, List.getElem_toArray, List.getElem_cons_zero, List.getElem_cons_succ, List.setIfInBounds_toArray, List.set_cons_zero, List.set_cons_succ]
      refine wpAnyH_take (i := 10) (v := .int .i64 0) rfl (by kernel_rfl) (by kernel_rfl) (by kernel_rfl) (fun _ _ _ h => h) (yi_val (.int .i64 0) (by rfl) (fun w _ => by go_simp)) hHeld ?_
      simp only [Act.put, List.getElem_toArray, List.getElem_cons_zero, List.getElem_cons_succ, List.setIfInBounds_toArray, List.set_cons_zero, List.set_cons_succ]
      refine wpAnyH_take (i := 11) (v := x1) rfl (by kernel_rfl) (by kernel_rfl) (by kernel_rfl) (fun _ _ _ h => h) (yi_assign _ (x1) (by rfl) rfl rfl) hHeld ?_
      simp only [Act.put, List.getElem_toArray, List.getElem_cons_zero, List.getElem_cons_succ, List.setIfInBounds_toArray, List.set_cons_zero, List.set_cons_succ]
      refine wpAnyH_ready (rs := [12]) (by kernel_rfl) (by simp) (AllReadyH.cons rfl (fun K hK => ?_) AllReadyH.nil)
      go_simp
      refine hK.out _ _ N1 (fun hHeld => ?_)
      clear hK K
      try simp only [Act.put, List.getElem_toArray, List.getElem_cons_zero, List.getElem_cons_succ, List.setIfInBounds_toArray, List.set_cons_zero, List.set_cons_succ]
      refine wpAnyH_done (by kernel_rfl) ?_ _
      have HX := Lib.hid N1
      generalize m1 = w2 at *
      generalize x1 = x at *
      obtain ⟨xa, xn, xc, rfl⟩ := rel_row_form (Row1.of_own HX1.out)
      have HO3 := Lib.hid (own_below HO2.out HX.out)
      have HV3 := Lib.hid ((HV.out.below HX.out).snoc HL.out HX1.out)
      have HE3 := Lib.hid (HE2.out.trans HX.out)
      have HEY := Lib.hid (HE1.out.trans HX.out)
      have HR3 := Lib.hid (Row1.made w2 #[.slice xa xn xc] 22 _ 1 [.slice xa xn xc] rfl rfl rfl (by unfold maxLen; omega))
      have HX3 := Lib.hid (Ext.alloc w2 (.cells #[.slice xa xn xc] 22))
      clear hlt hlt2 HXI HLC HA1 HX1
      go_upto_region 7 with (at_builtin; refine wpList_append_row rfl _ _ 24 rfl w1.heap.size 22 iq (.slice none 0 0) 24 Try.underlying24 HQ0.out HQ1.out HQ2.out HQ3.out rfl _ i _ rfl (own_below HO3.out HX3.out) rfl HR3.out (by intro u hu; simp at hu; subst hu; rfl) (by have := HI31.out; show i + 1 ≤ maxLen; unfold maxLen; omega) (by have := HI31.out; show (i + 1) * 24 ≤ 140737488355328; omega) (HEY.out.trans HX3.out).size ?_; intro v3 w3 ho3 hg3)
      have HO4 := Lib.hid ho3
      have HV4 := Lib.hid ((HV3.out.below HX3.out).grown (own_below HO3.out HX3.out) hg3)
      have HE4 : Hid (Ext w1 w3) := Lib.hid (ext_own (HEY.out.trans HX3.out) (own_below HO3.out HX3.out) (Nat.le_refl _) hg3)
      clear ho3 hg3 HO2 HV HE1
      have hw1 : (i : Int) + 1 ≤ 9223372036854775807 := by have := HI31.out; omega
      have hw0 : -9223372036854775808 ≤ (i : Int) + 1 := by omega
      go_wp2_with fail
      go_roundw
      case rel => exact ⟨i + 1, _, by have := HLT.out; omega, by go_num, HO4.out, HV4.out, by rw [List.length_append, HL.out]; rfl, HE4.out⟩
      case measure => simp [intOf]; have := HI31.out; omega
    · have hge : ((cutN b : Nat) : Int) ≤ (i : Int) := by omega
      have hd : decide (i < cutN b) = false := decide_eq_false hlt
      have HIN : Hid (i = cutN b) := Lib.hid (by have := HI.out; omega)
      go_wp2_with fail
      refine bodyPost_ret (res_twoP rfl _ _) rfl ?_
      exact ⟨_, rfl, by unfold makF; rw [← HIN.out]; exact HV.out.rowB (Row1.of_own HO2.out) HL.out, HE.out.trans HE1.out⟩

set_option maxRecDepth 100000 in
set_option maxHeartbeats 8000000 in
theorem rMake_bad (key : List UInt8) (ver : Int) (b : List UInt8) (bv : Value) (w : World) (hk : key.length = 32) (hv : smallB ver = false) (hb : Row1 w bv (b.map bval)) (hle : b.length ≤ 2048) :
    Calls Try.prog 14 #[.agg (key.map bval).toArray, .int .i64 ver, bv] w fun e w' => e = .returned (.tuple #[.slice none 0 0, .int .i64 1]) ∧ Below w.heap.size w w' := by
  have HBAD : Hid (imgB ver 0 (cutAt b 0).length 64 = false) := Lib.hid (by unfold imgB; rw [hv]; rfl)
  clear hv
  obtain ⟨i0, hi, hz0, hz1, hz2⟩ := info_parts Try.info5
  have HI0 := Lib.hid hi
  have HZ0 := Lib.hid hz0
  have HZ1 := Lib.hid hz1
  have HZ2 := Lib.hid hz2
  clear hi hz0 hz1 hz2
  obtain ⟨iq, hq0, hq1, hq2, hq3⟩ := rows_info
  have HQ0 := Lib.hid hq0
  have HQ1 := Lib.hid hq1
  have HQ2 := Lib.hid hq2
  have HQ3 := Lib.hid hq3
  clear hq0 hq1 hq2 hq3
  have HKL := Lib.hid hk
  have HLE := Lib.hid hle
  have HIK := Lib.hid (num_size hk)
  have HBV := Lib.hid hb
  have HB := Lib.hid (And.intro (Blk.made w (key.map bval) 34) (Ext.alloc w (.cells (key.map bval).toArray 34)))
  go_enter Try.func14, Try.ntmps14
  go_upto_region 1 with (fail)
  obtain ⟨h0, hE⟩ := HB.out
  change Code.wp _ _ _ _ (w.alloc (.cells (key.map bval).toArray 34))
  generalize w.alloc (.cells (key.map bval).toArray 34) = wa at *
  obtain ⟨A, hA⟩ : ∃ X, X = w.heap.size := ⟨_, rfl⟩
  rw [← hA] at h0 ⊢
  have HA0 := Lib.hid h0
  have HE : Hid (Ext w wa) := Lib.hid hE
  have HO : Hid (w.heap.size = A) := Lib.hid (by omega)
  clear HB hE h0 hA
  have HCT := Lib.hid (rCut_any b bv wa (HBV.out.below HE.out))
  have e1 : cutE b = 0 := if_pos HLE.out
  have e2 : cutL b = cutF b := if_pos HLE.out
  rw [e1, e2] at HCT
  clear e1 e2 hk hb hle
  go_wp2_with fail
  refine HCT.out.mono ?_
  rintro e w1 ⟨lx, rfl, ⟨vals, hr, hlen, hxs⟩, hb⟩
  rw [cutF_length] at hlen
  obtain ⟨la, lc, hlx, -, -, -, hcell⟩ := id hr
  obtain ⟨lb, lo, hla, -, hc⟩ := hcell (by intro e; rw [e] at hlen; have := cutN_pos b; simp at hlen; omega)
  subst hla
  rw [hlen] at hlx hc
  subst hlx
  have HVL := Lib.hid hlen
  have HCC := Lib.hid hc
  have HXS : Hid (∀ j x, vals[j]? = some x → Row1 w1 x ((cutAt b j).map bval)) := Lib.hid (fun j x h => by
    refine hxs j x (cutAt b j) h ?_
    obtain ⟨hj, -⟩ := List.getElem?_eq_some_iff.1 h
    unfold cutF
    rw [List.getElem?_map, List.getElem?_range (by omega)]
    rfl)
  have HA0 := Lib.hid (ext_blk HA0.out hb)
  have HE := Lib.hid (HE.out.trans hb)
  clear hr hlen hxs hb hcell hc HCT HBV
  obtain ⟨xi, hxi⟩ : ∃ x, vals[0]? = some x := ⟨_, List.getElem?_eq_getElem (by rw [HVL.out]; exact cutN_pos b)⟩
  have HXI := Lib.hid (HXS.out 0 xi hxi)
  have HLC : Hid (w1.cell? ⟨lb, lo, none⟩ = some xi) := Lib.hid ((HCC.out 0 (cutN_pos b)).trans hxi)
  have HA1 := HA0
  have hlt : (0 : Int) < ((cutN b : Nat) : Int) := by have := cutN_pos b; omega
  have hlt2 : 0 < cutN b := cutN_pos b
  clear hxi
  go_wp2_with fail
  refine wp_loop_rounds 1 ?_
  rw [rounds_succ]
  go_upto_region 8 with (fail)
  have B0 : Ext w1 w1.drew := Ext.drew _
  refine wp_region_held_drew (S := fun w' => Ext w1 w') (by kernel_rfl) B0 (fun hHeld => ?_)
  refine wpAnyH_take (i := 0) (v := .agg ((key).map bval).toArray) rfl (by kernel_rfl) (by kernel_rfl) (by kernel_rfl) (fun _ _ _ h => h) (yieldsIf_load_mid (by rfl) _ _ rfl A 0 rfl _ _ (fun w h => bl_range HA1.out h) Try.underlying34 rfl HIK.out) hHeld ?_
  simp only [Act.put, List.getElem_toArray, List.getElem_cons_zero, List.getElem_cons_succ, List.setIfInBounds_toArray, List.set_cons_zero, List.set_cons_succ]
  refine wpAnyH_take (i := 1) (v := .int .i64 ver) rfl (by kernel_rfl) (by kernel_rfl) (by kernel_rfl) (fun _ _ _ h => h) (yi_move _ (.int .i64 ver) (by rfl) rfl rfl) hHeld ?_
  simp only [Act.put, List.getElem_toArray, List.getElem_cons_zero, List.getElem_cons_succ, List.setIfInBounds_toArray, List.set_cons_zero, List.set_cons_succ]
  refine wpAnyH_take (i := 2) (v := .int .i64 0) rfl (by kernel_rfl) (by kernel_rfl) (by kernel_rfl) (fun _ _ _ h => h) (yi_move _ (.int .i64 0) (by rfl) rfl rfl) hHeld ?_
  simp only [Act.put, List.getElem_toArray, List.getElem_cons_zero, List.getElem_cons_succ, List.setIfInBounds_toArray, List.set_cons_zero, List.set_cons_succ]
  refine wpAnyH_take (i := 3) (v := .slice (some ⟨lb, lo, none⟩) (cutN b) lc) rfl (by kernel_rfl) (by kernel_rfl) (by kernel_rfl) (fun _ _ _ h => h) (yi_move _ (.slice (some ⟨lb, lo, none⟩) (cutN b) lc) (by rfl) rfl rfl) hHeld ?_
  simp only [Act.put, List.getElem_toArray, List.getElem_cons_zero, List.getElem_cons_succ, List.setIfInBounds_toArray, List.set_cons_zero, List.set_cons_succ]
  refine wpAnyH_take (i := 4) (v := .int .i64 0) rfl (by kernel_rfl) (by kernel_rfl) (by kernel_rfl) (fun _ _ _ h => h) (yi_move _ (.int .i64 0) (by rfl) rfl rfl) hHeld ?_
  simp only [Act.put, List.getElem_toArray, List.getElem_cons_zero, List.getElem_cons_succ, List.setIfInBounds_toArray, List.set_cons_zero, List.set_cons_succ]
  refine wpAnyH_take (i := 5) (v := .pointer (some ⟨lb, lo, none⟩)) rfl (by kernel_rfl) (by kernel_rfl) (by kernel_rfl) (fun _ _ _ h => h) (yi_val (.pointer (some ⟨lb, lo, none⟩)) (by rfl) (fun w _ => by go_simp)) hHeld ?_
  simp only [Act.put, List.getElem_toArray, List.getElem_cons_zero, List.getElem_cons_succ, List.setIfInBounds_toArray, List.set_cons_zero, List.set_cons_succ]
  refine wpAnyH_take (i := 6) (v := xi) rfl (by kernel_rfl) (by kernel_rfl) (by kernel_rfl) (fun _ _ _ h => h) (yi_val xi (by rfl) (fun w h => by have hc := (Below.cell h (World.block_lt_of_cell? w1 _ HLC.out)).trans HLC.out; go_simp)) hHeld ?_
  simp only [Act.put, List.getElem_toArray, List.getElem_cons_zero, List.getElem_cons_succ, List.setIfInBounds_toArray, List.set_cons_zero, List.set_cons_succ]
  refine wpAnyH_ready (rs := [7]) (by kernel_rfl) (by simp) (AllReadyH.cons rfl (fun K hK => ?_) AllReadyH.nil)
  go_simp
  refine (rSealBlock_bad key ver 0 (cutAt b 0) xi w1.drew HKL.out (HXI.out.below B0) HBAD.out).mono ?_
  rintro e m1 ⟨rfl, b1⟩
  have N1 : Ext w1 m1 := B0.trans b1
  refine hK.out _ _ N1 (fun hHeld => ?_)
  clear hK K
  try simp only [Act.put, List.getElem_toArray, List.getElem_cons_zero, List.getElem_cons_succ, List.setIfInBounds_toArray, List.set_cons_zero, List.set_cons_succ]
  refine wpAnyH_take (i := 8) (v := .tuple #[.slice none 0 0, .int .i64 1]) rfl (by kernel_rfl) (by kernel_rfl) (by kernel_rfl) (fun _ _ _ h => h) (yi_move _ (.tuple #[.slice none 0 0, .int .i64 1]) (by rfl) rfl rfl) hHeld ?_
  simp only [Act.put, List.getElem_toArray, List.getElem_cons_zero, List.getElem_cons_succ, List.setIfInBounds_toArray, List.set_cons_zero, List.set_cons_succ]
  refine wpAnyH_take (i := 9) (v := .slice none 0 0) rfl (by kernel_rfl) (by kernel_rfl) (by kernel_rfl) (fun _ _ _ h => h) (yi_val (.slice none 0 0) (by rfl) (fun w _ => by go_simp)) hHeld ?_
  simp only [Act.put, List.getElem_toArray, List.getElem_cons_zero, List.getElem_cons_succ, List.setIfInBounds_toArray, List.set_cons_zero, List.set_cons_succ]
  refine wpAnyH_take (i := 10) (v := .int .i64 1) rfl (by kernel_rfl) (by kernel_rfl) (by kernel_rfl) (fun _ _ _ h => h) (yi_val (.int .i64 1) (by rfl) (fun w _ => by go_simp)) hHeld ?_
  simp only [Act.put, List.getElem_toArray, List.getElem_cons_zero, List.getElem_cons_succ, List.setIfInBounds_toArray, List.set_cons_zero, List.set_cons_succ]
  refine wpAnyH_take (i := 11) (v := .slice none 0 0) rfl (by kernel_rfl) (by kernel_rfl) (by kernel_rfl) (fun _ _ _ h => h) (yi_assign _ (.slice none 0 0) (by rfl) rfl rfl) hHeld ?_
  simp only [Act.put, List.getElem_toArray, List.getElem_cons_zero, List.getElem_cons_succ, List.setIfInBounds_toArray, List.set_cons_zero, List.set_cons_succ]
  refine wpAnyH_ready (rs := [12]) (by kernel_rfl) (by simp) (AllReadyH.cons rfl (fun K hK => ?_) AllReadyH.nil)
  go_simp
  refine hK.out _ _ N1 (fun hHeld => ?_)
  clear hK K
  try simp only [Act.put, List.getElem_toArray, List.getElem_cons_zero, List.getElem_cons_succ, List.setIfInBounds_toArray, List.set_cons_zero, List.set_cons_succ]
  refine wpAnyH_done (by kernel_rfl) ?_ _
  have HX := Lib.hid N1
  generalize m1 = w2 at *
  go_wp2_with fail
  refine bodyPost_ret (res_twoP rfl _ _) rfl ?_
  exact ⟨rfl, HE.out.trans HX.out⟩
set_option maxRecDepth 100000 in
set_option maxHeartbeats 8000000 in
theorem rMake_long (key : List UInt8) (ver : Int) (b : List UInt8) (bv : Value) (w : World) (hk : key.length = 32) (hb : Row1 w bv (b.map bval)) (hle : 2048 < b.length) :
    Calls Try.prog 14 #[.agg (key.map bval).toArray, .int .i64 ver, bv] w fun e w' => e = .returned (.tuple #[.slice none 0 0, .int .i64 3]) ∧ Below w.heap.size w w' := by
  have HBV := Lib.hid hb
  have HLE := Lib.hid hle
  have HB := Lib.hid (And.intro (Blk.made w (key.map bval) 34) (Ext.alloc w (.cells (key.map bval).toArray 34)))
  go_enter Try.func14, Try.ntmps14
  go_upto_region 1 with (fail)
  obtain ⟨h0, hE⟩ := HB.out
  change Code.wp _ _ _ _ (w.alloc (.cells (key.map bval).toArray 34))
  generalize w.alloc (.cells (key.map bval).toArray 34) = wa at *
  obtain ⟨A, hA⟩ : ∃ X, X = w.heap.size := ⟨_, rfl⟩
  rw [← hA] at h0 ⊢
  have HA0 := Lib.hid h0
  have HE : Hid (Ext w wa) := Lib.hid hE
  have HO : Hid (w.heap.size = A) := Lib.hid (by omega)
  clear HB hE h0 hA
  have HCT := Lib.hid (rCut_long b bv wa (HBV.out.below HE.out) HLE.out)
  clear hk hb hle
  go_wp2_with fail
  refine HCT.out.mono ?_
  rintro e w1 ⟨rfl, hb⟩
  go_wp2_with fail
  refine bodyPost_ret (res_twoP rfl _ _) rfl ?_
  exact ⟨rfl, HE.out.trans hb⟩
/-- What Make answers. -/
def makE (ver : Int) (b : List UInt8) : Int := if b.length ≤ 2048 then (if smallB ver = true then 0 else 1) else 3
def makL (key : List UInt8) (ver : Int) (b : List UInt8) : List (List UInt8) := if b.length ≤ 2048 then (if smallB ver = true then makF key ver b else []) else []
theorem rMake_any (key : List UInt8) (ver : Int) (b : List UInt8) (bv : Value) (w : World) (hk : key.length = 32) (hb : Row1 w bv (b.map bval)) :
    Calls Try.prog 14 #[.agg (key.map bval).toArray, .int .i64 ver, bv] w fun e w' => ∃ x, e = .returned (.tuple #[x, .int .i64 (makE ver b)]) ∧ RowB w' x (makL key ver b) ∧ Below w.heap.size w w' := by
  have nil : ∀ w' : World, RowB w' (.slice none 0 0) ([] : List (List UInt8)) := fun w' => ⟨[], Row1.nil _, rfl, fun i x l h1 => by simp at h1⟩
  by_cases h : b.length ≤ 2048
  · by_cases hv : smallB ver = true
    · have e1 : makE ver b = 0 := by unfold makE; rw [if_pos h, if_pos hv]
      have e2 : makL key ver b = makF key ver b := by unfold makL; rw [if_pos h, if_pos hv]
      rw [e1, e2]
      exact rMake_good key ver b bv w hk hv hb h
    · have e1 : makE ver b = 1 := by unfold makE; rw [if_pos h, if_neg hv]
      have e2 : makL key ver b = [] := by unfold makL; rw [if_pos h, if_neg hv]
      rw [e1, e2]
      refine (rMake_bad key ver b bv w hk (by simpa using hv) hb h).mono ?_
      rintro e w' ⟨rfl, g⟩
      exact ⟨_, rfl, nil _, g⟩
  · have e1 : makE ver b = 3 := if_neg h
    have e2 : makL key ver b = [] := if_neg h
    rw [e1, e2]
    refine (rMake_long key ver b bv w hk hb (by omega)).mono ?_
    rintro e w' ⟨rfl, g⟩
    exact ⟨_, rfl, nil _, g⟩

end Go.Proofs.Ytjnnhkodkbhbbaa

/- What package image must show: four contracts over the document's own answers. Each theorem names its own conditions. -/
namespace Go.Proofs.Ytjnnhkodkbhbbaa
open Go.RowKit
set_option linter.unusedVariables false
set_option linter.unusedSimpArgs false

structure ImgSaid : Prop where
  cut : ∀ (b : List UInt8) (bv : Value) (w : World), Row1 w bv (b.map bval) → b.length ≤ 5000 →
    Calls Try.prog 9 #[bv] w fun e w' => ∃ x, e = .returned (.tuple #[x, .int .i64 (cutE b)]) ∧ RowB w' x (cutL b) ∧ Below w.heap.size w w'
  sea : ∀ (key : List UInt8) (ver i : Int) (p : List UInt8) (pv : Value) (w : World), key.length = 32 → Row1 w pv (p.map bval) → p.length ≤ 5000 →
    Calls Try.prog 17 #[.agg (key.map bval).toArray, .int .i64 ver, .int .i64 i, pv] w fun e w' => ∃ x, e = .returned (.tuple #[x, .int .i64 (selE ver i p.length 64)]) ∧ w'.ownsRow w.heap.size 5 1 x (selL key ver i p).length ((selL key ver i p).map bval) ∧ Below w.heap.size w w'
  opn : ∀ (key : List UInt8) (ver i : Int) (c : List UInt8) (cv : Value) (w : World), key.length = 32 → Row1 w cv (c.map bval) → c.length ≤ 5000 →
    Calls Try.prog 15 #[.agg (key.map bval).toArray, .int .i64 ver, .int .i64 i, cv] w fun e w' => ∃ x, e = .returned (.tuple #[x, .int .i64 (opnE key ver i c)]) ∧ Row1 w' x ((opnL key ver i c).map bval) ∧ Below w.heap.size w w'
  mak : ∀ (key : List UInt8) (ver : Int) (b : List UInt8) (bv : Value) (w : World), key.length = 32 → Row1 w bv (b.map bval) → b.length ≤ 5000 →
    Calls Try.prog 13 #[.agg (key.map bval).toArray, .int .i64 ver, bv] w fun e w' => ∃ x, e = .returned (.tuple #[x, .int .i64 (makE ver b)]) ∧ RowB w' x (makL key ver b) ∧ Below w.heap.size w w'

end Go.Proofs.Ytjnnhkodkbhbbaa

/- The walks of package chacha's Block and xor. Each theorem names its own conditions. -/
namespace Go.Proofs.Ytjnnhkodkbhbbaa
open Go.RowKit
set_option linter.unusedVariables false
set_option linter.unusedSimpArgs false

theorem chaBlock_out (kb nb : List UInt8) (ctr : W32) : leB (wordsOut (chaInit kb ctr nb)) 64 = chaBlock kb ctr nb := rfl

set_option maxRecDepth 100000 in
set_option maxHeartbeats 4000000 in
theorem CBlock_num (kb nb : List UInt8) (c : Int) (w : World) (hk : kb.length = 32) (hn : nb.length = 12) (hc1 : -9223372036854775808 ≤ c) (hc2 : c ≤ 9223372036854775807) :
    Calls Try.prog 37 #[.agg (kb.map bval).toArray, .int .i64 c, .agg (nb.map bval).toArray] w fun e w' => e = .returned (.agg ((chaBlock kb (BitVec.ofInt 32 c) nb).map bval).toArray) ∧ Below w.heap.size w w' := by
  have HKL := Lib.hid hk
  have HNL := Lib.hid hn
  have HC1 := Lib.hid hc1
  have HC2 := Lib.hid hc2
  have HB := Lib.hid (boxes3 w (kb.map bval) (nb.map bval) (ints .u8 (List.replicate 64 0)) 34 44 68)
  have HIK : Hid ((Try.prog.info? 34).map (·.size) = some (kb.map bval).length) := Lib.hid (num_size hk)
  have HIN : Hid ((Try.prog.info? 44).map (·.size) = some (nb.map bval).length) := Lib.hid (nonce_size hn)
  clear hk hn hc1 hc2
  go_enter Try.func37, Try.ntmps37
  go_upto_region 1 with (fail)
  obtain ⟨H1, H2, H3, HE⟩ := HB.out
  change Code.wp _ _ _ _ (((w.alloc (.cells (kb.map bval).toArray 34)).alloc (.cells (nb.map bval).toArray 44)).alloc (.cells (ints .u8 (List.replicate 64 0)).toArray 68))
  generalize ((w.alloc (.cells (kb.map bval).toArray 34)).alloc (.cells (nb.map bval).toArray 44)).alloc (.cells (ints .u8 (List.replicate 64 0)).toArray 68) = wa at *
  obtain ⟨B, hB⟩ : ∃ B, B = w.heap.size := ⟨_, rfl⟩
  have HBW : Hid (w.heap.size ≤ B) := Lib.hid (by omega)
  rw [← hB] at H1 H2 H3 ⊢
  have H1 := Lib.hid H1
  have H2 := Lib.hid H2
  have H3 := Lib.hid H3
  have HE : Hid (Ext w wa) := Lib.hid HE
  clear hB HB
  go_wp2_with (first | (refine wpList_load_blk rfl _ _ rfl B rfl _ _ _ _ H1.out Try.underlying34 HIK.out ?_) | (refine wpList_load_blk rfl _ _ rfl (B + 1) rfl _ _ _ _ H2.out Try.underlying44 HIN.out ?_))
  refine (cstart_any kb nb c wa HKL.out HNL.out HC1.out HC2.out).mono ?_
  rintro e w5 ⟨rfl, hb⟩
  have H3 := Lib.hid (ext_blk H3.out hb)
  have HE := Lib.hid (HE.out.trans hb)
  clear hb
  have HO := Lib.hid (chaBlock_out kb nb (BitVec.ofInt 32 c))
  have HSL := Lib.hid (chaInit_length kb (BitVec.ofInt 32 c) nb)
  have HLO := Lib.hid (chaBlock_length kb (BitVec.ofInt 32 c) nb)
  generalize chaInit kb (BitVec.ofInt 32 c) nb = s at *
  go_wp2_with fail
  refine (cmixed_any s HSL.out w5).mono ?_
  rintro e w6 ⟨rfl, hb⟩
  have H3 := Lib.hid (ext_blk H3.out hb)
  have HE := Lib.hid (HE.out.trans hb)
  clear hb
  go_wp2_with fail
  refine (cbytes_any (wordsOut s) (wordsOut_length s) w6).mono ?_
  rintro e w7 ⟨rfl, hb⟩
  rw [HO.out]
  have H3 := Lib.hid (ext_blk H3.out hb)
  have HE := Lib.hid (HE.out.trans hb)
  clear hb HO
  obtain ⟨o, ho⟩ : ∃ o, o = chaBlock kb (BitVec.ofInt 32 c) nb := ⟨_, rfl⟩
  rw [← ho] at HLO ⊢
  have HO := Lib.hid ho
  have HIo : Hid ((Try.prog.info? 68).map (·.size) = some (o.map bval).length) := Lib.hid (sig_size HLO.out)
  have HLo : Hid ((o.map bval).length = (ints .u8 (List.replicate 64 0)).length) := Lib.hid (by rw [List.length_map, HLO.out, ints_length, List.length_replicate])
  clear ho
  go_wp2_with (refine wpList_store_blk rfl _ _ _ rfl (B + 1 + 1) (o.map bval) rfl rfl _ _ H3.out HLo.out HIo.out (bval_one _) ?_; intro w9 hb9 hg9)
  refine bodyPost_ret (result_blk rfl _ (B + 1 + 1) _ _ _ _ rfl hb9 Try.underlying68 HIo.out) rfl ?_
  exact ⟨by rw [HO.out], ext_grown HE.out hg9 (by have := HBW.out; omega)⟩

/-- The first k bytes of l, xored with o's, laid over cs from d on. -/
def xorK (cs : List UInt8) (d : Nat) (l o : List UInt8) : Nat → List UInt8
  | 0 => cs
  | k + 1 => (xorK cs d l o k).set (d + k) (l.getD k 0 ^^^ o.getD k 0)
theorem xorK_length (cs : List UInt8) (d : Nat) (l o : List UInt8) : ∀ k, (xorK cs d l o k).length = cs.length
  | 0 => rfl
  | k + 1 => by rw [xorK, List.length_set, xorK_length cs d l o k]
theorem xorK_getD (cs : List UInt8) (d : Nat) (l o : List UInt8) : ∀ k, d + k ≤ cs.length → ∀ i, (xorK cs d l o k).getD i 0 = if d ≤ i ∧ i < d + k then l.getD (i - d) 0 ^^^ o.getD (i - d) 0 else cs.getD i 0
  | 0, _, i => by rw [if_neg (by omega)]; rfl
  | k + 1, hk, i => by
    rw [xorK]
    by_cases e : d + k = i
    · subst e
      rw [if_pos (by omega), List.getD_eq_getElem?_getD, List.getElem?_set_self (by rw [xorK_length]; omega), show d + k - d = k from by omega]
      rfl
    · have h := xorK_getD cs d l o k (by omega) i
      rw [List.getD_eq_getElem?_getD, List.getElem?_set_ne e, ← List.getD_eq_getElem?_getD, h]
      by_cases h2 : d ≤ i ∧ i < d + k
      · rw [if_pos h2, if_pos (by omega)]
      · rw [if_neg h2, if_neg (by omega)]

set_option maxRecDepth 100000 in
set_option maxHeartbeats 8000000 in
theorem cxor_any (w0 w : World) (M d : Nat) (cs l o : List UInt8) (bv : Value) (hE : Ext w0 w) (hM : w0.heap.size ≤ M) (hb : Row1 w0 bv (l.map bval)) (hB : Blk w M (cs.map bval) 5) (ho : o.length = 64) (hl : d + l.length = cs.length) (hl0 : 0 < l.length) (hcs : cs.length ≤ 1099511627776) :
    Calls Try.prog 60 #[.slice (some ⟨M, d, none⟩) l.length l.length, bv, .agg (o.map bval).toArray] w fun e w' =>
      e = .returned (.int .i64 ((min l.length 64 : Nat) : Int)) ∧ Blk w' M ((xorK cs d l o (min l.length 64)).map bval) 5 ∧ w.grownBy w' (some M) := by
  obtain ⟨m, hm⟩ : ∃ m, m = min l.length 64 := ⟨_, rfl⟩
  rw [← hm]
  obtain ⟨v2, hr2, hs2⟩ := row_upto (P := Try.prog) Try.underlying22 Try.sizeOf5 hb m (by rw [List.length_map]; omega)
  obtain ⟨a2, c2, he2, ha1, ha2, ha3, ha4⟩ := id hr2
  have hlen2 : ((l.map bval).take m).length = m := by rw [List.length_take, List.length_map]; omega
  rw [hlen2] at he2 ha1
  obtain ⟨b3, off3, rfl, hb3, hcell⟩ := ha4 (by intro e; have h := congrArg List.length e; rw [hlen2] at h; simp at h; omega)
  obtain ⟨a, c, hv, _⟩ := id hb
  rw [List.length_map] at hv
  subst hv he2
  have HCELL : Hid (∀ k, k < m → ∀ w', Ext w0 w' → w'.cell? ⟨b3, off3 + k, none⟩ = some (.int .u8 ((l.getD k 0).toNat : Int))) := Lib.hid (fun k hk w' hx => by
    have h1 := hcell k (by rw [hlen2]; exact hk)
    rw [List.getElem?_take, if_pos hk, bval_get (by omega)] at h1
    rw [← h1]
    exact hx.cell (p := ⟨b3, off3 + k, none⟩) hb3)
  have HML : Hid (m ≤ l.length ∧ m ≤ 64 ∧ 0 < m) := Lib.hid (by omega)
  have hmin : (if (64 : Int) < (l.length : Int) then (64 : Int) else (l.length : Int)) = (m : Int) := by
    by_cases h : (64 : Int) < (l.length : Int)
    · rw [if_pos h]; omega
    · rw [if_neg h]; omega
  have HO := Lib.hid ho
  have HDL := Lib.hid hl
  have HMW := Lib.hid hM
  have HBX := Lib.hid (Blk.made w (o.map bval) 68)
  have HEX := Lib.hid (Ext.alloc w (.cells (o.map bval).toArray 68))
  have HB1 := Lib.hid (hB.alloc (.cells (o.map bval).toArray 68))
  have HMS := Lib.hid hB.lt
  have HE := Lib.hid (hE.trans HEX.out)
  have HG := Lib.hid (grown_of_below HEX.out (some M))
  have HCS := Lib.hid hcs
  clear hE hM hb hB ho hl hl0 hcs hr2 ha1 ha2 ha3 ha4 hcell hb3 hm hlen2 HEX
  go_enter Try.func60, Try.ntmps60
  go_upto_region 1 with (fail)
  change Code.wp _ _ _ _ (w.alloc (.cells (o.map bval).toArray 68))
  generalize w.alloc (.cells (o.map bval).toArray 68) = wa at *
  obtain ⟨O, hO⟩ : ∃ O, O = w.heap.size := ⟨_, rfl⟩
  rw [← hO] at HBX HMS ⊢
  clear hO
  go_wp2_with fail
  go_loopw [17] (fun iv wr => ∃ (k : Nat), k ≤ m ∧ iv = .int .i64 (k : Int) ∧ Blk wr M ((xorK cs d l o k).map bval) 5 ∧ Blk wr O (o.map bval) 68 ∧ Ext w0 wr ∧ w.grownBy wr (some M)) (fun iv _ => m - (intOf iv).toNat)
  case atStart => exact ⟨0, by omega, rfl, HB1.out, HBX.out, HE.out, HG.out⟩
  case round =>
    clear HB1 HBX HE HG
    obtain ⟨k, hk, rfl, h1, h2, hE, hG⟩ := hrel
    have k0 : (0 : Int) ≤ (k : Int) := Int.natCast_nonneg _
    by_cases hlk : k < m
    · have k1 : (k : Int) < (m : Int) := by omega
      have k2 : (k : Int) < 64 := by have := HML.out; omega
      have k3 : (k : Int) < (l.length : Int) := by have := HML.out; omega
      have e1 := HCELL.out k hlk wr hE
      have e2 := h2.cell k
      rw [bval_get (by rw [HO.out]; omega)] at e2
      obtain ⟨u3, e3⟩ : ∃ u, wr.cell? ⟨M, d + k, none⟩ = some u := ⟨_, by rw [h1.cell, bval_get (by rw [xorK_length]; have := HDL.out; omega)]⟩
      have f3 := h1.free (d + k)
      have x1 := xor_u8 (l.getD k 0) (o.getD k 0)
      have HX : Hid (Blk (wr.setCell ⟨M, d + k, none⟩ (bval (l.getD k 0 ^^^ o.getD k 0))) M ((xorK cs d l o (k + 1)).map bval) 5) := Lib.hid (by rw [xorK, List.map_set]; exact h1.set _ _)
      have H2 := Lib.hid (h2.far (a := ⟨M, d + k, none⟩) (by have := HMS.out; simp; omega) (bval (l.getD k 0 ^^^ o.getD k 0)))
      have HE : Hid (Ext w0 (wr.setCell ⟨M, d + k, none⟩ (bval (l.getD k 0 ^^^ o.getD k 0)))) := Lib.hid (Below.setCell hE HMW.out _)
      have HG := Lib.hid (grownBy_set hG (d + k) (bval (l.getD k 0 ^^^ o.getD k 0)))
      clear h1 h2 hE hG
      unfold bval at HX H2 HE HG
      generalize l.getD k 0 ^^^ o.getD k 0 = z at *
      generalize l.getD k 0 = y1 at *
      generalize o.getD k 0 = y2 at *
      change wr.cell? ⟨O, k, none⟩ = some (.int .u8 (y2.toNat : Int)) at e2
      go_wp2_with fail
      have k63 : (k : Int) + 1 ≤ 9223372036854775807 := by omega
      go_wp2_with fail
      go_roundw
      case rel => exact ⟨k + 1, by omega, by go_num, HX.out, H2.out, HE.out, HG.out⟩
      case measure => simp [intOf]; omega
    · have hkm : k = m := by omega
      subst hkm
      go_wp2_with fail
      go_ret
      exact ⟨rfl, h1, hG⟩

end Go.Proofs.Ytjnnhkodkbhbbaa

/- The walk of package chacha's Turn. Each theorem names its own conditions. -/
namespace Go.Proofs.Ytjnnhkodkbhbbaa
open Go.RowKit
set_option linter.unusedVariables false
set_option linter.unusedSimpArgs false

/-- The first d bytes turned, noughts behind them. -/
def chaZ (kb : List UInt8) (c : Int) (nb b : List UInt8) (d : Nat) : List UInt8 := (List.range b.length).map fun i => if i < d then b.getD i 0 ^^^ chaByte kb c nb i else 0
theorem chaZ_length (kb : List UInt8) (c : Int) (nb b : List UInt8) (d : Nat) : (chaZ kb c nb b d).length = b.length := by simp [chaZ]
theorem chaZ_getD (kb : List UInt8) (c : Int) (nb b : List UInt8) (d : Nat) {i : Nat} (h : i < b.length) : (chaZ kb c nb b d).getD i 0 = if i < d then b.getD i 0 ^^^ chaByte kb c nb i else 0 := by
  simp [chaZ, List.getD, h]
theorem zB_getD (n i : Nat) : (zB n).getD i 0 = 0 := by
  unfold zB
  rw [List.getD_eq_getElem?_getD, List.getElem?_replicate]
  by_cases h : i < n
  · rw [if_pos h]; rfl
  · rw [if_neg h]; rfl
theorem chaZ_zero (kb : List UInt8) (c : Int) (nb b : List UInt8) : chaZ kb c nb b 0 = zB b.length := by
  apply bytes_ext (by rw [chaZ_length, zB_length])
  intro i hi
  rw [chaZ_length] at hi
  rw [chaZ_getD _ _ _ _ _ hi, if_neg (by omega), zB_getD]
theorem chaZ_full (kb : List UInt8) (c : Int) (nb b : List UInt8) (d : Nat) (h : b.length ≤ d) : chaZ kb c nb b d = chaTurn kb c nb b := by
  apply bytes_ext (by rw [chaZ_length, chaTurn_length])
  intro i hi
  rw [chaZ_length] at hi
  rw [chaZ_getD _ _ _ _ _ hi, if_pos (by omega), chaTurn_getD _ _ _ _ hi]
theorem chaZ_step (kb : List UInt8) (c : Int) (nb b o : List UInt8) (j : Nat) (ho : o = chaBlock kb (BitVec.ofInt 32 (c + (j : Int))) nb) (h : 64 * j < b.length) :
    xorK (chaZ kb c nb b (64 * j)) (64 * j) (b.drop (64 * j)) o (min (b.drop (64 * j)).length 64) = chaZ kb c nb b (min (64 * (j + 1)) b.length) := by
  have hdl : (b.drop (64 * j)).length = b.length - 64 * j := List.length_drop
  apply bytes_ext (by rw [xorK_length, chaZ_length, chaZ_length])
  intro i hi
  rw [xorK_length, chaZ_length] at hi
  rw [xorK_getD _ _ _ _ _ (by rw [chaZ_length, hdl]; omega), chaZ_getD _ _ _ _ _ hi, chaZ_getD _ _ _ _ _ hi, hdl]
  by_cases h1 : i < 64 * j
  · rw [if_neg (by omega), if_pos h1, if_pos (by omega)]
  · by_cases h2 : i < 64 * (j + 1)
    · rw [if_pos (by omega), if_pos (by omega)]
      have e1 : (b.drop (64 * j)).getD (i - 64 * j) 0 = b.getD i 0 := by
        rw [List.getD_eq_getElem?_getD, List.getD_eq_getElem?_getD, List.getElem?_drop, show 64 * j + (i - 64 * j) = i from by omega]
      have e2 : o.getD (i - 64 * j) 0 = chaByte kb c nb i := by
        unfold chaByte
        rw [ho, show i / 64 = j from by omega, show i % 64 = i - 64 * j from by omega]
      rw [e1, e2]
    · rw [if_neg (by omega), if_neg h1, if_neg (by omega)]
theorem ctr_next (c : Int) (j : Nat) : BitVec.ofInt 32 (c + (j : Int)) + 1#32 = BitVec.ofInt 32 (c + ((j + 1 : Nat) : Int)) := by
  apply BitVec.eq_of_toInt_eq
  rw [BitVec.toInt_add, BitVec.toInt_ofInt, BitVec.toInt_ofInt]
  have e : (1#32).toInt = 1 := by decide
  rw [e, Int.bmod_add_bmod]
  congr 1
  omega
theorem cut_tailL {P : Program} {t e : TypeId} (ht : P.underlying t = some (.slice e)) (hs : ∀ w, (sizeOf e).run P w = .ok 1 w) (M n i : Nat) (h : i < n) (w : World) :
    (Instr.sliceAt t (.slice (some ⟨M, 0, none⟩) n n) (some (.int .i64 (i : Int))) none none).run P w = .ok (.slice (some ⟨M, i, none⟩) (n - i) (n - i)) w := by
  have e2 : P.elem t = e := by unfold Program.elem; rw [ht]
  have ht2 : P.underlying t = some (.slice (P.elem t)) := by rw [e2]; exact ht
  rw [run_sliceAt_slice w t _ _ _ _ ht2, run_slice_l (ht := ht2) (kl := .i64) (l := (i : Int)) (h0 := by omega) (h1 := by omega), e2, hs]
  simp [sliced, Addr.add, show ¬ n = i by omega]
  omega

set_option maxRecDepth 100000 in
set_option maxHeartbeats 8000000 in
theorem CTurn_num (kb nb b : List UInt8) (bv : Value) (c : Int) (w : World) (hk : kb.length = 32) (hn : nb.length = 12) (hb : Row1 w bv (b.map bval)) (hbl : b.length ≤ 1099511627776) (hc1 : -9223372036854775808 ≤ c) (hc2 : c ≤ 9223372036854775807) :
    Calls Try.prog 41 #[.agg (kb.map bval).toArray, .int .i64 c, .agg (nb.map bval).toArray, bv] w fun e w' => ∃ x, e = .returned x ∧ w'.ownsRow w.heap.size 5 1 x b.length ((chaTurn kb c nb b).map bval) ∧ Below w.heap.size w w' := by
  obtain ⟨i0, hi0, hz0, hz1, hz2⟩ := info_parts Try.info5
  obtain ⟨a, cap, hv, _⟩ := id hb
  rw [List.length_map] at hv
  subst hv
  have HI0 := Lib.hid hi0
  have HZ0 := Lib.hid hz0
  have HZ1 := Lib.hid hz1
  have HZ2 := Lib.hid hz2
  have HKL := Lib.hid hk
  have HNL := Lib.hid hn
  have HC1 := Lib.hid hc1
  have HC2 := Lib.hid hc2
  have HBL := Lib.hid hbl
  have HR := Lib.hid hb
  have HB := Lib.hid (boxes2 w (kb.map bval) (nb.map bval) 34 44)
  have HIK : Hid ((Try.prog.info? 34).map (·.size) = some (kb.map bval).length) := Lib.hid (num_size hk)
  have HIN : Hid ((Try.prog.info? 44).map (·.size) = some (nb.map bval).length) := Lib.hid (nonce_size hn)
  have HSZ : Hid (((w.alloc (.cells (kb.map bval).toArray 34)).alloc (.cells (nb.map bval).toArray 44)).heap.size = w.heap.size + 1 + 1) := Lib.hid (by simp)
  clear hk hn hc1 hc2 hbl hb hi0 hz0 hz1 hz2
  go_enter Try.func41, Try.ntmps41
  go_upto_region 1 with (fail)
  obtain ⟨H1, H2, HE⟩ := HB.out
  change Code.wp _ _ _ _ ((w.alloc (.cells (kb.map bval).toArray 34)).alloc (.cells (nb.map bval).toArray 44))
  generalize (w.alloc (.cells (kb.map bval).toArray 34)).alloc (.cells (nb.map bval).toArray 44) = wa at *
  have hmk := run_make_zeros wa 22 5 Try.underlying22 i0 HI0.out HZ0.out HZ1.out HZ2.out b.length (by have := HBL.out; omega)
  have HMA := Blk.made wa ((zB b.length).map bval) 5
  have HEM := Ext.alloc wa (.cells ((zB b.length).map bval).toArray 5)
  have H1 := Lib.hid (ext_blk H1 HEM)
  have H2 := Lib.hid (ext_blk H2 HEM)
  have HE : Hid (Ext w _) := Lib.hid (Ext.trans (b := wa) HE HEM)
  have HM := Lib.hid HMA
  clear HMA HEM HB
  go_upto_region 2 with (fail)
  change Code.wp _ _ _ _ (wa.alloc (.cells ((zB b.length).map bval).toArray 5))
  clear hmk
  generalize wa.alloc (.cells ((zB b.length).map bval).toArray 5) = w2 at *
  obtain ⟨M, hM⟩ : ∃ M, M = wa.heap.size := ⟨_, rfl⟩
  have HMW : Hid (w.heap.size ≤ M) := Lib.hid (by rw [hM, HSZ.out]; omega)
  rw [← hM] at HM ⊢
  obtain ⟨K, hK⟩ : ∃ K, K = w.heap.size := ⟨_, rfl⟩
  rw [← hK] at H1 H2 ⊢
  clear hM hK HSZ
  go_wp2_with (first | (refine wpList_load_blk rfl _ _ rfl K rfl _ _ _ _ H1.out Try.underlying34 HIK.out ?_) | (refine wpList_load_blk rfl _ _ rfl (K + 1) rfl _ _ _ _ H2.out Try.underlying44 HIN.out ?_))
  refine (cstart_any kb nb c w2 HKL.out HNL.out HC1.out HC2.out).mono ?_
  rintro e w5 ⟨rfl, hb⟩
  have HM := Lib.hid (ext_blk HM.out hb)
  have HE := Lib.hid (HE.out.trans hb)
  clear hb H1 H2
  obtain ⟨s, hs⟩ : ∃ s, s = chaInit kb (BitVec.ofInt 32 c) nb := ⟨_, rfl⟩
  rw [← hs]
  have HSS := Lib.hid hs
  have HSL : Hid (s.length = 16) := Lib.hid (by rw [hs]; exact chaInit_length _ _ _)
  clear hs
  have HXB := Lib.hid (Blk.made w5 (ints .u32 (List.replicate 16 0)) 77)
  have HXA := Lib.hid (Ext.alloc w5 (.cells (ints .u32 (List.replicate 16 0)).toArray 77))
  have HML := Lib.hid HM.out.lt
  have HIs := Lib.hid (words_size HSL.out)
  have HLs : Hid ((ints .u32 (ws s)).length = (ints .u32 (List.replicate 16 0)).length) := Lib.hid (by rw [ints_length, ws_length, HSL.out, ints_length, List.length_replicate])
  go_upto_region 3 with (refine wpList_store_blk rfl _ _ _ rfl w5.heap.size (ints .u32 (ws s)) rfl rfl _ _ HXB.out HLs.out HIs.out (ints_one _ _) ?_; intro w7 hb7 hg7)
  have HX := Lib.hid hb7
  have HM := Lib.hid ((HM.out.below HXA.out).grown hg7 (fun e => by have h := Option.some.inj e; have := HML.out; omega))
  have HE := Lib.hid (ext_grown (HE.out.trans HXA.out) hg7 HE.out.size)
  have HMX : Hid (M ≠ w5.heap.size) := Lib.hid (by have := HML.out; omega)
  have HXW : Hid (w.heap.size ≤ w5.heap.size) := Lib.hid (by have := HML.out; have := HMW.out; omega)
  obtain ⟨X, hX⟩ : ∃ X, X = w5.heap.size := ⟨_, rfl⟩
  rw [← hX] at HX HMX HXW ⊢
  clear hX hb7 hg7 HXB HXA HML HLs HIs
  rw [HSS.out] at HX
  clear HSL HSS
  go_wp2_with fail
  go_loopw [11] (fun dv wr => ∃ (j : Nat), dv = .int .i64 ((min (64 * j) b.length : Nat) : Int) ∧ Blk wr M ((chaZ kb c nb b (min (64 * j) b.length)).map bval) 5 ∧ Blk wr X (ints .u32 (ws (chaInit kb (BitVec.ofInt 32 (c + (j : Int))) nb))) 77 ∧ Ext w wr) (fun dv _ => b.length - (intOf dv).toNat)
  case atStart => exact ⟨0, by simp, by rw [show min (64 * 0) b.length = 0 from by omega, chaZ_zero]; exact HM.out, by rw [show c + ((0 : Nat) : Int) = c from by omega]; exact HX.out, HE.out⟩
  case round =>
    clear HM HX HE
    obtain ⟨j, rfl, hm, hx, hE⟩ := hrel
    by_cases hlt : 64 * j < b.length
    · have hmn : min (64 * j) b.length = 64 * j := by omega
      have hlt2 : ((64 * j : Nat) : Int) < (b.length : Int) := by omega
      rw [hmn] at hm ⊢
      obtain ⟨l, hl⟩ : ∃ l, l = b.drop (64 * j) := ⟨_, rfl⟩
      obtain ⟨s, hs⟩ : ∃ s, s = chaInit kb (BitVec.ofInt 32 (c + (j : Int))) nb := ⟨_, rfl⟩
      obtain ⟨o, ho⟩ : ∃ o, o = chaBlock kb (BitVec.ofInt 32 (c + (j : Int))) nb := ⟨_, rfl⟩
      have HOUT : Hid (leB (wordsOut s) 64 = o) := Lib.hid (by rw [hs, ho]; exact chaBlock_out _ _ _)
      have HOL : Hid (o.length = 64) := Lib.hid (by rw [ho]; exact chaBlock_length _ _ _)
      have HSL : Hid (s.length = 16) := Lib.hid (by rw [hs]; exact chaInit_length _ _ _)
      have hstep := chaZ_step kb c nb b o j ho hlt
      rw [← hl] at hstep
      have HSTEP := Lib.hid hstep
      have HNEXT : Hid (s.set 12 (BitVec.ofInt 32 (c + (j : Int)) + 1#32) = chaInit kb (BitVec.ofInt 32 (c + ((j + 1 : Nat) : Int))) nb) := Lib.hid (by rw [hs, ctr_next]; rfl)
      have HC12 : Hid (s.getD 12 0#32 = BitVec.ofInt 32 (c + (j : Int))) := Lib.hid (by rw [hs]; rfl)
      rw [← hs] at hx
      have HIX := Lib.hid (words_size HSL.out)
      have HDD : Hid (l.length = b.length - 64 * j) := Lib.hid (by rw [hl]; exact List.length_drop)
      have HDL : Hid (64 * j + l.length = (chaZ kb c nb b (64 * j)).length) := Lib.hid (by rw [chaZ_length, HDD.out]; omega)
      have HDP : Hid (0 < l.length) := Lib.hid (by rw [HDD.out]; omega)
      have HZL : Hid ((chaZ kb c nb b (64 * j)).length ≤ 1099511627776) := Lib.hid (by rw [chaZ_length]; exact HBL.out)
      have HADD : Hid (IntKind.i64.wrap (((64 * j : Nat) : Int) + ((min l.length 64 : Nat) : Int)) = ((min (64 * (j + 1)) b.length : Nat) : Int)) := Lib.hid (by have := HBL.out; rw [IntKind.wrap_i64, HDD.out]; omega)
      have HCUT : Hid (∀ wx, (Instr.sliceAt 22 (.slice (some ⟨M, 0, none⟩) b.length b.length) (some (.int .i64 ((64 * j : Nat) : Int))) none none).run Try.prog wx = .ok (.slice (some ⟨M, 64 * j, none⟩) l.length l.length) wx) := Lib.hid (fun wx => by rw [HDD.out]; exact cut_tailL Try.underlying22 Try.sizeOf5 M b.length (64 * j) hlt wx)
      obtain ⟨bv2, hr2, hc2⟩ := row_cut (P := Try.prog) Try.underlying22 Try.sizeOf5 HR.out (64 * j) (by rw [List.length_map]; omega)
      rw [← List.map_drop, ← hl] at hr2
      have HR2 := Lib.hid hr2
      have HCUT2 := Lib.hid hc2
      have HM := Lib.hid hm
      have HX := Lib.hid hx
      have HE := Lib.hid hE
      have HLT := Lib.hid hlt
      clear hm hx hE hmn hlt hs ho hr2 hc2 hl hstep
      go_upto_region 5 with (fail)
      have B0 : Ext w wr.drew ∧ Blk wr.drew X (ints .u32 (ws s)) 77 := ⟨HE.out.trans (Ext.drew _), HX.out.below (Ext.drew _)⟩
      refine wp_region_held_drew (S := fun w' => Ext w w' ∧ Blk w' X (ints .u32 (ws s)) 77) (by kernel_rfl) B0 (fun hHeld => ?_)
      refine wpAnyH_take (i := 0) (v := .int .i64 ((64 * j : Nat) : Int)) rfl (by kernel_rfl) (by kernel_rfl) (by kernel_rfl) (fun _ _ _ h => h) (yi_move _ (.int .i64 ((64 * j : Nat) : Int)) (by rfl) rfl rfl) hHeld ?_
      simp only [Act.put, List.getElem_toArray, List.getElem_cons_zero, List.getElem_cons_succ, List.setIfInBounds_toArray, List.set_cons_zero, List.set_cons_succ]
      refine wpAnyH_take (i := 1) (v := .slice (some ⟨M, 0, none⟩) b.length b.length) rfl (by kernel_rfl) (by kernel_rfl) (by kernel_rfl) (fun _ _ _ h => h) (yi_move _ (.slice (some ⟨M, 0, none⟩) b.length b.length) (by rfl) rfl rfl) hHeld ?_
      simp only [Act.put, List.getElem_toArray, List.getElem_cons_zero, List.getElem_cons_succ, List.setIfInBounds_toArray, List.set_cons_zero, List.set_cons_succ]
      refine wpAnyH_take (i := 2) (v := .int .i64 ((64 * j : Nat) : Int)) rfl (by kernel_rfl) (by kernel_rfl) (by kernel_rfl) (fun _ _ _ h => h) (yi_move _ (.int .i64 ((64 * j : Nat) : Int)) (by rfl) rfl rfl) hHeld ?_
      simp only [Act.put, List.getElem_toArray, List.getElem_cons_zero, List.getElem_cons_succ, List.setIfInBounds_toArray, List.set_cons_zero, List.set_cons_succ]
      refine wpAnyH_take (i := 3) (v := .slice (some ⟨M, 64 * j, none⟩) l.length l.length) rfl (by kernel_rfl) (by kernel_rfl) (by kernel_rfl) (fun _ _ _ h => h) (yi_slice _ _ _ _ (.slice (some ⟨M, 0, none⟩) b.length b.length) (.slice (some ⟨M, 64 * j, none⟩) l.length l.length) (some (.int .i64 ((64 * j : Nat) : Int))) none (by rfl) rfl rfl rfl rfl HCUT.out) hHeld ?_
      simp only [Act.put, List.getElem_toArray, List.getElem_cons_zero, List.getElem_cons_succ, List.setIfInBounds_toArray, List.set_cons_zero, List.set_cons_succ]
      refine wpAnyH_take (i := 4) (v := .slice a b.length cap) rfl (by kernel_rfl) (by kernel_rfl) (by kernel_rfl) (fun _ _ _ h => h) (yi_move _ (.slice a b.length cap) (by rfl) rfl rfl) hHeld ?_
      simp only [Act.put, List.getElem_toArray, List.getElem_cons_zero, List.getElem_cons_succ, List.setIfInBounds_toArray, List.set_cons_zero, List.set_cons_succ]
      refine wpAnyH_take (i := 5) (v := .int .i64 ((64 * j : Nat) : Int)) rfl (by kernel_rfl) (by kernel_rfl) (by kernel_rfl) (fun _ _ _ h => h) (yi_move _ (.int .i64 ((64 * j : Nat) : Int)) (by rfl) rfl rfl) hHeld ?_
      simp only [Act.put, List.getElem_toArray, List.getElem_cons_zero, List.getElem_cons_succ, List.setIfInBounds_toArray, List.set_cons_zero, List.set_cons_succ]
      refine wpAnyH_take (i := 6) (v := bv2) rfl (by kernel_rfl) (by kernel_rfl) (by kernel_rfl) (fun _ _ _ h => h) (yi_slice _ _ _ _ (.slice a b.length cap) bv2 (some (.int .i64 ((64 * j : Nat) : Int))) none (by rfl) rfl rfl rfl rfl HCUT2.out) hHeld ?_
      simp only [Act.put, List.getElem_toArray, List.getElem_cons_zero, List.getElem_cons_succ, List.setIfInBounds_toArray, List.set_cons_zero, List.set_cons_succ]
      refine wpAnyH_take (i := 7) (v := .agg (ints .u32 (ws s)).toArray) rfl (by kernel_rfl) (by kernel_rfl) (by kernel_rfl) (fun _ _ _ h => h) (yieldsIf_load_mid (by rfl) _ _ rfl X 0 rfl _ _ (fun w h => Blk.range h.2) Try.underlying77 rfl HIX.out) hHeld ?_
      simp only [Act.put, List.getElem_toArray, List.getElem_cons_zero, List.getElem_cons_succ, List.setIfInBounds_toArray, List.set_cons_zero, List.set_cons_succ]
      refine wpAnyH_ready (rs := [8]) (by kernel_rfl) (by simp) (AllReadyH.cons rfl (fun K hK => ?_) AllReadyH.nil)
      go_simp
      refine (cmixed_any s HSL.out _).mono ?_
      rintro e m1 ⟨rfl, b1⟩
      have N1 : Ext w m1 ∧ Blk m1 X (ints .u32 (ws s)) 77 := ⟨B0.1.trans b1, ext_blk B0.2 b1⟩
      refine hK.out _ _ N1 (fun hHeld => ?_)
      clear hK K
      try simp only [Act.put, List.getElem_toArray, List.getElem_cons_zero, List.getElem_cons_succ, List.setIfInBounds_toArray, List.set_cons_zero, List.set_cons_succ]
      refine wpAnyH_ready (rs := [9]) (by kernel_rfl) (by simp) (AllReadyH.cons rfl (fun K hK => ?_) AllReadyH.nil)
      go_simp
      refine (cbytes_any (wordsOut s) (wordsOut_length s) _).mono ?_
      rintro e m2 ⟨rfl, b2⟩
      rw [HOUT.out]
      have N2 : Ext w m2 ∧ Blk m2 X (ints .u32 (ws s)) 77 := ⟨N1.1.trans b2, ext_blk N1.2 b2⟩
      refine hK.out _ _ N2 (fun hHeld => ?_)
      clear hK K
      try simp only [Act.put, List.getElem_toArray, List.getElem_cons_zero, List.getElem_cons_succ, List.setIfInBounds_toArray, List.set_cons_zero, List.set_cons_succ]
      refine wpAnyH_ready (rs := [10]) (by kernel_rfl) (by simp) (AllReadyH.cons rfl (fun K hK => ?_) AllReadyH.nil)
      go_simp
      refine (cxor_any w m2 M (64 * j) (chaZ kb c nb b (64 * j)) l o bv2 N2.1 HMW.out HR2.out (ext_blk (ext_blk (HM.out.below (Ext.drew _)) b1) b2) HOL.out HDL.out HDP.out HZL.out).mono ?_
      rintro e m3 ⟨rfl, hb3, hg3⟩
      rw [HSTEP.out] at hb3
      have N3 : Ext w m3 ∧ Blk m3 X (ints .u32 (ws s)) 77 := ⟨ext_grown N2.1 hg3 HMW.out, N2.2.grown hg3 (fun e => HMX.out (Option.some.inj e))⟩
      refine hK.out _ _ N3 (fun hHeld => ?_)
      clear hK K
      try simp only [Act.put, List.getElem_toArray, List.getElem_cons_zero, List.getElem_cons_succ, List.setIfInBounds_toArray, List.set_cons_zero, List.set_cons_succ]
      refine wpAnyH_take (i := 11) (v := .int .i64 ((min (64 * (j + 1)) b.length : Nat) : Int)) rfl (by kernel_rfl) (by kernel_rfl) (by kernel_rfl) (fun _ _ _ h => h) (yi_add .i64 _ _ _ _ _ _ _ HADD.out (by rfl) rfl rfl rfl) hHeld ?_
      simp only [Act.put, List.getElem_toArray, List.getElem_cons_zero, List.getElem_cons_succ, List.setIfInBounds_toArray, List.set_cons_zero, List.set_cons_succ]
      refine wpAnyH_ready (rs := [12]) (by kernel_rfl) (by simp) (AllReadyH.cons rfl (fun K hK => ?_) AllReadyH.nil)
      go_simp
      refine hK.out _ _ N3 (fun hHeld => ?_)
      clear hK K
      try simp only [Act.put, List.getElem_toArray, List.getElem_cons_zero, List.getElem_cons_succ, List.setIfInBounds_toArray, List.set_cons_zero, List.set_cons_succ]
      refine wpAnyH_done (by kernel_rfl) ?_ _
      have HM1 := Lib.hid hb3
      have HX1 := Lib.hid N3.2
      have HE1 := Lib.hid N3.1
      clear hb3 hg3 N1 N2 N3 b1 b2 B0 HM HX HE HADD HCUT HCUT2 HR2 HSTEP HOUT HDL HDP HZL HIX HDD
      have c0 := word_cell HX1.out (i := 12) (by rw [HSL.out]; omega)
      rw [HC12.out] at c0
      have f0 := HX1.out.free 12
      obtain ⟨z, hz⟩ : ∃ z, z = BitVec.ofInt 32 (c + (j : Int)) := ⟨_, rfl⟩
      rw [← hz] at HNEXT c0
      have hw1 : IntKind.u32.wrap (wi z + 1) = wi (z + 1#32) := wi_add z 1#32
      have hw2 := hw1
      rw [IntKind.wrap_u32] at hw2
      have HXS := set_word HX1.out 12 (wi (z + 1#32)) (z + 1#32) rfl
      rw [HNEXT.out] at HXS
      have HXS := Lib.hid HXS
      have HMS := Lib.hid (HM1.out.far (a := ⟨X, 12, none⟩) (fun e => HMX.out e.symm) (.int .u32 (wi (z + 1#32))))
      have HES : Hid (Ext w (m3.setCell ⟨X, 12, none⟩ (.int .u32 (wi (z + 1#32))))) := Lib.hid (far_ext HE1.out HXW.out)
      clear HM1 HX1 HE1 HNEXT HC12 hz
      generalize z + 1#32 = z1 at *
      go_wp2_with fail
      go_roundw
      case rel =>
        exact ⟨j + 1, rfl, HMS.out, HXS.out, HES.out⟩
      case measure => have := HLT.out; simp [intOf]; omega
    · have hmn : min (64 * j) b.length = b.length := by omega
      have hlt2 : ¬ ((b.length : Int) < (b.length : Int)) := by omega
      rw [hmn] at hm ⊢
      rw [chaZ_full kb c nb b _ (Nat.le_refl _)] at hm
      have HMF := Lib.hid hm
      have HE := Lib.hid hE
      clear hm hE hx hmn hlt
      go_wp2_with fail
      go_ret
      exact ⟨_, rfl, own_blk HMF.out HMW.out (by rw [List.length_map, chaTurn_length]) (by have := HBL.out; unfold maxLen; omega), HE.out⟩

end Go.Proofs.Ytjnnhkodkbhbbaa

/- The walks of package aead's filling, length and turned. Each theorem names its own conditions. -/
namespace Go.Proofs.Ytjnnhkodkbhbbaa
open Go.RowKit
set_option linter.unusedVariables false
set_option linter.unusedSimpArgs false

theorem z16_zB (n : Nat) : z16 n = zB ((16 - n % 16) % 16) := rfl

set_option maxRecDepth 100000 in
set_option maxHeartbeats 4000000 in
theorem afilling_any (v : Value) (l : List UInt8) (w : World) (hv : Row1 w v (l.map bval)) :
    Calls Try.prog 39 #[v] w fun e w' => ∃ x, e = .returned x ∧ w'.ownsRow w.heap.size 5 1 x (z16 l.length).length ((z16 l.length).map bval) ∧ Below w.heap.size w w' := by
  obtain ⟨i0, hi0, hz0, hz1, hz2⟩ := info_parts Try.info5
  obtain ⟨a, cap, rfl, h1, h2, _⟩ := id hv
  rw [List.length_map] at h1 ⊢
  unfold maxLen at h2
  rw [z16_length, z16_zB]
  obtain ⟨r, hr⟩ : ∃ r, r = l.length % 16 := ⟨_, rfl⟩
  obtain ⟨q, hq⟩ : ∃ q, q = 16 - r := ⟨_, rfl⟩
  obtain ⟨k, hk⟩ : ∃ k, k = q % 16 := ⟨_, rfl⟩
  rw [← hr, ← hq, ← hk]
  have e1 : Int.tmod ((l.length : Nat) : Int) 16 = (r : Int) := by rw [Int.tmod_eq_emod_of_nonneg (by omega)]; omega
  have e1' : ((l.length : Nat) : Int) % 16 = (r : Int) := by omega
  have e2 : (16 : Int) - (r : Int) = (q : Int) := by omega
  have e3 : Int.tmod (q : Int) 16 = (k : Int) := by rw [Int.tmod_eq_emod_of_nonneg (by omega)]; omega
  have e3' : (q : Int) % 16 = (k : Int) := by omega
  have q0 : (0 : Int) ≤ (q : Int) := Int.natCast_nonneg _
  have q1 : (q : Int) ≤ 16 := by omega
  have k0 : (0 : Int) ≤ (k : Int) := Int.natCast_nonneg _
  have hmk := run_make_zeros w 22 5 Try.underlying22 i0 hi0 hz0 hz1 hz2 k (by omega)
  have HO : Hid ((w.alloc (.cells ((zB k).map bval).toArray 5)).ownsRow w.heap.size 5 1 (.slice (some ⟨w.heap.size, 0, none⟩) k k) k ((zB k).map bval)) := Lib.hid (own_made _ _ _ _ _ _ rfl (by rw [List.length_map, zB_length]) (by unfold maxLen; omega) (Nat.le_refl _))
  clear hi0 hz0 hz1 hz2 hr hq hk hv
  go_enter Try.func39, Try.ntmps39
  go_wp2_with fail
  go_ret
  exact ⟨_, rfl, HO.out, Ext.alloc _ _⟩

set_option maxRecDepth 100000 in
set_option maxHeartbeats 4000000 in
theorem alength_any (v : Value) (l : List UInt8) (w : World) (hv : Row1 w v (l.map bval)) :
    Calls Try.prog 40 #[v] w fun e w' => ∃ x, e = .returned x ∧ w'.ownsRow w.heap.size 5 1 x 8 ((bytesN 8 l.length).map bval) ∧ Below w.heap.size w w' := by
  obtain ⟨i0, hi0, hz0, hz1, hz2⟩ := info_parts Try.info5
  obtain ⟨a, cap, rfl, h1, h2, _⟩ := id hv
  rw [List.length_map] at h1 ⊢
  unfold maxLen at h2
  generalize l.length = n at *
  have hmk := run_make_zeros w 22 5 Try.underlying22 i0 hi0 hz0 hz1 hz2 8 (by omega)
  rw [show ((8 : Nat) : Int) = 8 from rfl] at hmk
  have HMA : Hid (Blk (w.alloc (.cells ((zB 8).map bval).toArray 5)) w.heap.size ((fill 8 (bytesN 8 n) 0).map bval) 5) := Lib.hid (by rw [fill_zero]; exact Blk.made w ((zB 8).map bval) 5)
  have HEM : Hid (Ext w (w.alloc (.cells ((zB 8).map bval).toArray 5))) := Lib.hid (Ext.alloc _ _)
  clear hi0 hz0 hz1 hz2 hv
  go_enter Try.func40, Try.ntmps40
  go_upto_region 2 with (fail)
  change Code.wp _ _ _ _ (w.alloc (.cells ((zB 8).map bval).toArray 5))
  clear hmk
  generalize w.alloc (.cells ((zB 8).map bval).toArray 5) = w1 at *
  obtain ⟨M, hM⟩ : ∃ M, M = w.heap.size := ⟨_, rfl⟩
  have HMW : Hid (w.heap.size = M) := Lib.hid hM.symm
  rw [← hM] at HMA ⊢
  clear hM
  go_wp2_with fail
  go_loopw [8] (fun iv wr => ∃ (j : Nat), j ≤ 8 ∧ iv = .int .i64 (j : Int) ∧ Blk wr M ((fill 8 (bytesN 8 n) j).map bval) 5 ∧ Ext w wr) (fun iv _ => 8 - (intOf iv).toNat)
  case atStart => exact ⟨0, by omega, rfl, HMA.out, HEM.out⟩
  case round =>
    clear HMA HEM
    obtain ⟨j, hj, rfl, hbm, hbel⟩ := hrel
    have j0 : (0 : Int) ≤ (j : Int) := Int.natCast_nonneg _
    have HMA := Lib.hid hbm
    have HX := Lib.hid hbel
    by_cases hlj : j < 8
    · have j1 : (j : Int) < 8 := by omega
      obtain ⟨e, he⟩ : ∃ e : Nat, e = 8 * j := ⟨_, rfl⟩
      have e1 : 8 * (j : Int) = (e : Int) := by omega
      have e64 : (e : Int) < 64 := by omega
      have e0 : (0 : Int) ≤ (e : Int) := by omega
      have ep : (2 : Int) ^ e = ((256 ^ j : Nat) : Int) := by rw [he, Int.pow_mul]; simp
      have hv1 : (n : Int) / 2 ^ e = ((n / 256 ^ j : Nat) : Int) := by rw [ep, ← Int.natCast_ediv]
      have hb1 : n / 256 ^ j ≤ n := Nat.div_le_self _ _
      have HBY : Hid ((((n / 256 ^ j : Nat) : Int)) % 256 = (((bytesN 8 n).getD j 0).toNat : Int)) := Lib.hid (by rw [bytesN_getD 8 n j hlj]; omega)
      generalize n / 256 ^ j = q at *
      have HS1 := Lib.hid (fill_set_val (n := 8) (bytesN_length 8 n) hlj HBY.out)
      obtain ⟨u6, c6⟩ : ∃ u, wr.cell? ⟨M, j, none⟩ = some u := ⟨_, by rw [hbm.cell, bval_get (by rw [fill_length (bytesN_length _ _) (by omega)]; exact hlj)]⟩
      have f6 := hbm.free j
      have HMX := HX.out.size
      clear hbm hbel he ep HBY
      go_wp2_with fail
      go_roundw
      case rel => exact ⟨j + 1, by omega, by go_num, by rw [← HS1.out]; exact HMA.out.set _ _, Below.setCell HX.out (by have := HMW.out; simp; omega) _⟩
      case measure => simp [intOf]; omega
    · have hj8 : j = 8 := by omega
      subst hj8
      rw [show ((8 : Nat) : Int) = 8 from rfl]
      rw [fill_full (bytesN_length _ _)] at HMA
      clear hbel hbm hj j0 hlj
      go_wp2_with fail
      go_ret
      exact ⟨_, rfl, own_blk HMA.out (by rw [HMW.out]; exact Nat.le_refl _) (by rw [List.length_map, bytesN_length]) (by unfold maxLen; omega), HX.out⟩

set_option maxRecDepth 100000 in
set_option maxHeartbeats 4000000 in
theorem aturned_any (kb nb p : List UInt8) (pv : Value) (w : World) (hk : kb.length = 32) (hn : nb.length = 12) (hp : Row1 w pv (p.map bval)) (hpl : p.length ≤ 1099511627776) :
    Calls Try.prog 32 #[.agg (kb.map bval).toArray, .agg (nb.map bval).toArray, pv] w fun e w' => ∃ x, e = .returned x ∧ w'.ownsRow w.heap.size 5 1 x p.length ((chaTurn kb 1 nb p).map bval) ∧ Below w.heap.size w w' := by
  have HP0 := Lib.hid hp
  have HPL := Lib.hid hpl
  have HB := Lib.hid (boxes2 w (kb.map bval) (nb.map bval) 34 44)
  have HIK : Hid ((Try.prog.info? 34).map (·.size) = some (kb.map bval).length) := Lib.hid (num_size hk)
  have HIN : Hid ((Try.prog.info? 44).map (·.size) = some (nb.map bval).length) := Lib.hid (nonce_size hn)
  have HKL := Lib.hid hk
  have HNL := Lib.hid hn
  clear hp hk hn hpl
  go_enter Try.func32, Try.ntmps32
  go_upto_region 1 with (fail)
  obtain ⟨H1, H2, HE⟩ := HB.out
  change Code.wp _ _ _ _ ((w.alloc (.cells (kb.map bval).toArray 34)).alloc (.cells (nb.map bval).toArray 44))
  generalize (w.alloc (.cells (kb.map bval).toArray 34)).alloc (.cells (nb.map bval).toArray 44) = wa at *
  obtain ⟨A, hA⟩ : ∃ A, A = w.heap.size := ⟨_, rfl⟩
  rw [← hA] at H1 H2 ⊢
  have H1 := Lib.hid H1
  have H2 := Lib.hid H2
  have HE : Hid (Ext w wa) := Lib.hid HE
  have HA := Lib.hid hA
  clear hA HB
  go_wp2_with (first | (refine wpList_load_blk rfl _ _ rfl A rfl _ _ _ _ H1.out Try.underlying34 HIK.out ?_) | (refine wpList_load_blk rfl _ _ rfl (A + 1) rfl _ _ _ _ H2.out Try.underlying44 HIN.out ?_))
  refine (CTurn_num kb nb p _ 1 wa HKL.out HNL.out (HP0.out.below HE.out) HPL.out (by decide) (by decide)).mono ?_
  rintro e w1 ⟨x1, rfl, ho1, hb1⟩
  have HO1 := Lib.hid (own_mono ho1 HE.out.size)
  have HE := Lib.hid (HE.out.trans hb1)
  clear ho1 hb1
  go_wp2_with fail
  go_ret
  exact ⟨_, rfl, HO1.out, HE.out⟩

end Go.Proofs.Ytjnnhkodkbhbbaa

/- Ints held against each other, a rest, rows of five strings: operations that may come up in any order. Each theorem names its own conditions. -/
namespace Go.Proofs.Ytjnnhkodkbhbbaa
open Go.RowKit
set_option linter.unusedVariables false
set_option linter.unusedSimpArgs false

section
variable {P : Program} {ops : Array Oper} {S : World → Prop}
theorem yi_nei {o : Oper} {a : Act} (k : IntKind) (ty rt : TypeId) (x y : Operand) (b c : Int) (r : Bool) (hr : decide (b = c) = !r) (hw : Region.wanted o (yielded ops a.tmps) = true) (ho : o.op = .binOp .neq ty x y rt) (hx : a.eval x = .int k b) (hy : a.eval y = .int k c) : YieldsIf P ops S o (.bool r) a :=
  yi_val _ hw (fun w _ => by
    have hr2 : r = !decide (b = c) := by rw [hr, Bool.not_not]
    subst hr2
    unfold execOp
    simp only [ho, hx, hy]
    simp [eqGuard, binOp, Op.intCmp, Result.andThen]
    try rw [Bool.eq_iff_iff]; simp)
theorem yi_rem {o : Oper} {a : Act} (k : IntKind) (ty rt : TypeId) (x y : Operand) (m n r : Int) (hn : n ≠ 0) (hr : Int.tmod m n = r) (hw : Region.wanted o (yielded ops a.tmps) = true) (ho : o.op = .binOp .rem ty x y rt) (hx : a.eval x = .int k m) (hy : a.eval y = .int k n) : YieldsIf P ops S o (.int k r) a :=
  yi_val _ hw (fun w _ => by unfold execOp; simp [ho, hx, hy, eqGuard, binOp, Op.intDiv, hr, hn, Result.andThen])
end
theorem rowB5 {w : World} {v x y z u t : Value} {l m n o p : List UInt8} (h : Row1 w v [x, y, z, u, t]) (hx : Row1 w x (l.map bval)) (hy : Row1 w y (m.map bval)) (hz : Row1 w z (n.map bval)) (hu : Row1 w u (o.map bval)) (ht : Row1 w t (p.map bval)) : RowB w v [l, m, n, o, p] :=
  ⟨_, h, rfl, fun i c k hc hk => by
    match i with
    | 0 => simp at hc hk; subst hc; subst hk; exact hx
    | 1 => simp at hc hk; subst hc; subst hk; exact hy
    | 2 => simp at hc hk; subst hc; subst hk; exact hz
    | 3 => simp at hc hk; subst hc; subst hk; exact hu
    | 4 => simp at hc hk; subst hc; subst hk; exact ht
    | i + 5 => simp at hc⟩
theorem rowB6 {w : World} {v x y z u t s : Value} {l m n o p q : List UInt8} (h : Row1 w v [x, y, z, u, t, s]) (hx : Row1 w x (l.map bval)) (hy : Row1 w y (m.map bval)) (hz : Row1 w z (n.map bval)) (hu : Row1 w u (o.map bval)) (ht : Row1 w t (p.map bval)) (hs : Row1 w s (q.map bval)) : RowB w v [l, m, n, o, p, q] :=
  ⟨_, h, rfl, fun i c k hc hk => by
    match i with
    | 0 => simp at hc hk; subst hc; subst hk; exact hx
    | 1 => simp at hc hk; subst hc; subst hk; exact hy
    | 2 => simp at hc hk; subst hc; subst hk; exact hz
    | 3 => simp at hc hk; subst hc; subst hk; exact hu
    | 4 => simp at hc hk; subst hc; subst hk; exact ht
    | 5 => simp at hc hk; subst hc; subst hk; exact hs
    | i + 6 => simp at hc⟩

end Go.Proofs.Ytjnnhkodkbhbbaa

/- The walks of the library's slices.Grow (of no slice) and slices.Concat, for bytes. Each theorem names its own conditions. -/
namespace Go.Proofs.Ytjnnhkodkbhbbaa
open Go.RowKit
set_option linter.unusedVariables false
set_option linter.unusedSimpArgs false

/-- The first n of no bytes' row that was just grown. -/
theorem grown_own (w : World) (base n cap : Nat) (e : TypeId) (cur : Array Value) (hb : base ≤ w.heap.size) (hc : cap ≤ maxLen) (hs : cur.size = cap) : (w.alloc (.cells cur e)).ownsRow base e 1 (.slice (some ⟨w.heap.size, 0, none⟩) 0 cap) 0 [] :=
  ⟨rfl, Or.inr ⟨w.heap.size, cap, cur, rfl, hb, heap_alloc_new w _, Nat.zero_le _, hc, by omega, rfl⟩⟩
theorem cat_succ (ls : List (List UInt8)) (k : Nat) (l : List UInt8) (h : ls[k]? = some l) : (ls.take (k + 1)).flatten = (ls.take k).flatten ++ l := by
  have hk : k < ls.length := by
    rcases Nat.lt_or_ge k ls.length with h' | h'
    · exact h'
    · rw [List.getElem?_eq_none h'] at h; cases h
  rw [List.take_succ_eq_append_getElem hk, List.flatten_append]
  rw [List.getElem?_eq_getElem hk] at h
  cases h
  simp
theorem cat_part (ls : List (List UInt8)) (k : Nat) : (ls.take k).flatten.length ≤ ls.flatten.length := by
  have h : ls.flatten = (ls.take k).flatten ++ (ls.drop k).flatten := by rw [← List.flatten_append, List.take_append_drop]
  rw [h, List.length_append]
  omega
theorem cat_all (ls : List (List UInt8)) : (ls.take ls.length).flatten = ls.flatten := by rw [List.take_length]
end Go.Proofs.Ytjnnhkodkbhbbaa

/- What package poly folds of a message, and its tag. No program. Each theorem names its own conditions. -/
namespace Go.Proofs.Ytjnnhkodkbhbbaa
open Go.RowKit
set_option linter.unusedVariables false
set_option linter.unusedSimpArgs false

def iB (l : List UInt8) : List Int := l.map fun b => (b.toNat : Int)
theorem iB_length (l : List UInt8) : (iB l).length = l.length := by simp [iB]
theorem iB_getD (l : List UInt8) (i : Nat) : (iB l).getD i 0 = ((l.getD i 0).toNat : Int) := by
  simp only [iB, List.getD_eq_getElem?_getD, List.getElem?_map]
  rcases h : l[i]? with _ | b <;> rfl
theorem bval_ints (l : List UInt8) : l.map bval = ints .u8 (iB l) := by
  unfold ints iB
  rw [List.map_map]
  rfl
theorem D17_iB {l : List UInt8} (h : l.length = 17) : D17 (iB l) := ⟨by rw [iB_length, h], fun i => by
  rw [iB_getD]
  have := (l.getD i 0).toNat_lt
  omega⟩
/-- A piece of a message, the 1 behind it, and noughts. -/
def onB (c : List UInt8) : List UInt8 := c ++ (1 :: List.replicate (16 - c.length) 0)
theorem onB_length {c : List UInt8} (h : c.length ≤ 16) : (onB c).length = 17 := by
  unfold onB
  simp
  omega
theorem onB_val (c : List UInt8) : gV 256 (iB (onB c)) = ((leN c : Nat) : Int) + 256 ^ c.length := by
  unfold iB onB
  rw [List.map_append, gV_append, gV_bytes, List.length_map]
  have e : (List.map (fun b : UInt8 => (b.toNat : Int)) (1 :: List.replicate (16 - c.length) 0)) = 1 :: List.replicate (16 - c.length) 0 := by simp
  rw [e, gV, gV_zeros, Int.mul_zero, Int.add_zero, Int.mul_one]
theorem piece_len (m : List UInt8) (n : Nat) : ((m.drop (16 * n)).take 16).length = min 16 (m.length - 16 * n) := by rw [List.length_take, List.length_drop]
theorem onB_blk (m : List UInt8) (n : Nat) : gV 256 (iB (onB ((m.drop (16 * n)).take 16))) = pBlk m n := by
  rw [onB_val, piece_len]
  rfl
theorem pBlk_range (m : List UInt8) (n : Nat) : 0 ≤ pBlk m n ∧ pBlk m n < two130 := by
  have h1 := leN_lt ((m.drop (16 * n)).take 16)
  have hl := piece_len m n
  have h2 : 256 ^ ((m.drop (16 * n)).take 16).length ≤ 256 ^ 16 := Nat.pow_le_pow_right (by omega) (by omega)
  have h3 : pBlk m n = (((leN ((m.drop (16 * n)).take 16)) + 256 ^ ((m.drop (16 * n)).take 16).length : Nat) : Int) := by
    unfold pBlk
    rw [hl]
    simp
  rw [h3]
  generalize leN ((m.drop (16 * n)).take 16) = a at *
  generalize 256 ^ ((m.drop (16 * n)).take 16).length = b at *
  have h4 : (256 ^ 16 : Nat) = 340282366920938463463374607431768211456 := by decide +kernel
  rw [h4] at h2
  unfold two130
  omega
theorem pDigit_le (key : List UInt8) (i : Nat) : pDigit key i ≤ 255 := by
  unfold pDigit
  have := (key.getD i 0).toNat_lt
  split
  · omega
  · split <;> omega
theorem pR_range (key : List UInt8) : 0 ≤ pR key ∧ pR key < 340282366920938463463374607431768211456 := by
  have h := gV_range (B := 256) (by omega) (zs := pDigits key) (fun i hi => by
    rw [pDigits_length] at hi
    rw [pDigits_getD key hi]
    have := pDigit_le key i
    omega)
  rw [pDigits_length, pow_16] at h
  exact h
theorem D17_rC (key : List UInt8) : D17 (rC key 3) := ⟨rC_length key 3, fun i => rC_digit key 3 i (by omega)⟩
def rL (key : List UInt8) : List Int := limL (rC key 3)
theorem rL_val (key : List UInt8) : Lim 67108863 (rL key) ∧ gV 67108864 (rL key) = pR key := by
  obtain ⟨h1, h2⟩ := limL_val (D17_rC key)
  refine ⟨h1, h2.trans ?_⟩
  rw [rC_val]
  have := pR_range key
  unfold two130
  exact Int.emod_eq_of_lt this.1 (by omega)
/-- The message as limbs, n blocks of it. -/
def fL (R : List Int) (m : List UInt8) : Nat → List Int
  | 0 => List.replicate 5 0
  | n + 1 => timL (addL (fL R m n) (limL (iB (onB ((m.drop (16 * n)).take 16))))) R
theorem blk_lim (m : List UInt8) (n : Nat) : Lim 67108863 (limL (iB (onB ((m.drop (16 * n)).take 16)))) ∧ gV 67108864 (limL (iB (onB ((m.drop (16 * n)).take 16)))) = pBlk m n := by
  obtain ⟨h1, h2⟩ := limL_val (D17_iB (onB_length (c := (m.drop (16 * n)).take 16) (by rw [piece_len]; omega)))
  refine ⟨h1, h2.trans ?_⟩
  rw [onB_blk]
  have := pBlk_range m n
  exact Int.emod_eq_of_lt this.1 this.2
theorem fL_val (key m : List UInt8) : ∀ n, Near (fL (rL key) m n) ∧ gV 67108864 (fL (rL key) m n) % (pQ : Int) = pAcc (pR key) m n
  | 0 => ⟨Near.zero, by rw [fL, gV_zeros]; rfl⟩
  | n + 1 => by
    obtain ⟨h1, h2⟩ := fL_val key m n
    obtain ⟨b1, b2⟩ := blk_lim m n
    obtain ⟨r1, r2⟩ := rL_val key
    obtain ⟨a1, a2⟩ := addL_val h1.lim b1
    obtain ⟨t1, t2⟩ := timL_val (a1.up (by omega)) r1
    rw [fL]
    refine ⟨t1, t2.trans ?_⟩
    rw [a2, b2, r2, pAcc, ← h2]
    generalize gV 67108864 (fL (rL key) m n) = V
    have e : (V % (pQ : Int) + pBlk m n) % (pQ : Int) = (V + pBlk m n) % (pQ : Int) := by rw [Int.add_emod, Int.emod_emod, ← Int.add_emod]
    rw [Int.mul_emod, ← e, ← Int.mul_emod]
/-- The tag's bytes. -/
def sL (key : List UInt8) : List Int := limL (iB ((key.drop 16).take 16 ++ [0]))
def outL (key m : List UInt8) : List Int := setL (addL (redL (fL (rL key) m ((m.length + 15) / 16))) (sL key))
theorem iB_snoc (l : List UInt8) : gV 256 (iB (l ++ [0])) = ((leN l : Nat) : Int) := by
  unfold iB
  rw [List.map_append, gV_append, gV_bytes]
  simp [gV]
theorem sL_val {key : List UInt8} (hk : key.length = 32) : Lim 67108863 (sL key) ∧ gV 67108864 (sL key) = (pS key : Int) := by
  have hl : ((key.drop 16).take 16).length = 16 := by rw [List.length_take, List.length_drop]; omega
  obtain ⟨h1, h2⟩ := limL_val (D17_iB (l := (key.drop 16).take 16 ++ [0]) (by rw [List.length_append, hl]; rfl))
  refine ⟨h1, h2.trans ?_⟩
  rw [iB_snoc]
  have h3 := leN_lt ((key.drop 16).take 16)
  rw [hl, show (256 ^ 16 : Nat) = 340282366920938463463374607431768211456 from by decide +kernel] at h3
  unfold two130 pS
  exact Int.emod_eq_of_lt (by omega) (by omega)
theorem outL_val {key m : List UInt8} (hk : key.length = 32) : Lim 67108863 (outL key m) ∧ gV 67108864 (outL key m) = (pNum key m + pS key) % two130 := by
  obtain ⟨f1, f2⟩ := fL_val key m ((m.length + 15) / 16)
  obtain ⟨s1, s2⟩ := sL_val hk
  obtain ⟨r1, r2⟩ := redL_val f1.lim.len (fun i => (f1.lim.getD (by omega) i).1) f1.below
  obtain ⟨a1, a2⟩ := addL_val r1 s1
  obtain ⟨o1, o2⟩ := setL_val a1.len
  refine ⟨o1, o2.trans ?_⟩
  rw [a2, r2, f2, s2]
  rfl
theorem take16 (X : Nat) : (bytesN 17 X).take 16 = bytesN 16 X := by
  have e : bytesN 17 X = bytesN 16 X ++ bytesN 1 (X / 256 ^ 16) := bytesN_append 16 1 X
  rw [e, List.take_append_of_le_length (by rw [bytesN_length]; omega), List.take_of_length_le (by rw [bytesN_length]; omega)]
theorem mod16 (N K : Nat) (hK : K = 4 * 256 ^ 16) : bytesN 16 (N % K) = bytesN 16 N := by
  rw [← bytesN_mod 16 (N % K), ← bytesN_mod 16 N, hK]
  congr 1
  generalize (256 : Nat) ^ 16 = B
  exact Nat.mod_mul_left_mod _ _ _
/-- The code's tag is the document's. -/
theorem tag_bytes {key m : List UInt8} (hk : key.length = 32) : ∃ l : List UInt8, l.length = 17 ∧ blkL (outL key m) = iB l ∧ l.take 16 = polyTag key m := by
  obtain ⟨o1, o2⟩ := outL_val (m := m) hk
  obtain ⟨b1, b2⟩ := blkL_val o1
  have hp := (pAcc_range (pR key) m ((m.length + 15) / 16)).1
  have hnum : 0 ≤ pNum key m := hp
  obtain ⟨N, hN⟩ : ∃ N : Nat, (pNum key m + pS key) = (N : Int) := ⟨(pNum key m + pS key).toNat, by omega⟩
  rw [hN] at o2
  have e0 : ((1361129467683753853853498429727072845824 : Nat) : Int) = two130 := by decide +kernel
  have e : blkL (outL key m) = dig 17 (N % 1361129467683753853853498429727072845824) := dig_of b1.1 (fun i hi => by have := b1.2 i; omega) (by
    rw [b2, o2, Int.natCast_emod, e0])
  refine ⟨bytesN 17 (N % 1361129467683753853853498429727072845824), bytesN_length _ _, e, ?_⟩
  unfold polyTag
  rw [hN, Int.toNat_natCast, take16]
  exact mod16 N _ (by decide +kernel)

end Go.Proofs.Ytjnnhkodkbhbbaa

/- The walks of package poly's plus, settled, reduced. Each theorem names its own conditions. -/
namespace Go.Proofs.Ytjnnhkodkbhbbaa
open Go.RowKit
set_option linter.unusedVariables false
set_option linter.unusedSimpArgs false

theorem addL_len {x y : List Int} (hx : x.length = 5) : (addL x y).length = 5 := by unfold addL; rw [sA_length, hx]
theorem setL_len {x : List Int} (hx : x.length = 5) : (setL x).length = 5 := by unfold setL; rw [zRun_length, hx]

set_option maxRecDepth 100000 in
set_option maxHeartbeats 8000000 in
theorem pplus_any (x y : List Int) (w : World) (hx : Lim 1152921504606846976 x) (hy : Lim 1152921504606846976 y) :
    Calls Try.prog 58 #[.agg (ints .u64 x).toArray, .agg (ints .u64 y).toArray] w fun e w' => e = .returned (.agg (ints .u64 (addL x y)).toArray) ∧ Below w.heap.size w w' := by
  have HX := Lib.hid hx
  have HY := Lib.hid hy
  have HB := Lib.hid (boxes3 w (ints .u64 x) (ints .u64 y) (ints .u64 (List.replicate 5 0)) 84 84 84)
  clear hx hy
  go_enter Try.func58, Try.ntmps58
  go_upto_region 1 with (fail)
  obtain ⟨H1, H2, H3, HE⟩ := HB.out
  change Code.wp _ _ _ _ (((w.alloc (.cells (ints .u64 x).toArray 84)).alloc (.cells (ints .u64 y).toArray 84)).alloc (.cells (ints .u64 (List.replicate 5 0)).toArray 84))
  generalize ((w.alloc (.cells (ints .u64 x).toArray 84)).alloc (.cells (ints .u64 y).toArray 84)).alloc (.cells (ints .u64 (List.replicate 5 0)).toArray 84) = wa at *
  obtain ⟨A, hA⟩ : ∃ A, A = w.heap.size := ⟨_, rfl⟩
  have HAW : Hid (w.heap.size ≤ A) := Lib.hid (by omega)
  rw [← hA] at H1 H2 H3 ⊢
  have H1 : Hid (Blk wa A (ints .u64 (sA x y 0)) 84) := Lib.hid H1
  have H2 := Lib.hid H2
  have H3 := Lib.hid H3
  have HE : Hid (Ext w wa) := Lib.hid HE
  clear hA HB
  go_wp2_with fail
  go_loopw [6] (fun iv wr => ∃ (k : Nat), k ≤ 5 ∧ iv = .int .i64 (k : Int) ∧ Blk wr A (ints .u64 (sA x y k)) 84 ∧ Blk wr (A + 1) (ints .u64 y) 84 ∧ Blk wr (A + 1 + 1) (ints .u64 (List.replicate 5 0)) 84 ∧ Ext w wr) (fun iv _ => 5 - (intOf iv).toNat)
  case atStart => exact ⟨0, by omega, rfl, H1.out, H2.out, H3.out, HE.out⟩
  case round =>
    clear H1 H2 H3 HE
    obtain ⟨k, hk, rfl, hb1, hb2, hb3, hbel⟩ := hrel
    have k0 : (0 : Int) ≤ (k : Int) := Int.natCast_nonneg _
    have H1 := Lib.hid hb1
    have H2 := Lib.hid hb2
    have H3 := Lib.hid hb3
    have HE := Lib.hid hbel
    by_cases hlk : k < 5
    · have k1 : (k : Int) < 5 := by omega
      have q1 := digit_q hb1 (i := k) (by rw [sA_length, HX.out.len]; exact hlk)
      have q2 := digit_q hb2 (i := k) (by rw [HY.out.len]; exact hlk)
      have f1 := hb1.free k
      have hxa := HX.out.getD (by omega) k
      have hya := HY.out.getD (by omega) k
      rw [sA_getD x y k (by rw [HX.out.len]; exact hk) k, if_neg (Nat.lt_irrefl _)] at q1
      have HS : Hid (sA x y (k + 1) = (sA x y k).set k (x.getD k 0 + y.getD k 0)) := Lib.hid (by rw [sA, sA_getD x y k (by rw [HX.out.len]; exact hk) k, if_neg (Nat.lt_irrefl _)])
      clear hb1 hb2 hb3 hbel
      generalize x.getD k 0 = p at *
      generalize y.getD k 0 = q at *
      obtain ⟨p0, p1⟩ := hxa
      obtain ⟨r0, r1⟩ := hya
      go_wp2_with fail
      go_region
      go_wp2_with fail
      go_roundw
      case rel => exact ⟨k + 1, by omega, by go_num, by rw [HS.out]; exact (H1.out.seti k _).drewN 1, (H2.out.far (by simp) _).drewN 1, (H3.out.far (by simp; omega) _).drewN 1, Ext.trans (Below.setCell HE.out (by have := HAW.out; simp; omega) _) (Ext.drew _)⟩
      case measure => simp [intOf]; omega
    · have hk5 : k = 5 := by omega
      subst hk5
      clear hb1 hb2 hb3 hbel
      have HL : Hid ((sA x y 5).length = 5) := Lib.hid (by rw [sA_length, HX.out.len])
      have HR : Hid (addL x y = sA x y 5) := Lib.hid rfl
      generalize sA x y 5 = s at *
      have HI : Hid ((Try.prog.info? 84).map (·.size) = some (ints .u64 s).length) := Lib.hid (lim_size HL.out)
      have HLz : Hid ((ints .u64 s).length = (ints .u64 (List.replicate 5 0)).length) := Lib.hid (by rw [ints_length, HL.out]; rfl)
      go_wp2_with (first | (refine wpList_load_blk rfl _ _ rfl A rfl _ _ _ _ H1.out Try.underlying84 HI.out ?_) | (refine wpList_store_blk rfl _ _ _ rfl (A + 1 + 1) (ints .u64 s) rfl rfl _ _ H3.out HLz.out HI.out (ints_one _ _) ?_; intro w5 hb5 hg5))
      refine bodyPost_ret (result_blk rfl _ (A + 1 + 1) _ _ _ _ rfl hb5 Try.underlying84 HI.out) rfl ?_
      exact ⟨by rw [HR.out], ext_grown HE.out hg5 (by have := HAW.out; omega)⟩

set_option maxRecDepth 100000 in
set_option maxHeartbeats 8000000 in
theorem psettled_any (x : List Int) (w : World) (hx : Lim 1152921504606846976 x) :
    Calls Try.prog 57 #[.agg (ints .u64 x).toArray] w fun e w' => e = .returned (.agg (ints .u64 (setL x)).toArray) ∧ Below w.heap.size w w' := by
  have HX := Lib.hid hx
  have HB := Lib.hid (boxes2 w (ints .u64 x) (ints .u64 (List.replicate 5 0)) 84 84)
  clear hx
  go_enter Try.func57, Try.ntmps57
  go_upto_region 1 with (fail)
  obtain ⟨H1, H2, HE⟩ := HB.out
  change Code.wp _ _ _ _ ((w.alloc (.cells (ints .u64 x).toArray 84)).alloc (.cells (ints .u64 (List.replicate 5 0)).toArray 84))
  generalize (w.alloc (.cells (ints .u64 x).toArray 84)).alloc (.cells (ints .u64 (List.replicate 5 0)).toArray 84) = wa at *
  obtain ⟨A, hA⟩ : ∃ A, A = w.heap.size := ⟨_, rfl⟩
  have HAW : Hid (w.heap.size ≤ A) := Lib.hid (by omega)
  rw [← hA] at H1 H2 ⊢
  have H1 : Hid (Blk wa A (ints .u64 (zRun x 0).1) 84) := Lib.hid H1
  have H2 := Lib.hid H2
  have HE : Hid (Ext w wa) := Lib.hid HE
  clear hA HB
  go_wp2_with fail
  go_loopw [3, 5] (fun cv iv wr => ∃ (k : Nat), k ≤ 5 ∧ cv = .int .u64 (zRun x k).2 ∧ iv = .int .i64 (k : Int) ∧ Blk wr A (ints .u64 (zRun x k).1) 84 ∧ Blk wr (A + 1) (ints .u64 (List.replicate 5 0)) 84 ∧ Ext w wr) (fun _ iv _ => 5 - (intOf iv).toNat)
  case atStart => exact ⟨0, by omega, rfl, rfl, H1.out, H2.out, HE.out⟩
  case round =>
    clear H1 H2 HE
    obtain ⟨k, hk, rfl, rfl, hb1, hb2, hbel⟩ := hrel
    have k0 : (0 : Int) ≤ (k : Int) := Int.natCast_nonneg _
    have H1 := Lib.hid hb1
    have H2 := Lib.hid hb2
    have HE := Lib.hid hbel
    by_cases hlk : k < 5
    · have k1 : (k : Int) < 5 := by omega
      have q1 := digit_q hb1 (i := k) (by rw [zRun_length, HX.out.len]; exact hlk)
      have f1 := hb1.free k
      have hxa := HX.out.getD (by omega) k
      have hca := zRun_carry (M := 1152921504606846976) (by omega) x (HX.out.getD (by omega)) k
      rw [zRun_far x k k (Nat.le_refl _)] at q1
      have HS : Hid (zRun x (k + 1) = ((zRun x k).1.set k (((zRun x k).2 + x.getD k 0) % 67108864), ((zRun x k).2 + x.getD k 0) / 67108864)) := Lib.hid (by rw [zRun, zRun_far x k k (Nat.le_refl _)])
      clear hb1 hb2 hbel
      generalize x.getD k 0 = p at *
      generalize (zRun x k).2 = q at *
      obtain ⟨p0, p1⟩ := hxa
      obtain ⟨r0, r1⟩ := hca
      have m1 := mask26 (q + p) (by omega) (by omega)
      go_wp2_with fail
      go_roundw
      case rel => exact ⟨k + 1, by omega, by rw [HS.out], by go_num, by rw [HS.out]; exact H1.out.seti k _, H2.out.far (by simp) _, Below.setCell HE.out (by have := HAW.out; simp; omega) _⟩
      case measure => simp [intOf]; omega
    · have hk5 : k = 5 := by omega
      subst hk5
      clear hb1 hb2 hbel
      have HL : Hid ((zRun x 5).1.length = 5) := Lib.hid (by rw [zRun_length, HX.out.len])
      have HR : Hid (setL x = (zRun x 5).1) := Lib.hid rfl
      generalize (zRun x 5).1 = s at *
      have HI : Hid ((Try.prog.info? 84).map (·.size) = some (ints .u64 s).length) := Lib.hid (lim_size HL.out)
      have HLz : Hid ((ints .u64 s).length = (ints .u64 (List.replicate 5 0)).length) := Lib.hid (by rw [ints_length, HL.out]; rfl)
      go_wp2_with (first | (refine wpList_load_blk rfl _ _ rfl A rfl _ _ _ _ H1.out Try.underlying84 HI.out ?_) | (refine wpList_store_blk rfl _ _ _ rfl (A + 1) (ints .u64 s) rfl rfl _ _ H2.out HLz.out HI.out (ints_one _ _) ?_; intro w5 hb5 hg5))
      refine bodyPost_ret (result_blk rfl _ (A + 1) _ _ _ _ rfl hb5 Try.underlying84 HI.out) rfl ?_
      exact ⟨by rw [HR.out], ext_grown HE.out hg5 (by have := HAW.out; omega)⟩

end Go.Proofs.Ytjnnhkodkbhbbaa

/- An array of integers indexed by a variable, as a value; a slice of an array from a variable on. Nothing here speaks of a program. Each theorem names its own conditions. -/
namespace Go.Proofs.Ytjnnhkodkbhbbaa
open Go.RowKit
set_option linter.unusedVariables false
set_option linter.unusedSimpArgs false

theorem index_ints {P : Program} {T e : TypeId} {n : Nat} {kd : IntKind} (hT : P.underlying T = some (.array n e)) (hs : ∀ w, (sizeOf e).run P w = .ok 1 w) (ha : ∀ w, (isAgg e).run P w = .ok false w) (h : List Int) (hl : h.length = n) (k : Nat) (hk : k < n) (w : World) :
    (Instr.index T (.agg (ints kd h).toArray) (.int .i64 (k : Int))).run P w = .ok (.int kd (h.getD k 0)) w := by
  have hg : (ints kd h)[k]? = some (.int kd (h.getD k 0)) := ints_get (by rw [hl]; exact hk)
  have hi : 0 ≤ (k : Int) ∧ (k : Int) < (n : Int) := by omega
  unfold Instr.index
  simp only [asIntOf, Sem.run_bind, Sem.run_pure, Result.andThen_ok, run_underlying hT, hi, hs, part, ha]
  rw [if_pos ⟨trivial, trivial⟩]
  simp only [Sem.run_bind, hs, ha, Result.andThen_ok, Int.toNat_natCast, Nat.mul_one, List.getElem?_toArray, hg, Bool.false_eq_true, if_false, Sem.run_pure]
theorem cut_from {P : Program} {t e : TypeId} {n : Nat} (ht : P.underlying t = some (.array n e)) (h : ∀ w, (sizeOf e).run P w = .ok 1 w) (w : World) (A p : Nat) (hp : p < n) :
    (Instr.sliceAt t (.pointer (some ⟨A, 0, none⟩)) (some (.int .i64 (p : Int))) none none).run P w = .ok (.slice (some ⟨A, p, none⟩) (n - p) (n - p)) w := by
  have e1 : P.arrayLen t = n := by unfold Program.arrayLen; rw [ht]
  have e2 : P.elem t = e := by unfold Program.elem; rw [ht]
  rw [run_sliceAt_array_l w t ⟨A, 0, none⟩ (by rw [e1, e2]; exact ht) .i64 (p : Int) (by omega) (by rw [e1]; omega), e2, h, e1]
  simp [slicedAt, Addr.add, show ¬ n = p by omega]
  exact fun h => h.symm

end Go.Proofs.Ytjnnhkodkbhbbaa

/- The walks of package poly's word and limbsOf. Each theorem names its own conditions. -/
namespace Go.Proofs.Ytjnnhkodkbhbbaa
open Go.RowKit
set_option linter.unusedVariables false
set_option linter.unusedSimpArgs false

theorem Try.arr81 : (Try.prog.info? 81).map (·.size) = some 17 := by kernel_rfl
theorem blk_size17 {l : List Int} (h : l.length = 17) : (Try.prog.info? 81).map (·.size) = some (ints .u8 l).length := by rw [ints_length, h]; exact Try.arr81
theorem or4q {y0 y1 y2 y3 : Int} (h0 : 0 ≤ y0 ∧ y0 ≤ 255) (h1 : 0 ≤ y1 ∧ y1 ≤ 255) (h2 : 0 ≤ y2 ∧ y2 ≤ 255) (h3 : 0 ≤ y3 ∧ y3 ≤ 255) :
    bits .or .u64 (bits .or .u64 (bits .or .u64 y0 (y1 * 256)) (y2 * 65536)) (y3 * 16777216) = y0 + 256 * y1 + 65536 * y2 + 16777216 * y3 := by
  obtain ⟨x0, rfl⟩ : ∃ n : Nat, y0 = (n : Int) := ⟨y0.toNat, by omega⟩
  obtain ⟨x1, rfl⟩ : ∃ n : Nat, y1 = (n : Int) := ⟨y1.toNat, by omega⟩
  obtain ⟨x2, rfl⟩ : ∃ n : Nat, y2 = (n : Int) := ⟨y2.toNat, by omega⟩
  obtain ⟨x3, rfl⟩ : ∃ n : Nat, y3 = (n : Int) := ⟨y3.toNat, by omega⟩
  have a1 : (x1 : Int) * 256 = ((256 * x1 : Nat) : Int) := by omega
  have a2 : (x2 : Int) * 65536 = ((65536 * x2 : Nat) : Int) := by omega
  have a3 : (x3 : Int) * 16777216 = ((16777216 * x3 : Nat) : Int) := by omega
  have b1 : x0 ||| 256 * x1 = x0 + 256 * x1 := (Nat.or_comm _ _).trans ((or_sum 8 x0 x1 (by omega)).trans (Nat.add_comm _ _))
  have b2 : x0 + 256 * x1 ||| 65536 * x2 = x0 + 256 * x1 + 65536 * x2 := (Nat.or_comm _ _).trans ((or_sum 16 (x0 + 256 * x1) x2 (by omega)).trans (Nat.add_comm _ _))
  have b3 : x0 + 256 * x1 + 65536 * x2 ||| 16777216 * x3 = x0 + 256 * x1 + 65536 * x2 + 16777216 * x3 := (Nat.or_comm _ _).trans ((or_sum 24 (x0 + 256 * x1 + 65536 * x2) x3 (by omega)).trans (Nat.add_comm _ _))
  rw [a1, a2, a3, or64 _ _ (by omega) (by omega), b1, or64 _ _ (by omega) (by omega), b2, or64 _ _ (by omega) (by omega), b3]
  omega

set_option maxHeartbeats 2000000 in
/-- A word is read off four bytes of a block. -/
theorem pword_any (c off len cap : Nat) (zs : List Int) (t : TypeId) (w : World) (hb : Blk w c (ints .u8 zs) t) (hz : D17 zs) (hl : off + 4 ≤ 17) (h4 : 4 ≤ len) :
    Calls Try.prog 70 #[.slice (some ⟨c, off, none⟩) len cap] w fun e w' => e = .returned (.int .u64 (w4 zs off)) ∧ w' = w.drew := by
  have cc : ∀ j, j ≤ 3 → w.cell? ⟨c, off + j, none⟩ = some (.int .u8 (zs.getD (off + j) 0)) := fun j hj => digit_b hb (by have := hz.1; omega)
  have c0 := cc 0 (by omega)
  have c1 := cc 1 (by omega)
  have c2 := cc 2 (by omega)
  have c3 := cc 3 (by omega)
  simp only [Nat.add_zero] at c0
  have d0 := hz.2 off
  have d1 := hz.2 (off + 1)
  have d2 := hz.2 (off + 2)
  have d3 := hz.2 (off + 3)
  have HBE := Lib.hid (or4q d0 d1 d2 d3)
  have HW : Hid (w4 zs off = zs.getD off 0 + 256 * zs.getD (off + 1) 0 + 65536 * zs.getD (off + 2) 0 + 16777216 * zs.getD (off + 3) 0) := Lib.hid rfl
  generalize zs.getD off 0 = x0 at *
  generalize zs.getD (off + 1) 0 = x1 at *
  generalize zs.getD (off + 2) 0 = x2 at *
  generalize zs.getD (off + 3) 0 = x3 at *
  obtain ⟨d00, d01⟩ := d0
  obtain ⟨d10, d11⟩ := d1
  obtain ⟨d20, d21⟩ := d2
  obtain ⟨d30, d31⟩ := d3
  clear cc hb hl hz
  have i0 : (0 : Int) < (len : Int) ∧ (1 : Int) < (len : Int) ∧ (2 : Int) < (len : Int) ∧ (3 : Int) < (len : Int) := by omega
  obtain ⟨i0, i1, i2, i3⟩ := i0
  go_enter Try.func70, Try.ntmps70
  go_wp2_with fail
  go_region
  go_wp2_with fail
  go_ret
  exact ⟨by rw [HW.out, ← HBE.out]; rfl, rfl⟩

set_option maxRecDepth 100000 in
set_option maxHeartbeats 8000000 in
theorem plimbs_any (zs : List Int) (w : World) (hz : D17 zs) :
    Calls Try.prog 54 #[.agg (ints .u8 zs).toArray] w fun e w' => e = .returned (.agg (ints .u64 (limL zs)).toArray) ∧ Below w.heap.size w w' := by
  have HZ := Lib.hid hz
  have HB := Lib.hid (boxes3 w (ints .u8 zs) (ints .u64 (List.replicate 5 0)) (ints .u64 (List.replicate 5 0)) 81 84 84)
  clear hz
  go_enter Try.func54, Try.ntmps54
  go_upto_region 2 with (fail)
  obtain ⟨H1, H2, H3, HE⟩ := HB.out
  change Code.wp _ _ _ _ (((w.alloc (.cells (ints .u8 zs).toArray 81)).alloc (.cells (ints .u64 (List.replicate 5 0)).toArray 84)).alloc (.cells (ints .u64 (List.replicate 5 0)).toArray 84))
  generalize ((w.alloc (.cells (ints .u8 zs).toArray 81)).alloc (.cells (ints .u64 (List.replicate 5 0)).toArray 84)).alloc (.cells (ints .u64 (List.replicate 5 0)).toArray 84) = wa at *
  obtain ⟨A, hA⟩ : ∃ A, A = w.heap.size := ⟨_, rfl⟩
  have HAW : Hid (w.heap.size ≤ A) := Lib.hid (by omega)
  rw [← hA] at H1 H2 H3 ⊢
  have H1 := Lib.hid H1
  have H2 := Lib.hid H2
  have H3 : Hid (Blk wa (A + 1 + 1) (ints .u64 (lO zs 0)) 84) := Lib.hid H3
  have HE : Hid (Ext w wa) := Lib.hid HE
  clear hA HB
  go_wp2_with fail
  go_loopw [6] (fun iv wr => ∃ (k : Nat), k ≤ 5 ∧ iv = .int .i64 (k : Int) ∧ Blk wr A (ints .u8 zs) 81 ∧ Blk wr (A + 1) (ints .u64 (List.replicate 5 0)) 84 ∧ Blk wr (A + 1 + 1) (ints .u64 (lO zs k)) 84 ∧ Ext w wr) (fun iv _ => 5 - (intOf iv).toNat)
  case atStart => exact ⟨0, by omega, rfl, H1.out, H2.out, H3.out, HE.out⟩
  case round =>
    clear H1 H2 H3 HE
    obtain ⟨k, hk, rfl, hb1, hb2, hb3, hbel⟩ := hrel
    have k0 : (0 : Int) ≤ (k : Int) := Int.natCast_nonneg _
    have H1 := Lib.hid hb1
    have H2 := Lib.hid hb2
    have H3 := Lib.hid hb3
    have HE := Lib.hid hbel
    by_cases hlk : k < 5
    · have k1 : (k : Int) < 5 := by omega
      obtain ⟨d, hd⟩ : ∃ d, d = 26 * k / 8 := ⟨_, rfl⟩
      obtain ⟨s, hs⟩ : ∃ s, s = 26 * k % 8 := ⟨_, rfl⟩
      have d1 : 26 * (k : Int) / 8 = (d : Int) := by omega
      have d2 : Int.tdiv (26 * (k : Int)) 8 = (d : Int) := by rw [Int.tdiv_eq_ediv_of_nonneg (by omega)]; exact d1
      have s1 : 26 * (k : Int) % 8 = (s : Int) := by omega
      have s2 : Int.tmod (26 * (k : Int)) 8 = (s : Int) := by rw [Int.tmod_eq_emod_of_nonneg (by omega)]; exact s1
      have s3 : (s : Int) < 64 := by omega
      have s4 : (0 : Int) ≤ (s : Int) := by omega
      have hcut := cut_from Try.underlying81 Try.sizeOf5 wr A d (by omega)
      have HW := Lib.hid (pword_any A d (17 - d) (17 - d) zs 81 wr hb1 HZ.out (by omega) (by omega))
      have HS : Hid (lO zs (k + 1) = (lO zs k).set k (w4 zs d / 2 ^ s % 67108864)) := Lib.hid (by rw [lO, hd, hs])
      have hwr : 0 ≤ w4 zs d ∧ w4 zs d ≤ 4294967295 := by
        have h0 := HZ.out.2 d
        have h1 := HZ.out.2 (d + 1)
        have h2 := HZ.out.2 (d + 2)
        have h3 := HZ.out.2 (d + 3)
        unfold w4
        omega
      have hdv : 0 ≤ w4 zs d / 2 ^ s ∧ w4 zs d / 2 ^ s ≤ 4294967295 := by
        have hp : (0 : Int) < 2 ^ s := Int.pow_pos (by omega)
        exact ⟨Int.ediv_nonneg hwr.1 (by omega), Int.le_trans (Int.ediv_le_self _ hwr.1) hwr.2⟩
      have m1 := mask26 (w4 zs d / 2 ^ s) hdv.1 (by omega)
      have f1 := hb3.free k
      have q3 := digit_q hb3 (i := k) (by rw [lO_length]; exact hlk)
      generalize (lO zs k).getD k 0 = old at q3
      clear hb1 hb2 hb3 hbel hd hs
      generalize w4 zs d = p at *
      obtain ⟨p0, p1⟩ := hwr
      go_wp2_with fail
      refine HW.out.mono ?_
      rintro e w5 ⟨rfl, rfl⟩
      go_wp2_with fail
      go_roundw
      case rel => exact ⟨k + 1, by omega, by go_num, (H1.out.drewN 1).far (by simp; omega) _, (H2.out.drewN 1).far (by simp) _, by rw [HS.out]; exact (H3.out.drewN 1).seti k _, Below.setCell (HE.out.trans (Ext.drew _)) (by have := HAW.out; simp; omega) _⟩
      case measure => simp [intOf]; omega
    · have hk5 : k = 5 := by omega
      subst hk5
      clear hb1 hb2 hb3 hbel
      have HL : Hid ((lO zs 5).length = 5) := Lib.hid (lO_length zs 5)
      have HR : Hid (limL zs = lO zs 5) := Lib.hid rfl
      generalize lO zs 5 = s at *
      have HI : Hid ((Try.prog.info? 84).map (·.size) = some (ints .u64 s).length) := Lib.hid (lim_size HL.out)
      have HLz : Hid ((ints .u64 s).length = (ints .u64 (List.replicate 5 0)).length) := Lib.hid (by rw [ints_length, HL.out]; rfl)
      go_wp2_with (first | (refine wpList_load_blk rfl _ _ rfl (A + 1 + 1) rfl _ _ _ _ H3.out Try.underlying84 HI.out ?_) | (refine wpList_store_blk rfl _ _ _ rfl (A + 1) (ints .u64 s) rfl rfl _ _ H2.out HLz.out HI.out (ints_one _ _) ?_; intro w5 hb5 hg5))
      refine bodyPost_ret (result_blk rfl _ (A + 1) _ _ _ _ rfl hb5 Try.underlying84 HI.out) rfl ?_
      exact ⟨by rw [HR.out], ext_grown HE.out hg5 (by have := HAW.out; omega)⟩

end Go.Proofs.Ytjnnhkodkbhbbaa

/- The walk of package pieces' move: the next bytes of the open string, laid over a block. Each theorem names its own conditions. -/
namespace Go.Proofs.Ytjnnhkodkbhbbaa
open Go.RowKit
set_option linter.unusedVariables false
set_option linter.unusedSimpArgs false

theorem splice_map (l c : List UInt8) (f : Nat) : splice (l.map bval) f (c.map bval) = (l.take f ++ c ++ l.drop (f + c.length)).map bval := by
  unfold splice
  simp
theorem num_one : (Try.prog.info? 5).map (·.size) = some 1 := by kernel_rfl
/-- A slice's length. -/
def lenV : Value → Nat
  | .slice _ n _ => n
  | _ => 0
theorem lenV_row {w : World} {v : Value} {vs : List Value} (h : Row1 w v vs) : lenV v = vs.length := by
  obtain ⟨a, cap, rfl, _⟩ := h
  rfl
theorem front_take (xr : List UInt8) (n : Nat) : ∃ c : List UInt8, c.length = Nat.min xr.length n ∧ xr = c ++ xr.drop c.length ∧ c = xr.take n := by
  refine ⟨xr.take n, by rw [List.length_take, Nat.min_comm], ?_, rfl⟩
  rcases Nat.le_total n xr.length with h | h
  · rw [List.length_take, Nat.min_eq_left h, List.take_append_drop]
  · rw [List.take_of_length_le h, List.drop_length, List.append_nil]
/-- The blocks ahead of Bo, but for M, are as they were. -/
def But (M Bo : Nat) (w w' : World) : Prop := ∀ k, k < Bo → k ≠ M → w'.heap[k]? = w.heap[k]?
theorem But.refl (M Bo : Nat) (w : World) : But M Bo w w := fun _ _ _ => rfl
theorem But.trans {M Bo : Nat} {a b c : World} (h : But M Bo a b) (g : But M Bo b c) : But M Bo a c := fun k hk hM => (g k hk hM).trans (h k hk hM)
theorem But.set {M Bo : Nat} {a b : World} (h : But M Bo a b) {p : Addr} (hp : p.block = M) (v : Value) : But M Bo a (b.setCell p v) := fun k hk hM => (heap_setCell_other b p k v (by rw [hp]; exact hM)).trans (h k hk hM)
theorem But.drew {M Bo : Nat} {a b : World} (h : But M Bo a b) : But M Bo a b.drew := h
theorem But.of_below {M Bo : Nat} {a b : World} (h : Below Bo a b) : But M Bo a b := fun k hk _ => h.block k hk
end Go.Proofs.Ytjnnhkodkbhbbaa

/- A scope in which the run jumps back to one label: what stands at each jump is proved to serve once, and the way to the label uses it. Nothing here speaks of a program. Each theorem names its own conditions. -/
namespace Go.Proofs.Ytjnnhkodkbhbbaa
set_option linter.unusedVariables false

section
variable {P : Program} {a : Act} {w : World} {Q : Exit → Act → World → Prop}
theorem Exit.jump_mono {l : Nat} {J J' : Act → World → Prop} (h : ∀ a w, J a w → J' a w) : ∀ {e : Exit} {a : Act} {w : World}, Exit.jump l J Q e a w → Exit.jump l J' Q e a w
  | .goto _, _, _, hh => ⟨hh.1, h _ _ hh.2⟩
  | .normal, _, _, hh => hh
  | .exit _, _, _, hh => hh
  | .ret, _, _, hh => hh
  | .panic _, _, _, hh => hh
  | .outgrown, _, _, hh => hh
theorem wp_scope_back {c rest : Code} (l : Nat) (J : Act → World → Prop) (μ : Act → World → Nat) (hf : findLabel c l = some rest)
    (first : (∀ a w, J a w → rest.wp P (Exit.jump l J Q) a w) → c.wp P (Exit.jump l J Q) a w)
    (pass : ∀ a w, J a w → rest.wp P (Exit.jump l (fun a' w' => J a' w' ∧ μ a' w' < μ a w) Q) a w) : (Code.scope c).wp P Q a w :=
  wp_scope_jumps l J μ hf (first fun a w h => Code.wp_mono (fun e a w h => Exit.jump_mono (fun _ _ h => h.1) h) (pass a w h)) pass
/-- The same, where what stands behind the label begins with nothing. -/
theorem wp_scope_back0 {c rest : Code} (l : Nat) (J : Act → World → Prop) (μ : Act → World → Nat) (hf : findLabel c l = some (Code.skip.seq rest))
    (first : (∀ a w, J a w → rest.wp P (Exit.jump l J Q) a w) → c.wp P (Exit.jump l J Q) a w)
    (pass : ∀ a w, J a w → rest.wp P (Exit.jump l (fun a' w' => J a' w' ∧ μ a' w' < μ a w) Q) a w) : (Code.scope c).wp P Q a w :=
  wp_scope_jumps l J μ hf (first fun a w h => Code.wp_mono (fun e a w h => Exit.jump_mono (fun _ _ h => h.1) h) (pass a w h)) fun a w h => wp_seq (wp_skip (pass a w h))
end

end Go.Proofs.Ytjnnhkodkbhbbaa

/- The walk of package pieces' Fill: a block is filled with what is still to be read. Each theorem names its own conditions. -/
namespace Go.Proofs.Ytjnnhkodkbhbbaa
open Go.RowKit
set_option linter.unusedVariables false
set_option linter.unusedSimpArgs false

/-- What is left behind the first of a list of strings. -/
theorem rowB_tail {w : World} {v : Value} {l : List UInt8} {ls : List (List UInt8)} (h : RowB w v (l :: ls)) :
    ∃ (b off cap : Nat) (x v' : Value), v = .slice (some ⟨b, off, none⟩) (ls.length + 1) cap ∧ cap ≤ maxLen ∧ b < w.heap.size ∧ w.cell? ⟨b, off, none⟩ = some x ∧ Row1 w x (l.map bval) ∧ RowB w v' ls ∧
      ∀ w', (Instr.sliceAt 24 v (some (.int .i64 1)) none none).run Try.prog w' = .ok v' w' := by
  obtain ⟨vals, hr, hlen, hx⟩ := h
  match vals, hlen with
  | x :: vals, hlen =>
    obtain ⟨v', hv', hrun⟩ := row_cut Try.underlying24 Try.sizeOf22 hr 1 (by simp)
    obtain ⟨a, cap, rfl, h1, h2, h3, h4⟩ := hr
    obtain ⟨b, off, rfl, h5, h6⟩ := h4 (by simp)
    have hl : vals.length = ls.length := by simpa using hlen
    refine ⟨b, off, cap, x, v', by rw [List.length_cons, hl], h2, h5, by simpa using h6 0 (by simp), hx 0 x l rfl rfl, ⟨vals, hv', hl, fun i y k hy hk => hx (i + 1) y k (by simpa using hy) (by simpa using hk)⟩, hrun⟩
theorem rowB_form {w : World} {v : Value} {ls : List (List UInt8)} (h : RowB w v ls) : ∃ a cap, v = .slice a ls.length cap ∧ cap ≤ maxLen ∧ ls.length ≤ cap := by
  obtain ⟨vals, hr, hlen, hx⟩ := h
  obtain ⟨a, cap, rfl, h1, h2, _⟩ := hr
  exact ⟨a, cap, by rw [hlen], h2, by omega⟩
theorem row_slice {w : World} {v : Value} {l : List Value} (h : Row1 w v l) : ∃ a n cap, v = .slice a n cap := by
  obtain ⟨a, cap, rfl, _⟩ := h
  exact ⟨_, _, _, rfl⟩
def behindAt (w : World) (M : Nat) : Nat := ((w.cell? ⟨M, 1, none⟩).map lenV).getD 0
theorem cut_row (w : World) (Bo p K C : Nat) (hp : p < K) (hKC : K ≤ C) : (Instr.sliceAt 22 (.slice (some ⟨Bo, 0, none⟩) K C) (some (.int .i64 (p : Int))) none none).run Try.prog w = .ok (.slice (some ⟨Bo, p, none⟩) (K - p) (C - p)) w := by
  have e2 : Try.prog.elem 22 = 5 := by unfold Program.elem; rw [Try.underlying22]
  have ht2 : Try.prog.underlying 22 = some (.slice (Try.prog.elem 22)) := by rw [e2]; exact Try.underlying22
  rw [run_sliceAt_slice w 22 _ _ _ _ ht2, run_slice_l (ht := ht2) (kl := .i64) (l := (p : Int)) (h0 := by omega) (h1 := by omega), e2, Try.sizeOf5]
  simp [sliced, WideShapes.add_plain, show ¬ C = p by omega]
/-- One more string is moved. -/
theorem fill_next {r c l1 : List UInt8} {ls : List (List UInt8)} {c2 : List UInt8} {K : Nat} (h : r = c ++ ([] ++ (l1 :: ls).flatten)) (hc : c.length ≤ K) (h2 : c2 = l1.take (K - c.length)) :
    r = (c ++ c2) ++ (l1.drop c2.length ++ ls.flatten) ∧ (c ++ c2).length ≤ K ∧ ((c ++ c2).length < K → l1.drop c2.length = []) := by
  refine ⟨?_, ?_, ?_⟩
  · rw [h, List.nil_append, List.flatten_cons, List.append_assoc]
    congr 1
    rw [← List.append_assoc]
    congr 1
    rw [h2]
    rcases Nat.le_total (K - c.length) l1.length with h | h
    · rw [List.length_take, Nat.min_eq_left h, List.take_append_drop]
    · rw [List.take_of_length_le h, List.drop_length, List.append_nil]
  · rw [List.length_append, h2, List.length_take]; omega
  · intro h3
    rw [List.length_append, h2, List.length_take] at h3
    refine List.drop_eq_nil_of_le ?_
    rw [h2, List.length_take]
    omega
theorem fill_row (c c2 l : List UInt8) : ((c ++ l.drop c.length).take c.length ++ c2 ++ (c ++ l.drop c.length).drop (c.length + c2.length)) = (c ++ c2) ++ l.drop (c ++ c2).length := by
  rw [List.take_append_of_le_length (Nat.le_refl _), List.take_length, List.length_append]
  congr 1
  rw [List.drop_append, List.drop_eq_nil_of_le (by omega), List.nil_append, List.drop_drop]
  congr 1
  omega
end Go.Proofs.Ytjnnhkodkbhbbaa

/- The walk of package pieces' Of. Each theorem names its own conditions. -/
namespace Go.Proofs.Ytjnnhkodkbhbbaa
open Go.RowKit
set_option linter.unusedVariables false
set_option linter.unusedSimpArgs false

end Go.Proofs.Ytjnnhkodkbhbbaa

/- clear(s) of a slice of bytes that lies in a block known whole. Nothing here speaks of a program. Each theorem names its own conditions. -/
namespace Go.Proofs.Ytjnnhkodkbhbbaa
open Go.RowKit
set_option linter.unusedVariables false

section
variable {P : Program} {w : World}
theorem zeroCells_one (x : Value) (n : Nat) : (Builtin.zeroCells #[x] n).toList = List.replicate n x := by
  unfold Builtin.zeroCells
  rw [Array.toList_map]
  apply List.ext_getElem
  · simp
  · intro i h1 h2
    simp [Nat.mod_one]
theorem run_clear_bytes {t e ty : TypeId} (ht : P.underlying t = some (.slice e)) (hz : ∀ w, (zeroValue e).run P w = .ok (.int .u8 0) w) (c o n cap : Nat) (cs : List Value) (tb : TypeId) (hb : Blk w c cs tb) (hn : o + n ≤ cs.length) :
    (Builtin.clear_ #[t] ty #[.slice (some ⟨c, o, none⟩) n cap]).run P w = .ok (.tuple #[]) (w.setCells c o (List.replicate n (.int .u8 0))) := by
  cases n with
  | zero => simp [Builtin.clear_, run_underlying ht, World.setCells]
  | succ n =>
    have hst := run_storeCells_cells (P := P) c o (List.replicate (n + 1) (.int .u8 0)) 0 w (fun j hj => by
      rw [hb.cell, List.getElem?_eq_getElem (by rw [List.length_replicate] at hj; omega)]
      rfl) (fun j _ => hb.free _) (fun v hv => by rw [List.eq_of_mem_replicate hv]; rfl)
    rw [Nat.add_zero] at hst
    simp [Builtin.clear_, run_underlying ht, hz, Value.cells, zeroCells_one, hst]
end

theorem laid_append : ∀ (vs a b : List Value), vs.length = b.length → laid (a ++ b) a.length vs = a ++ vs
  | [], a, [], _ => rfl
  | v :: r, a, x :: b, h => by
    rw [laid, List.set_append_right _ _ (Nat.le_refl _), Nat.sub_self, List.set_cons_zero]
    have ih := laid_append r (a ++ [v]) b (by simpa using h)
    simpa using ih

end Go.Proofs.Ytjnnhkodkbhbbaa

/- The walk of package pieces' move: the next bytes of the open string, laid over a block. Each theorem names its own conditions. -/
namespace Go.Proofs.Ytjnnhkodkbhbbaa
open Go.RowKit
set_option linter.unusedVariables false
set_option linter.unusedSimpArgs false

set_option maxRecDepth 100000 in
set_option maxHeartbeats 4000000 in
theorem move_cap (w0 w : World) (M Bo f K C : Nat) (ov bv : Value) (o l : List UInt8) (T : TypeId) (hM : Blk w M [ov, bv] 87) (ho : Row1 w0 ov (o.map bval)) (hl : Blk w Bo (l.map bval) T) (hlen : l.length = C) (hf : f < K) (hKC : K ≤ C) (hK : C ≤ 128)
    (he : Ext w0 w) (h0 : w0.heap.size ≤ M) (hMB : M < Bo) :
    Calls Try.prog 74 #[.pointer (some ⟨M, 0, none⟩), .slice (some ⟨Bo, f, none⟩) (K - f) (C - f)] w fun e w' =>
      ∃ ov' c, c = o.take (K - f) ∧ e = .returned (.int .i64 (c.length : Int)) ∧ Blk w' M [ov', bv] 87 ∧ Row1 w0 ov' ((o.drop c.length).map bval) ∧ Blk w' Bo ((l.take f ++ c ++ l.drop (f + c.length)).map bval) T ∧ Below M w w' ∧ But M Bo w w' := by
  obtain ⟨c, hcl, hcx, hct⟩ := front_take o (K - f)
  have hcm : c.length ≤ o.length := by rw [hcl]; exact Nat.min_le_left _ _
  have hcm2 : c.length ≤ K - f := by rw [hcl]; exact Nat.min_le_right _ _
  obtain ⟨v', hv', hrun⟩ := row_cut Try.underlying22 Try.sizeOf5 ho c.length (by rw [List.length_map]; exact hcm)
  rw [← List.map_drop] at hv'
  obtain ⟨a3, cap3, rfl, t1, t2, t3, t4⟩ := ho
  rw [List.length_map] at t1 hrun hM
  unfold maxLen at t2
  have HCS : Hid (0 < (c.map bval).length → some (⟨Bo, f, none⟩ : Addr) = some ⟨Bo, f, none⟩ ∧ ∃ ad, a3 = some ad ∧ ∀ (j : Nat) (v : Value), (c.map bval)[j]? = some v → w.cell? (ad.add j) = some v) := Lib.hid (fun h => by
    rw [List.length_map] at h
    obtain ⟨b3, off3, rfl, t5, t6⟩ := t4 (by intro e; have h := congrArg List.length e; rw [List.length_map] at h; simp only [List.length_nil] at h; omega)
    refine ⟨rfl, _, rfl, fun j v hj => ?_⟩
    have hjl : j < c.length := by
      rcases Nat.lt_or_ge j c.length with h | h
      · exact h
      · rw [List.getElem?_eq_none (by rw [List.length_map]; exact h)] at hj; cases hj
    have e := t6 j (by rw [List.length_map]; omega)
    have e2 : (o.map bval)[j]? = (c.map bval)[j]? := by rw [hcx, List.map_append, List.getElem?_append_left (by rw [List.length_map]; exact hjl)]
    rw [WideShapes.add_plain, ← hj, ← e2, ← e]
    exact he.cell (p := ⟨b3, off3 + j, none⟩) t5)
  have HBO := Lib.hid (hl : w.heap[Bo]? = some (.cells (l.map bval).toArray T (0, 0)))
  have HCL : Hid ((c.map bval).length = Nat.min o.length (K - f)) := Lib.hid (by rw [List.length_map, hcl])
  have HFT2 : Hid (f + (c.map bval).length ≤ (l.map bval).length) := Lib.hid (by rw [List.length_map, List.length_map, hlen]; omega)
  have HBR := Lib.hid (Below.refl M w)
  have HSP := Lib.hid (splice_map l c f)
  have HM := Lib.hid hM
  obtain ⟨a4, cap4, rfl, _⟩ := id hv'
  have HV := Lib.hid hv'
  generalize ((o.drop c.length).map bval).length = n4 at *
  have HCT := Lib.hid hct
  have c0 := hM.cell 0
  have f0 := hM.free 0
  simp only [List.getElem?_cons_zero, List.getElem?_cons_succ] at c0
  have hcm3 : (c.length : Int) ≤ (o.length : Int) := by omega
  have hc0 : (0 : Int) ≤ (c.length : Int) := Int.natCast_nonneg _
  have hMlt := hM.lt
  clear hM hl hv' hcx hct t3 t4 he hcl
  go_enter Try.func74, Try.ntmps74
  go_upto_region 2 with (refine wpList_copy_splice rfl (.tmp 6) (.tmp 10) 22 22 rfl 5 Try.underlying22 num_one (some ⟨Bo, f, none⟩) a3 (K - f) (C - f) o.length cap3 rfl rfl Bo f (l.map bval) T HBO.out (c.map bval) HCL.out HCS.out HFT2.out (bval_one _) Bo w (Below.refl _ w) (Nat.le_refl _) ?_; intro w5 hc5 hb5)
  have hg5 := hc5.out
  rw [HSP.out] at hg5
  have HM5 := Lib.hid (HM.out.same (hb5.block M (by omega)))
  have HO5 : Hid (Blk w5 Bo ((l.take f ++ c ++ l.drop (f + c.length)).map bval) T) := Lib.hid hg5
  have HE5 := Lib.hid (hb5.mono (Nat.le_of_lt hMB))
  have HU5 : Hid (But M Bo w w5) := Lib.hid (But.of_below hb5)
  have c0 := HM5.out.cell 0
  have f0 := HM5.out.free 0
  simp only [List.getElem?_cons_zero, List.getElem?_cons_succ] at c0
  clear hc5 hb5 hg5 HCS HBO HCL HFT2 HBR HSP HM
  go_wp2_with fail
  go_ret
  exact ⟨_, c, HCT.out, rfl, HM5.out.set 0 _, HV.out, HO5.out.far (by simp; omega) _, Below.setCell HE5.out (by simp) _, HU5.out.set rfl _⟩
end Go.Proofs.Ytjnnhkodkbhbbaa

/- The walk of package pieces' Fill: a block is filled with what is still to be read. Each theorem names its own conditions. -/
namespace Go.Proofs.Ytjnnhkodkbhbbaa
open Go.RowKit
set_option linter.unusedVariables false
set_option linter.unusedSimpArgs false

/-- A message in block M of which r is still to be read; its strings lie in w0. -/
def MsgSt (w0 w : World) (M : Nat) (r : List UInt8) : Prop :=
  ∃ (ov bv : Value) (o : List UInt8) (ls : List (List UInt8)), Blk w M [ov, bv] 87 ∧ Row1 w0 ov (o.map bval) ∧ RowB w0 bv ls ∧ r = o ++ ls.flatten
theorem MsgSt.same {w0 w w' : World} {M : Nat} {r : List UInt8} (h : MsgSt w0 w M r) (hb : w'.heap[M]? = w.heap[M]?) : MsgSt w0 w' M r := by
  obtain ⟨ov, bv, o, ls, h1, h2⟩ := h
  exact ⟨ov, bv, o, ls, h1.same hb, h2⟩
theorem MsgSt.lt {w0 w : World} {M : Nat} {r : List UInt8} (h : MsgSt w0 w M r) : M < w.heap.size := by
  obtain ⟨ov, bv, o, ls, h1, h2⟩ := h
  exact h1.lt
/-- What Fill owes. -/
def FillSaid (w0 w w' : World) (M Bo K : Nat) (r l : List UInt8) (T : TypeId) (e : Ending) : Prop :=
  ∃ c, c = r.take K ∧ e = .returned (.int .i64 (c.length : Int)) ∧ MsgSt w0 w' M (r.drop K) ∧ Blk w' Bo ((c ++ l.drop c.length).map bval) T ∧ Below M w w'
set_option maxRecDepth 100000 in
set_option maxHeartbeats 8000000 in
theorem fill_cap (w0 w : World) (M Bo K C : Nat) (r l : List UInt8) (T : TypeId) (hS : MsgSt w0 w M r) (hl : Blk w Bo (l.map bval) T) (hlen : l.length = C) (hK0 : 0 < K) (hKC : K ≤ C) (hK : C ≤ 128)
    (he : Ext w0 w) (h0 : w0.heap.size ≤ M) (hMB : M < Bo) :
    Calls Try.prog 68 #[.pointer (some ⟨M, 0, none⟩), .slice (some ⟨Bo, 0, none⟩) K C] w fun e w' => FillSaid w0 w w' M Bo K r l T e ∧ But M Bo w w' := by
  obtain ⟨ov, bv, o, ls, hM, ho, hb, hr⟩ := hS
  have hmv := move_cap w0 w M Bo 0 K C ov bv o l T hM ho hl hlen hK0 hKC hK he h0 hMB
  rw [Nat.sub_zero, Nat.sub_zero] at hmv
  have HMV := Lib.hid hmv
  have HB := Lib.hid hb
  have HR := Lib.hid hr
  have HE0 := Lib.hid he
  have HL := Lib.hid hlen
  clear hmv hb hr hM ho hl he hlen
  go_enter Try.func68, Try.ntmps68
  go_wp2_with fail
  refine HMV.out.mono ?_
  rintro e w1 ⟨ov1, c, hc, rfl, hM, ho, hB, hbel, hbut⟩
  have HU1 := Lib.hid hbut
  have HM1 := Lib.hid hM
  have HO1 := Lib.hid ho
  have HB1 : Hid (Blk w1 Bo ((c ++ l.drop c.length).map bval) T) := Lib.hid (by simpa using hB)
  have HE1 := Lib.hid hbel
  have HC := Lib.hid hc
  clear hM ho hB hbel hc HMV hbut
  have HREL : Hid (r = c ++ (o.drop c.length ++ ls.flatten) ∧ c.length ≤ K ∧ (c.length < K → o.drop c.length = [])) := Lib.hid (by
    refine ⟨?_, ?_, ?_⟩
    · rw [HR.out, HC.out]
      rcases Nat.le_total K o.length with h | h
      · rw [List.length_take, Nat.min_eq_left h, ← List.append_assoc, List.take_append_drop]
      · rw [List.take_of_length_le h, List.drop_length, List.nil_append]
    · rw [HC.out, List.length_take]; exact Nat.min_le_left _ _
    · intro h
      rw [HC.out, List.length_take] at h
      refine List.drop_eq_nil_of_le ?_
      rw [HC.out, List.length_take]
      show o.length ≤ min K o.length
      omega)
  go_wp2_with fail
  go_loopw [5] (fun i5 wr => ∃ (c o : List UInt8) (ls : List (List UInt8)) (ov bv : Value), i5 = .int .i64 (c.length : Int) ∧ (r = c ++ (o ++ ls.flatten) ∧ c.length ≤ K ∧ (c.length < K → o = [])) ∧ Blk wr M [ov, bv] 87 ∧ Row1 w0 ov (o.map bval) ∧ RowB w0 bv ls ∧ Blk wr Bo ((c ++ l.drop c.length).map bval) T ∧ Below M w wr ∧ But M Bo w wr) (fun _ wr => behindAt wr M)
  case atStart => exact ⟨c, o.drop c.length, ls, ov1, bv, rfl, HREL.out, HM1.out, HO1.out, HB.out, HB1.out, HE1.out, HU1.out⟩
  case round =>
    clear HREL HM1 HO1 HB HB1 HE1 HC HR HU1
    obtain ⟨c, o, ls, ov, bv, rfl, ⟨hr, hcK, hco⟩, hM, ho, hb, hB, hbel, hbut⟩ := hrel
    have HBU := Lib.hid hbut
    clear hbut
    have c0 := hM.cell 0
    have c1 := hM.cell 1
    have f0 := hM.free 0
    have f1 := hM.free 1
    simp only [List.getElem?_cons_zero, List.getElem?_cons_succ] at c0 c1
    by_cases hlt : c.length < K
    · have ho2 := hco hlt
      subst ho2
      have k1 : (c.length : Int) < (K : Int) := by omega
      cases ls with
      | nil =>
        obtain ⟨ab, capb, rfl, g1, g2⟩ := rowB_form hb
        have HF : Hid (MsgSt w0 wr M (r.drop K)) := Lib.hid ⟨ov, _, [], [], hM, ho, hb, by rw [hr]; simpa using Nat.le_of_lt hlt⟩
        have HBX := Lib.hid hB
        have HBL := Lib.hid hbel
        have HT : Hid (c = r.take K) := Lib.hid (by rw [hr]; simp only [List.flatten_nil, List.append_nil]; exact (List.take_of_length_le hcK).symm)
        clear hM ho hb hB hbel hr hco
        simp only [List.length_nil] at c1
        go_wp2_with fail
        go_ret
        unfold FillSaid
        exact ⟨⟨c, HT.out, rfl, HF.out, HBX.out, HBL.out⟩, HBU.out⟩
      | cons l1 ls =>
        obtain ⟨b', off', capb, xv, bv', rfl, g1, g2, g3, g4, g5, g6⟩ := rowB_tail hb
        obtain ⟨xa, xn, xcap, hxe⟩ := row_slice g4
        subst hxe
        obtain ⟨ba, bcap, hbe, g7, g8⟩ := rowB_form g5
        subst hbe
        have cx : wr.cell? ⟨b', off', none⟩ = some (.slice xa xn xcap) := by
          rw [← g3]
          exact (Below.trans HE0.out (hbel.mono h0)).cell (p := ⟨b', off', none⟩) g2
        have hcut := cut_row wr Bo c.length K C hlt hKC
        have n0 : (0 : Int) ≤ (ls.length : Int) := Int.natCast_nonneg _
        have n1 : (0 : Int) < (ls.length : Int) + 1 := by omega
        have n2 : (0 : Int) < ((ls.length + 1 : Nat) : Int) := by omega
        have n3 : (1 : Int) ≤ ((ls.length + 1 : Nat) : Int) := by omega
        have HFT := Lib.hid (show behindAt wr M = ls.length + 1 by unfold behindAt; rw [c1]; rfl)
        have HR := Lib.hid hr
        have HM := Lib.hid hM
        have HBX := Lib.hid hB
        have HBL := Lib.hid hbel
        have HX := Lib.hid g4
        have HBV := Lib.hid g5
        unfold maxLen at g1 g7
        clear hM ho hb hB hbel hr hco g2 g3 g4 g5
        go_upto_region 3 with (fail)
        go_region
        have HM2 : Hid (Blk ((wr.setCell ⟨M, 0, none⟩ (.slice xa xn xcap)).setCell ⟨M, 1, none⟩ (.slice ba ls.length bcap)).drew M [.slice xa xn xcap, .slice ba ls.length bcap] 87) := Lib.hid (((HM.out.set 0 _).set 1 _).drewN 1)
        have HBX2 : Hid (Blk ((wr.setCell ⟨M, 0, none⟩ (.slice xa xn xcap)).setCell ⟨M, 1, none⟩ (.slice ba ls.length bcap)).drew Bo ((c ++ l.drop c.length).map bval) T) := Lib.hid (((HBX.out.far (by simp; omega) _).far (by simp; omega) _).drewN 1)
        have HBL2 : Hid (Below M w ((wr.setCell ⟨M, 0, none⟩ (.slice xa xn xcap)).setCell ⟨M, 1, none⟩ (.slice ba ls.length bcap)).drew) := Lib.hid ((Below.setCell (Below.setCell HBL.out (by simp) _) (by simp) _).drew)
        have HBU2 : Hid (But M Bo w ((wr.setCell ⟨M, 0, none⟩ (.slice xa xn xcap)).setCell ⟨M, 1, none⟩ (.slice ba ls.length bcap)).drew) := Lib.hid ((HBU.out.set rfl _).set rfl _).drew
        generalize ((wr.setCell ⟨M, 0, none⟩ (.slice xa xn xcap)).setCell ⟨M, 1, none⟩ (.slice ba ls.length bcap)).drew = w2 at *
        clear HM HBX HBL c0 c1 f0 f1 cx
        have HMV := Lib.hid (move_cap w0 w2 M Bo c.length K C _ _ l1 (c ++ l.drop c.length) T HM2.out HX.out HBX2.out (by simp [HL.out]; omega) hlt hKC hK (Below.trans HE0.out (HBL2.out.mono h0)) h0 hMB)
        have hcut := cut_row w2 Bo c.length K C hlt hKC
        go_wp2_with fail
        refine HMV.out.mono ?_
        rintro e w3 ⟨ov', c2, hc2, rfl, hM, ho, hB, hbel, hbut⟩
        have HBU3 := Lib.hid (HBU2.out.trans hbut)
        rw [fill_row] at hB
        have HN := Lib.hid (fill_next HR.out hcK hc2)
        have HM3 := Lib.hid hM
        have HO3 := Lib.hid ho
        have HB3 := Lib.hid hB
        have HBL3 := Lib.hid (Below.trans HBL2.out hbel)
        have hc2l : (c2.length : Int) ≤ 128 := by have := HN.out.2.1; rw [List.length_append] at this; omega
        have hc20 : (0 : Int) ≤ (c2.length : Int) := Int.natCast_nonneg _
        have c1 := HM3.out.cell 1
        simp only [List.getElem?_cons_zero, List.getElem?_cons_succ] at c1
        have HMS := Lib.hid (show behindAt w3 M = ls.length by unfold behindAt; rw [c1]; rfl)
        clear hM ho hB hbel hbut hc2 HMV HM2 HBX2 HBL2 c1
        go_wp2_with fail
        go_roundw
        case rel => exact ⟨c ++ c2, _, ls, _, _, by rw [List.length_append]; go_num, HN.out, HM3.out, HO3.out, HBV.out, HB3.out, HBL3.out, HBU3.out⟩
        case measure => rw [HMS.out, HFT.out]; omega
    · have hcK2 : c.length = K := by omega
      have hlt2 : ¬ (c.length : Int) < (K : Int) := by omega
      have hd2 : decide ((c.length : Int) < (K : Int)) = false := decide_eq_false hlt2
      have HF : Hid (MsgSt w0 wr M (r.drop K)) := Lib.hid ⟨ov, bv, o, ls, hM, ho, hb, by rw [hr, List.drop_append_of_le_length (by omega), List.drop_of_length_le (by omega), List.nil_append]⟩
      have HBX := Lib.hid hB
      have HBL := Lib.hid hbel
      have HT : Hid (c = r.take K) := Lib.hid (by rw [hr, List.take_append_of_le_length (by omega), List.take_of_length_le (by omega)])
      clear hM ho hb hB hbel hr hco hcK2
      go_wp2_with fail
      go_ret
      unfold FillSaid
      exact ⟨⟨c, HT.out, rfl, HF.out, HBX.out, HBL.out⟩, HBU.out⟩
theorem fill_any (w0 w : World) (M Bo K : Nat) (r l : List UInt8) (T : TypeId) (hS : MsgSt w0 w M r) (hl : Blk w Bo (l.map bval) T) (hlen : l.length = K) (hK0 : 0 < K) (hK : K ≤ 128)
    (he : Ext w0 w) (h0 : w0.heap.size ≤ M) (hMB : M < Bo) :
    Calls Try.prog 68 #[.pointer (some ⟨M, 0, none⟩), .slice (some ⟨Bo, 0, none⟩) K K] w fun e w' => FillSaid w0 w w' M Bo K r l T e :=
  (fill_cap w0 w M Bo K K r l T hS hl hlen hK0 (Nat.le_refl _) hK he h0 hMB).mono fun _ _ h => h.1
end Go.Proofs.Ytjnnhkodkbhbbaa

/- The walk of package pieces' Of. Each theorem names its own conditions. -/
namespace Go.Proofs.Ytjnnhkodkbhbbaa
open Go.RowKit
set_option linter.unusedVariables false
set_option linter.unusedSimpArgs false

theorem msg_size : (Try.prog.info? 87).map (·.size) = some (#[Value.slice none 0 0, Value.slice none 0 0]).size := by kernel_rfl
set_option maxRecDepth 100000 in
set_option maxHeartbeats 4000000 in
theorem of_any (a : Option Addr) (n cap : Nat) (w : World) :
    Calls Try.prog 53 #[.slice a n cap] w fun e w' => e = .returned (.agg #[.slice none 0 0, .slice a n cap]) ∧ Below w.heap.size w w' := by
  go_enter Try.func53, Try.ntmps53
  go_wp2_with fail
  refine bodyPost_ret (results_cell_row rfl _ _ w.heap.size _ _ _ _ rfl (Blk.made w [.slice none 0 0, .slice a n cap] 87) Try.underlying87 rfl msg_size) rfl ?_
  exact ⟨rfl, Ext.alloc w (.cells #[.slice none 0 0, .slice a n cap] 87)⟩
end Go.Proofs.Ytjnnhkodkbhbbaa

/- The walk of package poly's folded. Each theorem names its own conditions. -/
namespace Go.Proofs.Ytjnnhkodkbhbbaa
open Go.RowKit
set_option linter.unusedVariables false
set_option linter.unusedSimpArgs false

/-- A slice of an array from a variable on, its end too. -/
theorem cut_end {P : Program} {t : TypeId} {n : Nat} {e : TypeId} (ht : P.underlying t = some (.array n e)) (h : ∀ w, (sizeOf e).run P w = .ok 1 w) (w : World) (A p : Nat) (hp : p ≤ n) :
    ∃ o, o + (n - p) ≤ n ∧ (p < n → o = p) ∧ (Instr.sliceAt t (.pointer (some ⟨A, 0, none⟩)) (some (.int .i64 (p : Int))) none none).run P w = .ok (.slice (some ⟨A, o, none⟩) (n - p) (n - p)) w := by
  have e1 : P.arrayLen t = n := by unfold Program.arrayLen; rw [ht]
  have e2 : P.elem t = e := by unfold Program.elem; rw [ht]
  have hr := run_sliceAt_array_l w t ⟨A, 0, none⟩ (by rw [e1, e2]; exact ht) .i64 (p : Int) (by omega) (by rw [e1]; omega)
  rw [e2, h, e1] at hr
  by_cases hpn : n = p
  · refine ⟨0, by omega, by omega, ?_⟩
    rw [hr]
    simp [slicedAt, hpn]
  · refine ⟨p, by omega, fun _ => rfl, ?_⟩
    rw [hr]
    simp [slicedAt, Addr.add, hpn]
    exact fun h => h.symm
/-- The 1 and the noughts behind it, laid over a block. -/
theorem laid_one (c l : List UInt8) (f o : Nat) (hf : c.length = f) (h16 : f ≤ 16) (hl : l.length = 17) (ho : f + 1 < 17 → o = f + 1) :
    laid (((c ++ l.drop f).map bval).set f (.int .u8 1)) o (List.replicate (16 - f) (.int .u8 0)) = (onB c).map bval := by
  have e0 : (Value.int .u8 1) = bval 1 := rfl
  have e1 : (c ++ l.drop f).set f 1 = c ++ [1] ++ l.drop (f + 1) := by
    rw [List.set_append_right _ _ (by omega), hf, Nat.sub_self, List.append_assoc]
    congr 1
    rw [List.drop_eq_getElem_cons (by omega), List.set_cons_zero]
    rfl
  have e2 : (List.replicate (16 - f) (Value.int .u8 0)) = (List.replicate (16 - f) (0 : UInt8)).map bval := by rw [List.map_replicate]; rfl
  rw [e0, ← List.map_set, e1, e2]
  unfold onB
  rw [hf]
  by_cases h : f + 1 < 17
  · rw [ho h, List.map_append]
    have h3 : f + 1 = ((c ++ [1]).map bval).length := by simp; omega
    have h4 := laid_append ((List.replicate (16 - f) (0 : UInt8)).map bval) ((c ++ [1]).map bval) ((l.drop (f + 1)).map bval) (by simp; omega)
    rw [← h3] at h4
    rw [h4, ← List.map_append]
    simp
  · have h3 : f = 16 := by omega
    subst h3
    simp [laid, hl]
theorem fL_near {R : List Int} (hR : Lim 67108863 R) (m : List UInt8) : ∀ n, Near (fL R m n)
  | 0 => Near.zero
  | n + 1 => by
    have a := addL_val (fL_near hR m n).lim (blk_lim m n).1
    exact (timL_val (a.1.up (by omega)) hR).1
theorem ptimesL_any {x y : List Int} (hx : Lim 268435455 x) (hy : Lim 67108863 y) (w : World) :
    Calls Try.prog 69 #[.agg (ints .u64 x).toArray, .agg (ints .u64 y).toArray] w fun e w' => e = .returned (.agg (ints .u64 (timL x y)).toArray) ∧ Below w.heap.size w w' := by
  obtain ⟨a, b, c, d, e, rfl, h1, h2, h3, h4, h5⟩ := hx
  obtain ⟨f, g, h, i, j, rfl, k1, k2, k3, k4, k5⟩ := hy
  exact ptimes_any a b c d e f g h i j h1 h2 h3 h4 h5 k1 k2 k3 k4 k5 w
theorem rowB_any {w : World} {v : Value} {ls : List (List UInt8)} (h : RowB w v ls) : ∃ a cap, v = .slice a ls.length cap := by
  obtain ⟨a, cap, rfl, _⟩ := rowB_form h
  exact ⟨a, cap, rfl⟩

/-- The state of the fold of m: n blocks folded, the next piece of it laid in the block. -/
structure PlySt (w0 w : World) (A B : Nat) (R : List Int) (m : List UInt8) (n : Nat) (c l : List UInt8) : Prop where
  all : l.length = 17
  piece : c = (m.drop (16 * n)).take 16
  few : n ≤ (m.length + 15) / 16
  msg : MsgSt w0 w A ((m.drop (16 * n)).drop 16)
  blkR : Blk w (A + 1) (ints .u64 R) 84
  blkZ : Blk w (A + 1 + 1) (ints .u64 (List.replicate 5 0)) 84
  blkS : Blk w (A + 1 + 1 + 1) (ints .u64 (fL R m n)) 84
  blkX : Blk w B ((c ++ l.drop c.length).map bval) 81

set_option maxRecDepth 100000 in
set_option maxHeartbeats 8000000 in
theorem pfolded_any (v : Value) (ls : List (List UInt8)) (R : List Int) (w0 w : World) (hv : RowB w0 v ls) (he0 : Ext w0 w) (hR : Lim 67108863 R) (hm : ls.flatten.length ≤ 1099511627776) :
    Calls Try.prog 52 #[.agg #[.slice none 0 0, v], .agg (ints .u64 R).toArray] w fun e w' => e = .returned (.agg (ints .u64 (fL R ls.flatten ((ls.flatten.length + 15) / 16))).toArray) ∧ Below w.heap.size w w' := by
  obtain ⟨a, cap, rfl⟩ := rowB_any hv
  obtain ⟨m, hmm⟩ : ∃ m, m = ls.flatten := ⟨_, rfl⟩
  rw [← hmm] at hm ⊢
  have HMD := Lib.hid hmm
  have HRB := Lib.hid hv
  have HE0 := Lib.hid he0
  have HR := Lib.hid hR
  have HML := Lib.hid hm
  have HB := Lib.hid (boxes4 w [.slice none 0 0, .slice a ls.length cap] (ints .u64 R) (ints .u64 (List.replicate 5 0)) (ints .u64 (List.replicate 5 0)) 87 84 84 84)
  clear hmm hv he0 hR hm
  go_enter Try.func52, Try.ntmps52
  go_upto_region 2 with (fail)
  obtain ⟨H1, H2, H3, H4, HE⟩ := HB.out
  change Code.wp _ _ _ _ ((((w.alloc (.cells #[.slice none 0 0, .slice a ls.length cap] 87)).alloc (.cells (ints .u64 R).toArray 84)).alloc (.cells (ints .u64 (List.replicate 5 0)).toArray 84)).alloc (.cells (ints .u64 (List.replicate 5 0)).toArray 84))
  change Blk ((((w.alloc (.cells #[.slice none 0 0, .slice a ls.length cap] 87)).alloc (.cells (ints .u64 R).toArray 84)).alloc (.cells (ints .u64 (List.replicate 5 0)).toArray 84)).alloc (.cells (ints .u64 (List.replicate 5 0)).toArray 84)) w.heap.size [.slice none 0 0, .slice a ls.length cap] 87 at H1
  generalize (((w.alloc (.cells #[.slice none 0 0, .slice a ls.length cap] 87)).alloc (.cells (ints .u64 R).toArray 84)).alloc (.cells (ints .u64 (List.replicate 5 0)).toArray 84)).alloc (.cells (ints .u64 (List.replicate 5 0)).toArray 84) = wa at *
  obtain ⟨A, hA⟩ : ∃ A, A = w.heap.size := ⟨_, rfl⟩
  have HAW : Hid (w.heap.size ≤ A) := Lib.hid (by omega)
  have HAW0 : Hid (w0.heap.size ≤ A) := Lib.hid (by rw [hA]; exact HE0.out.size)
  rw [← hA] at H1 H2 H3 H4 ⊢
  have HM : Hid (MsgSt w0 wa A m) := Lib.hid ⟨_, _, [], ls, H1, Row1.nil w0, HRB.out, by rw [HMD.out]; simp⟩
  have H2 := Lib.hid H2
  have H3 := Lib.hid H3
  have H4 : Hid (Blk wa (A + 1 + 1 + 1) (ints .u64 (fL R m 0)) 84) := Lib.hid H4
  have HE : Hid (Ext w wa) := Lib.hid HE
  clear hA HB H1
  have HXA := Ext.alloc wa (.cells (ints .u8 (List.replicate 17 0)).toArray 81)
  obtain ⟨B, hB⟩ : ∃ B, B = wa.heap.size := ⟨_, rfl⟩
  have HAB : Hid (A + 1 + 1 + 1 < B) := Lib.hid (by have := H4.out.lt; omega)
  have HO : Hid (Blk (wa.alloc (.cells (ints .u8 (List.replicate 17 0)).toArray 81)) B ((List.replicate 17 (0 : UInt8)).map bval) 81) := Lib.hid (by rw [hB]; exact Blk.made wa (ints .u8 (List.replicate 17 0)) 81)
  have HM := Lib.hid (HM.out.same (heap_alloc_old wa (.cells (ints .u8 (List.replicate 17 0)).toArray 81) HM.out.lt))
  have H2 := Lib.hid (ext_blk H2.out HXA)
  have H3 := Lib.hid (ext_blk H3.out HXA)
  have H4 := Lib.hid (ext_blk H4.out HXA)
  have HE := Lib.hid (HE.out.trans HXA)
  clear HXA
  go_upto_region 3 with (fail)
  change Code.wp _ _ _ _ (wa.alloc (.cells (ints .u8 (List.replicate 17 0)).toArray 81))
  rw [← hB]
  clear hB
  generalize wa.alloc (.cells (ints .u8 (List.replicate 17 0)).toArray 81) = wb at *
  have HF := Lib.hid (fill_cap w0 wb A B 16 17 m (List.replicate 17 0) 81 HM.out HO.out rfl (by omega) (by omega) (by omega) (HE0.out.trans HE.out) HAW0.out (by have := HAB.out; omega))
  clear HM HO
  go_wp2_with fail
  refine HF.out.mono ?_
  rintro e w7 ⟨hf, hbut⟩
  unfold FillSaid at hf
  obtain ⟨c, hc, rfl, hM, hO, hbel⟩ := hf
  have HE7 : Hid (Ext w w7) := Lib.hid (Below.trans HE.out (hbel.mono HAW.out))
  have HST : Hid (PlySt w0 w7 A B R m 0 c (List.replicate 17 0)) := Lib.hid ⟨rfl, hc, by omega, hM, H2.out.same (hbut (A + 1) (by have := HAB.out; omega) (by omega)), H3.out.same (hbut (A + 1 + 1) (by have := HAB.out; omega) (by omega)), H4.out.same (hbut (A + 1 + 1 + 1) (by have := HAB.out; omega) (by omega)), hO⟩
  clear H2 H3 H4 HE hc hM hO hbel hbut HF
  go_wp2_with fail
  go_loopg [7] (m.length + 16) (fun gk i7 wr => ∃ (n : Nat) (c l : List UInt8), gk = m.length + 16 - n ∧ i7 = .int .i64 (c.length : Int) ∧ PlySt w0 wr A B R m n c l ∧ Ext w wr)
  case atStart => exact ⟨0, c, List.replicate 17 0, rfl, rfl, HST.out, HE7.out⟩
  case round =>
    clear HST HE7
    obtain ⟨n, c, l, hgk, rfl, hst, hbel⟩ := hrel
    have c0 : (0 : Int) ≤ (c.length : Int) := Int.natCast_nonneg _
    have hc16 : c.length ≤ 16 := by rw [hst.piece, List.length_take]; omega
    have hcl : c.length = min 16 (m.length - 16 * n) := by rw [hst.piece, piece_len]
    have HGK := Lib.hid hgk
    have HCL := Lib.hid hcl
    have HST := Lib.hid hst
    have HE := Lib.hid hbel
    clear hgk hst hbel hcl
    obtain ⟨f, hf⟩ : ∃ f, f = c.length := ⟨_, rfl⟩
    have HFE := Lib.hid hf
    rw [← hf] at c0 hc16 ⊢
    clear hf
    by_cases hpos : 0 < f
    · have g1 : (0 : Int) < (f : Int) := by omega
      have g2 : (f : Int) < 17 := by omega
      have g3 : (f : Int) + 1 ≤ 17 := by omega
      have HXL : Hid ((c ++ l.drop c.length).length = 17) := Lib.hid (by rw [List.length_append, List.length_drop, HST.out.all, ← HFE.out]; omega)
      have q0 : wr.cell? ⟨B, f, none⟩ = some (.int .u8 (((c ++ l.drop c.length).getD f 0).toNat : Int)) := by rw [HST.out.blkX.cell, bval_get (by rw [HXL.out]; omega)]
      have f0 := HST.out.blkX.free f
      have HB3 := Lib.hid (HST.out.blkX.set f (.int .u8 1))
      generalize (((c ++ l.drop c.length).getD f 0).toNat : Int) = z0 at *
      obtain ⟨o, ho1, ho2, hs⟩ := cut_end Try.underlying81 Try.sizeOf5 (wr.setCell ⟨B, f, none⟩ (.int .u8 1)) B (f + 1) (by omega)
      have ef : ((f + 1 : Nat) : Int) = (f : Int) + 1 := by omega
      rw [ef] at hs
      have hcl := run_clear_bytes (ty := 0) Try.underlying22 Try.zeroValue5 B o (16 - f) (16 - f) _ _ HB3.out (by have := HXL.out; simp; simp at this; omega)
      have HLL := Lib.hid (laid_one c l f o HFE.out.symm hc16 HST.out.all ho2)
      clear ho1 ho2 ef
      go_upto_region 8 with (fail)
      have HX := Blk.setCells (List.replicate (16 - f) (.int .u8 0)) _ o _ HB3.out
      rw [← HFE.out, HLL.out, bval_ints] at HX
      have hg : wr.grownBy ((wr.setCell ⟨B, f, none⟩ (.int .u8 1)).setCells B o (List.replicate (16 - f) (.int .u8 0))) (some B) := grownBy_setCells _ _ _ _ (grownBy_set (grownBy_refl wr _) _ _)
      have HR2 := Lib.hid (HST.out.blkR.grown hg (by have := HAB.out; simp; omega))
      have HZ2 := Lib.hid (HST.out.blkZ.grown hg (by have := HAB.out; simp; omega))
      have HS2 := Lib.hid (HST.out.blkS.grown hg (by have := HAB.out; simp; omega))
      have HM2 := Lib.hid (HST.out.msg.same (hg.block A HST.out.msg.lt (by have := HAB.out; simp; omega)))
      have HE := Lib.hid (ext_grown HE.out hg (by have := HAB.out; have := HAW.out; omega))
      have HX := Lib.hid HX
      generalize (wr.setCell ⟨B, f, none⟩ (.int .u8 1)).setCells B o (List.replicate (16 - f) (.int .u8 0)) = w4 at *
      clear hg HB3 HLL hcl hs q0 f0
      have HC : Hid (c = (m.drop (16 * n)).take 16) := Lib.hid HST.out.piece
      have HF1 : Hid (fL R m (n + 1) = timL (addL (fL R m n) (limL (iB (onB c)))) R) := Lib.hid (by rw [HC.out, fL])
      have HNE := Lib.hid (fL_near HR.out m n)
      have HD : Hid (D17 (iB (onB c))) := Lib.hid (D17_iB (onB_length (by rw [← HFE.out]; exact hc16)))
      have HOL : Hid ((onB c).length = 17) := Lib.hid (onB_length (by rw [← HFE.out]; exact hc16))
      have hlm := limL_val HD.out
      have hal := addL_val HNE.out.lim hlm.1
      have HLM := Lib.hid hlm.1
      have HAL := Lib.hid (hal.1.up (N := 268435455) (by omega))
      have HFL := Lib.hid HST.out.few
      have HLA := Lib.hid HST.out.all
      clear hlm hal
      have HT1 : Hid ((timL (addL (fL R m n) (limL (iB (onB c)))) R).length = 5) := Lib.hid (by rw [← HF1.out]; exact (fL_near HR.out m (n + 1)).lim.len)
      obtain ⟨x, hx⟩ : ∃ x, x = iB (onB c) := ⟨_, rfl⟩
      rw [← hx] at HX HF1 HD HLM HAL HT1
      obtain ⟨s, hs⟩ : ∃ s, s = fL R m n := ⟨_, rfl⟩
      rw [← hs] at HS2 HF1 HNE HAL HT1
      obtain ⟨y, hy⟩ : ∃ y, y = limL x := ⟨_, rfl⟩
      rw [← hy] at HF1 HLM HAL HT1
      obtain ⟨p, hp⟩ : ∃ p, p = addL s y := ⟨_, rfl⟩
      rw [← hp] at HF1 HAL HT1
      obtain ⟨u, hu⟩ : ∃ u, u = timL p R := ⟨_, rfl⟩
      rw [← hu] at HF1 HT1
      have HC1 : Hid (∀ w, Calls Try.prog 54 #[.agg (ints .u8 x).toArray] w fun e w' => e = .returned (.agg (ints .u64 y).toArray) ∧ Below w.heap.size w w') := Lib.hid (fun w => by rw [hy]; exact plimbs_any x w HD.out)
      have HC2 : Hid (∀ w, Calls Try.prog 58 #[.agg (ints .u64 s).toArray, .agg (ints .u64 y).toArray] w fun e w' => e = .returned (.agg (ints .u64 p).toArray) ∧ Below w.heap.size w w') := Lib.hid (fun w => by rw [hp]; exact pplus_any s y w (HNE.out.lim.up (by omega)) (HLM.out.up (by omega)))
      have HC3 : Hid (∀ w, Calls Try.prog 69 #[.agg (ints .u64 p).toArray, .agg (ints .u64 R).toArray] w fun e w' => e = .returned (.agg (ints .u64 u).toArray) ∧ Below w.heap.size w w') := Lib.hid (fun w => by rw [hu]; exact ptimesL_any HAL.out HR.out w)
      have HIs := Lib.hid (lim_size HNE.out.lim.len)
      have HIx := Lib.hid (blk_size17 HD.out.1)
      have HIR := Lib.hid (lim_size HR.out.len)
      have HIu := Lib.hid (lim_size HT1.out)
      have HLu : Hid ((ints .u64 u).length = (ints .u64 s).length) := Lib.hid (by rw [ints_length, ints_length, HT1.out, HNE.out.lim.len])
      have HSE := Lib.hid hs
      have HXE := Lib.hid hx
      clear hs hx hy hp hu
      refine wp_region_from 6 1 6 rfl (by kernel_rfl) (by kernel_rfl) (fun d v c a w h => by cases d <;> exact h) (by kernel_rfl) ?_
      refine det_load _ _ (A + 1 + 1 + 1) (ints .u64 s) _ (by rfl) rfl rfl (fun w hw => ext_range HS2.out hw) Try.underlying84 rfl HIs.out ?_
      simp only [Act.put, List.setIfInBounds_toArray, List.set_cons_zero, List.set_cons_succ]
      refine det_load _ _ B (ints .u8 x) _ (by rfl) rfl rfl (fun w hw => ext_range HX.out hw) Try.underlying81 rfl HIx.out ?_
      simp only [Act.put, List.setIfInBounds_toArray, List.set_cons_zero, List.set_cons_succ]
      refine det_call _ _ _ [.agg (ints .u8 x).toArray] (.agg (ints .u64 y).toArray) (by rfl) rfl Try.call54 rfl (fun w hw => HC1.out w) ?_
      simp only [Act.put, List.setIfInBounds_toArray, List.set_cons_zero, List.set_cons_succ]
      refine det_call _ _ _ [.agg (ints .u64 s).toArray, .agg (ints .u64 y).toArray] (.agg (ints .u64 p).toArray) (by rfl) rfl Try.call58 rfl (fun w hw => HC2.out w) ?_
      simp only [Act.put, List.setIfInBounds_toArray, List.set_cons_zero, List.set_cons_succ]
      refine det_load _ _ (A + 1) (ints .u64 R) _ (by rfl) rfl rfl (fun w hw => ext_range HR2.out hw) Try.underlying84 rfl HIR.out ?_
      simp only [Act.put, List.setIfInBounds_toArray, List.set_cons_zero, List.set_cons_succ]
      refine det_call _ _ _ [.agg (ints .u64 p).toArray, .agg (ints .u64 R).toArray] (.agg (ints .u64 u).toArray) (by rfl) rfl Try.call69 rfl (fun w hw => HC3.out w) ?_
      simp only [Act.put, List.setIfInBounds_toArray, List.set_cons_zero, List.set_cons_succ]
      refine det_nil (end_store (k := 6) rfl (by kernel_rfl) (by kernel_rfl) (by kernel_rfl) rfl (fun w5 hw5 => ?_))
      have HR2 := Lib.hid (ext_blk HR2.out hw5)
      have HZ2 := Lib.hid (ext_blk HZ2.out hw5)
      have HX := Lib.hid (ext_blk HX.out hw5)
      have HS2 := Lib.hid (ext_blk HS2.out hw5)
      have HM2 := Lib.hid (HM2.out.same (hw5.block A HM2.out.lt))
      have HE := Lib.hid (HE.out.trans hw5)
      clear hw5
      refine wp_store_blk _ _ _ rfl (A + 1 + 1 + 1) (ints .u64 u) rfl rfl _ _ HS2.out HLu.out HIu.out (ints_one _ _) ?_
      intro w6 hb6 hg6
      have HR2 := Lib.hid (HR2.out.grown hg6 (by simp; omega))
      have HZ2 := Lib.hid (HZ2.out.grown hg6 (by simp))
      have HX := Lib.hid (HX.out.grown hg6 (by have := HAB.out; simp; omega))
      have HM2 := Lib.hid (HM2.out.same (hg6.block A HM2.out.lt (by simp; omega)))
      have HE := Lib.hid (ext_grown HE.out hg6 (by have := HAW.out; omega))
      have HS2 := Lib.hid hb6
      clear hb6 hg6
      rw [HXE.out, ← bval_ints] at HX
      have HF := Lib.hid (fill_cap w0 w6 A B 16 17 ((m.drop (16 * n)).drop 16) (onB c) 81 HM2.out HX.out HOL.out (by omega) (by omega) (by omega) (HE0.out.trans HE.out) HAW0.out (by have := HAB.out; omega))
      clear HM2
      go_wp2_with fail
      refine HF.out.mono ?_
      rintro e w7 ⟨hf, hbut⟩
      unfold FillSaid at hf
      obtain ⟨c2, hc2, rfl, hM, hO, hbel⟩ := hf
      have e16 : (m.drop (16 * n)).drop 16 = m.drop (16 * (n + 1)) := by rw [List.drop_drop, show 16 * n + 16 = 16 * (n + 1) from by omega]
      rw [e16] at hc2 hM
      have HE7 : Hid (Ext w w7) := Lib.hid (Below.trans HE.out (hbel.mono HAW.out))
      have HST7 : Hid (PlySt w0 w7 A B R m (n + 1) c2 (onB c)) := Lib.hid ⟨HOL.out, hc2, by have h1 := HCL.out; have h2 := HFE.out; omega, hM, HR2.out.same (hbut (A + 1) (by have := HAB.out; omega) (by omega)), HZ2.out.same (hbut (A + 1 + 1) (by have := HAB.out; omega) (by omega)), by rw [HF1.out]; exact HS2.out.same (hbut (A + 1 + 1 + 1) (by have := HAB.out; omega) (by omega)), hO⟩
      have HNL : Hid (n < m.length + 16) := Lib.hid (by have := HFL.out; omega)
      clear hc2 hM hO hbel hbut HF e16
      go_wp2_with fail
      go_roundg (m.length + 16 - (n + 1))
      case rel => exact ⟨n + 1, c2, onB c, rfl, rfl, HST7.out, HE7.out⟩
      case measure => have := HGK.out; have := HNL.out; omega
    · have g1 : ¬ (0 : Int) < (f : Int) := by omega
      have d1 : decide ((0 : Int) < (f : Int)) = false := decide_eq_false g1
      have HN : Hid (n = (m.length + 15) / 16) := Lib.hid (by have h1 := HST.out.few; have h2 := HCL.out; have h3 := HFE.out; omega)
      have HS2 := Lib.hid HST.out.blkS
      have HZ2 := Lib.hid HST.out.blkZ
      have HL : Hid ((fL R m n).length = 5) := Lib.hid (fL_near HR.out m n).lim.len
      obtain ⟨s, hs⟩ : ∃ s, s = fL R m n := ⟨_, rfl⟩
      rw [← hs] at HS2 HL
      have HSE := Lib.hid hs
      clear hs
      have HI : Hid ((Try.prog.info? 84).map (·.size) = some (ints .u64 s).length) := Lib.hid (lim_size HL.out)
      have HLz : Hid ((ints .u64 s).length = (ints .u64 (List.replicate 5 0)).length) := Lib.hid (by rw [ints_length, HL.out]; rfl)
      go_wp2_with (first | (refine wpList_load_blk rfl _ _ rfl (A + 1 + 1 + 1) rfl _ _ _ _ HS2.out Try.underlying84 HI.out ?_) | (refine wpList_store_blk rfl _ _ _ rfl (A + 1 + 1) (ints .u64 s) rfl rfl _ _ HZ2.out HLz.out HI.out (ints_one _ _) ?_; intro w5 hb5 hg5))
      refine bodyPost_ret (result_blk rfl _ (A + 1 + 1) _ _ _ _ rfl hb5 Try.underlying84 HI.out) rfl ?_
      exact ⟨by rw [HSE.out, HN.out], ext_grown HE.out hg5 (by have := HAW.out; omega)⟩

end Go.Proofs.Ytjnnhkodkbhbbaa

/- The walks of package poly's reduced, clamped, blockOf. Each theorem names its own conditions. -/
namespace Go.Proofs.Ytjnnhkodkbhbbaa
open Go.RowKit
set_option linter.unusedVariables false
set_option linter.unusedSimpArgs false

set_option maxRecDepth 100000 in
set_option maxHeartbeats 8000000 in
theorem preduced_any (x : List Int) (w : World) (hx : Lim 268435455 x) :
    Calls Try.prog 59 #[.agg (ints .u64 x).toArray] w fun e w' => e = .returned (.agg (ints .u64 (redL x)).toArray) ∧ Below w.heap.size w w' := by
  have HX := Lib.hid hx
  have HB := Lib.hid (boxes2 w (ints .u64 x) (ints .u64 (List.replicate 5 0)) 84 84)
  have HIx := Lib.hid (lim_size hx.len)
  clear hx
  go_enter Try.func59, Try.ntmps59
  go_upto_region 1 with (fail)
  obtain ⟨H1, H2, HE⟩ := HB.out
  change Code.wp _ _ _ _ ((w.alloc (.cells (ints .u64 x).toArray 84)).alloc (.cells (ints .u64 (List.replicate 5 0)).toArray 84))
  generalize (w.alloc (.cells (ints .u64 x).toArray 84)).alloc (.cells (ints .u64 (List.replicate 5 0)).toArray 84) = wa at *
  obtain ⟨A, hA⟩ : ∃ A, A = w.heap.size := ⟨_, rfl⟩
  have HAW : Hid (w.heap.size ≤ A) := Lib.hid (by omega)
  rw [← hA] at H1 H2 ⊢
  have H1 := Lib.hid H1
  have H2 := Lib.hid H2
  have HE : Hid (Ext w wa) := Lib.hid HE
  clear hA HB
  go_wp2_with (refine wpList_load_blk rfl _ _ rfl A rfl _ _ _ _ H1.out Try.underlying84 HIx.out ?_)
  go_loopw [3, 7] (fun cv iv wr => ∃ (k : Nat), k ≤ 5 ∧ cv = .int .u64 (rRun x k) ∧ iv = .int .i64 (k : Int) ∧ Ext wa wr) (fun _ iv _ => 5 - (intOf iv).toNat)
  case atStart => exact ⟨0, by omega, rfl, rfl, Ext.refl _⟩
  case round =>
    obtain ⟨k, hk, rfl, rfl, hbel⟩ := hrel
    have k0 : (0 : Int) ≤ (k : Int) := Int.natCast_nonneg _
    have HX2 := Lib.hid hbel
    clear hbel
    by_cases hlk : k < 5
    · have k1 : (k : Int) < 5 := by omega
      have hi := index_ints (kd := .u64) Try.underlying84 Try.sizeOf82 Try.isAgg82 x HX.out.len k hlk
      have hxa := HX.out.getD (by omega) k
      have hra := rRun_range (M := 268435455) (by omega) (HX.out.getD (by omega)) k
      have HS : Hid (rRun x (k + 1) = (rRun x k + x.getD k 0) / 67108864) := Lib.hid rfl
      generalize x.getD k 0 = p at *
      generalize rRun x k = q at *
      obtain ⟨p0, p1⟩ := hxa
      obtain ⟨r0, r1⟩ := hra
      go_wp2_with fail
      go_roundw
      case rel => exact ⟨k + 1, by omega, by rw [HS.out], by go_num, HX2.out⟩
      case measure => simp [intOf]; omega
    · have hk5 : k = 5 := by omega
      subst hk5
      have H1 := Lib.hid (ext_blk H1.out HX2.out)
      have H2 := Lib.hid (ext_blk H2.out HX2.out)
      have HE := Lib.hid (HE.out.trans HX2.out)
      have q1 := digit_q H1.out (i := 0) (by rw [HX.out.len]; omega)
      have f1 := H1.out.free 0
      have hxa := HX.out.getD (by omega) 0
      have hra := rRun_range (M := 268435455) (by omega) (HX.out.getD (by omega)) 5
      have HR : Hid (redL x = setL (x.set 0 (x.getD 0 0 + 5 * rRun x 5))) := Lib.hid rfl
      have HL2 : Hid (Lim 1152921504606846976 (x.set 0 (x.getD 0 0 + 5 * rRun x 5))) := Lib.hid (by
        obtain ⟨a, b, c, d, e, rfl, h1, h2, h3, h4, h5⟩ := HX.out
        simp only [List.getD_cons_zero] at hxa hra ⊢
        exact ⟨_, b, c, d, e, rfl, by omega, by omega, by omega, by omega, by omega⟩)
      generalize x.getD 0 0 = p at *
      generalize rRun x 5 = q at *
      obtain ⟨p0, p1⟩ := hxa
      obtain ⟨r0, r1⟩ := hra
      go_upto_region 8 with (fail)
      have H1 : Hid (Blk (wr.setCell ⟨A, 0, none⟩ (.int .u64 (p + 5 * q))) A (ints .u64 (x.set 0 (p + 5 * q))) 84) := Lib.hid (H1.out.seti 0 _)
      have H2 := Lib.hid (H2.out.far (a := ⟨A, 0, none⟩) (by simp) (.int .u64 (p + 5 * q)))
      have HE : Hid (Ext w (wr.setCell ⟨A, 0, none⟩ (.int .u64 (p + 5 * q)))) := Lib.hid (Below.setCell HE.out (by have := HAW.out; simp; omega) _)
      generalize wr.setCell ⟨A, 0, none⟩ (.int .u64 (p + 5 * q)) = w3 at *
      clear q1 f1 HX2 HIx
      generalize x.set 0 (p + 5 * q) = y at *
      have HIy := Lib.hid (lim_size HL2.out.len)
      have HSY := Lib.hid (setL_len HL2.out.len)
      have HIo := Lib.hid (lim_size HSY.out)
      have HLz : Hid ((ints .u64 (setL y)).length = (ints .u64 (List.replicate 5 0)).length) := Lib.hid (by rw [ints_length, HSY.out]; rfl)
      go_wp2_with (refine wpList_load_blk rfl _ _ rfl A rfl _ _ _ _ H1.out Try.underlying84 HIy.out ?_)
      refine (psettled_any y w3 HL2.out).mono ?_
      rintro e w4 ⟨rfl, hb⟩
      have H2 := Lib.hid (ext_blk H2.out hb)
      have HE := Lib.hid (HE.out.trans hb)
      clear hb
      go_wp2_with (refine wpList_store_blk rfl _ _ _ rfl (A + 1) (ints .u64 (setL y)) rfl rfl _ _ H2.out HLz.out HIo.out (ints_one _ _) ?_; intro w5 hb5 hg5)
      refine bodyPost_ret (result_blk rfl _ (A + 1) _ _ _ _ rfl hb5 Try.underlying84 HIo.out) rfl ?_
      exact ⟨by rw [HR.out], ext_grown HE.out hg5 (by have := HAW.out; omega)⟩

theorem and8_15f : ∀ n : Fin 256, bits .and .u8 (n.val : Int) 15 = (n.val : Int) % 16 := by decide +kernel
theorem and8_252f : ∀ n : Fin 256, bits .and .u8 (n.val : Int) 252 = (n.val : Int) / 4 * 4 := by decide +kernel
theorem and8_15 (a : Int) (h1 : 0 ≤ a) (h2 : a ≤ 255) : bits .and .u8 a 15 = a % 16 := by
  obtain ⟨n, rfl⟩ : ∃ n : Nat, a = (n : Int) := ⟨a.toNat, by omega⟩
  exact and8_15f ⟨n, by omega⟩
theorem and8_252 (a : Int) (h1 : 0 ≤ a) (h2 : a ≤ 255) : bits .and .u8 a 252 = a / 4 * 4 := by
  obtain ⟨n, rfl⟩ : ∃ n : Nat, a = (n : Int) := ⟨a.toNat, by omega⟩
  exact and8_252f ⟨n, by omega⟩

set_option maxRecDepth 100000 in
set_option maxHeartbeats 8000000 in
theorem pclamped_any (kb : List UInt8) (w : World) :
    Calls Try.prog 55 #[.agg (ints .u8 (rA kb 16)).toArray] w fun e w' => e = .returned (.agg (ints .u8 (rC kb 3)).toArray) ∧ Below w.heap.size w w' := by
  have HB := Lib.hid (boxes2 w (ints .u8 (rA kb 16)) (ints .u8 (List.replicate 17 0)) 81 81)
  go_enter Try.func55, Try.ntmps55
  go_upto_region 1 with (fail)
  obtain ⟨H1, H2, HE⟩ := HB.out
  change Code.wp _ _ _ _ ((w.alloc (.cells (ints .u8 (rA kb 16)).toArray 81)).alloc (.cells (ints .u8 (List.replicate 17 0)).toArray 81))
  generalize (w.alloc (.cells (ints .u8 (rA kb 16)).toArray 81)).alloc (.cells (ints .u8 (List.replicate 17 0)).toArray 81) = wa at *
  obtain ⟨A, hA⟩ : ∃ A, A = w.heap.size := ⟨_, rfl⟩
  have HAW : Hid (w.heap.size ≤ A) := Lib.hid (by omega)
  rw [← hA] at H1 H2 ⊢
  have H1 : Hid (Blk wa A (ints .u8 (rB kb 0)) 81) := Lib.hid H1
  have H2 := Lib.hid H2
  have HE : Hid (Ext w wa) := Lib.hid HE
  clear hA HB
  go_wp2_with fail
  go_loopw [3] (fun iv wr => ∃ (k : Nat), k ≤ 4 ∧ iv = .int .i64 (3 + 4 * (k : Int)) ∧ Blk wr A (ints .u8 (rB kb k)) 81 ∧ Blk wr (A + 1) (ints .u8 (List.replicate 17 0)) 81 ∧ Ext w wr) (fun iv _ => 20 - (intOf iv).toNat)
  case atStart => exact ⟨0, by omega, rfl, H1.out, H2.out, HE.out⟩
  case round =>
    clear H1 H2 HE
    obtain ⟨k, hk, rfl, hb1, hb2, hbel⟩ := hrel
    have k0 : (0 : Int) ≤ (k : Int) := Int.natCast_nonneg _
    have H1 := Lib.hid hb1
    have H2 := Lib.hid hb2
    have HE := Lib.hid hbel
    by_cases hlk : k < 4
    · have k1 : 3 + 4 * (k : Int) < 16 := by omega
      have k2 : (0 : Int) ≤ 3 + 4 * (k : Int) := by omega
      have k3 : 3 + 4 * (k : Int) < 17 := by omega
      have kn : (3 + 4 * (k : Int)).toNat = 3 + 4 * k := by omega
      have c1 := digit_b hb1 (i := 3 + 4 * k) (by rw [rB_length]; omega)
      have f1 := hb1.free (3 + 4 * k)
      have hd := rB_digit kb k (3 + 4 * k) (by omega)
      have HS : Hid (rB kb (k + 1) = (rB kb k).set (3 + 4 * k) ((rB kb k).getD (3 + 4 * k) 0 % 16)) := Lib.hid rfl
      clear hb1 hb2 hbel
      generalize hz : (rB kb k).getD (3 + 4 * k) 0 = z at *
      clear hz
      obtain ⟨z0, z1⟩ := hd
      have a1 := and8_15 z z0 z1
      go_wp2_with fail
      go_roundw
      case rel => exact ⟨k + 1, by omega, by go_num, by rw [HS.out]; exact H1.out.seti _ _, H2.out.far (by simp) _, Below.setCell HE.out (by have := HAW.out; simp; omega) _⟩
      case measure => simp [intOf]; omega
    · have hk4 : k = 4 := by omega
      subst hk4
      rw [show ((4 : Nat) : Int) = 4 from rfl]
      rw [show (3 : Int) + 4 * 4 = 19 from rfl]
      clear hb1 hb2 hbel
      have H1 : Hid (Blk wr A (ints .u8 (rC kb 0)) 81) := Lib.hid H1.out
      go_wp2_with fail
      go_loopw [4] (fun iv wr => ∃ (k : Nat), k ≤ 3 ∧ iv = .int .i64 (4 + 4 * (k : Int)) ∧ Blk wr A (ints .u8 (rC kb k)) 81 ∧ Blk wr (A + 1) (ints .u8 (List.replicate 17 0)) 81 ∧ Ext w wr) (fun iv _ => 20 - (intOf iv).toNat)
      case atStart => exact ⟨0, by omega, rfl, H1.out, H2.out, HE.out⟩
      case round =>
        clear H1 H2 HE
        obtain ⟨k, hk, rfl, hb1, hb2, hbel⟩ := hrel
        have k0 : (0 : Int) ≤ (k : Int) := Int.natCast_nonneg _
        have H1 := Lib.hid hb1
        have H2 := Lib.hid hb2
        have HE := Lib.hid hbel
        by_cases hlk : k < 3
        · have k1 : 4 + 4 * (k : Int) < 16 := by omega
          have k2 : (0 : Int) ≤ 4 + 4 * (k : Int) := by omega
          have k3 : 4 + 4 * (k : Int) < 17 := by omega
          have kn : (4 + 4 * (k : Int)).toNat = 4 + 4 * k := by omega
          have c1 := digit_b hb1 (i := 4 + 4 * k) (by rw [rC_length]; omega)
          have f1 := hb1.free (4 + 4 * k)
          have hd := rC_digit kb k (4 + 4 * k) (by omega)
          have HS : Hid (rC kb (k + 1) = (rC kb k).set (4 + 4 * k) ((rC kb k).getD (4 + 4 * k) 0 / 4 * 4)) := Lib.hid rfl
          clear hb1 hb2 hbel
          generalize hz : (rC kb k).getD (4 + 4 * k) 0 = z at *
          clear hz
          obtain ⟨z0, z1⟩ := hd
          have a1 := and8_252 z z0 z1
          go_wp2_with fail
          go_roundw
          case rel => exact ⟨k + 1, by omega, by go_num, by rw [HS.out]; exact H1.out.seti _ _, H2.out.far (by simp) _, Below.setCell HE.out (by have := HAW.out; simp; omega) _⟩
          case measure => simp [intOf]; omega
        · have hk3 : k = 3 := by omega
          subst hk3
          rw [show ((3 : Nat) : Int) = 3 from rfl]
          rw [show (4 : Int) + 4 * 3 = 16 from rfl]
          clear hb1 hb2 hbel hk k0 hlk
          obtain ⟨s, hs⟩ : ∃ s, s = rC kb 3 := ⟨_, rfl⟩
          have HR := Lib.hid hs
          rw [← hs] at H1
          have HL : Hid (s.length = 17) := Lib.hid (by rw [hs, rC_length])
          clear hs
          have HI : Hid ((Try.prog.info? 81).map (·.size) = some (ints .u8 s).length) := Lib.hid (blk_size17 HL.out)
          have HLz : Hid ((ints .u8 s).length = (ints .u8 (List.replicate 17 0)).length) := Lib.hid (by rw [ints_length, HL.out]; rfl)
          go_wp2_with (first | (refine wpList_load_blk rfl _ _ rfl A rfl _ _ _ _ H1.out Try.underlying81 HI.out ?_) | (refine wpList_store_blk rfl _ _ _ rfl (A + 1) (ints .u8 s) rfl rfl _ _ H2.out HLz.out HI.out (ints_one _ _) ?_; intro w5 hb5 hg5))
          refine bodyPost_ret (result_blk rfl _ (A + 1) _ _ _ _ rfl hb5 Try.underlying81 HI.out) rfl ?_
          exact ⟨by rw [HR.out], ext_grown HE.out hg5 (by have := HAW.out; omega)⟩

end Go.Proofs.Ytjnnhkodkbhbbaa

/- The walk of package poly's blockOf. Each theorem names its own conditions. -/
namespace Go.Proofs.Ytjnnhkodkbhbbaa
open Go.RowKit
set_option linter.unusedVariables false
set_option linter.unusedSimpArgs false

theorem pow_up {s : Nat} (h : s ≤ 6) : (1 : Int) ≤ 2 ^ s ∧ (2 : Int) ^ s ≤ 64 := by
  match s, h with
  | 0, _ => decide
  | 1, _ => decide
  | 2, _ => decide
  | 3, _ => decide
  | 4, _ => decide
  | 5, _ => decide
  | 6, _ => decide

set_option maxRecDepth 100000 in
set_option maxHeartbeats 8000000 in
theorem pblock_any (x : List Int) (w : World) (hx : Lim 67108863 x) :
    Calls Try.prog 56 #[.agg (ints .u64 x).toArray] w fun e w' => e = .returned (.agg (ints .u8 (blkL x)).toArray) ∧ Below w.heap.size w w' := by
  have HX := Lib.hid hx
  have HB := Lib.hid (boxes3 w (ints .u64 x) (ints .u8 (List.replicate 17 0)) (ints .u8 (List.replicate 17 0)) 84 81 81)
  have HIx := Lib.hid (lim_size hx.len)
  clear hx
  go_enter Try.func56, Try.ntmps56
  go_upto_region 2 with (fail)
  obtain ⟨H1, H2, H3, HE⟩ := HB.out
  change Code.wp _ _ _ _ (((w.alloc (.cells (ints .u64 x).toArray 84)).alloc (.cells (ints .u8 (List.replicate 17 0)).toArray 81)).alloc (.cells (ints .u8 (List.replicate 17 0)).toArray 81))
  generalize ((w.alloc (.cells (ints .u64 x).toArray 84)).alloc (.cells (ints .u8 (List.replicate 17 0)).toArray 81)).alloc (.cells (ints .u8 (List.replicate 17 0)).toArray 81) = wa at *
  obtain ⟨A, hA⟩ : ∃ A, A = w.heap.size := ⟨_, rfl⟩
  have HAW : Hid (w.heap.size ≤ A) := Lib.hid (by omega)
  rw [← hA] at H1 H2 H3 ⊢
  have H1 := Lib.hid H1
  have H2 := Lib.hid H2
  have H3 : Hid (Blk wa (A + 1 + 1) (ints .u8 (oI x 0)) 81) := Lib.hid H3
  have HE : Hid (Ext w wa) := Lib.hid HE
  clear hA HB
  go_wp2_with (refine wpList_load_blk rfl _ _ rfl A rfl _ _ _ _ H1.out Try.underlying84 HIx.out ?_)
  go_loopw [9] (fun iv wr => ∃ (i : Nat), i ≤ 5 ∧ iv = .int .i64 (i : Int) ∧ Blk wr (A + 1) (ints .u8 (List.replicate 17 0)) 81 ∧ Blk wr (A + 1 + 1) (ints .u8 (oI x i)) 81 ∧ Ext w wr) (fun iv _ => 5 - (intOf iv).toNat)
  case atStart => exact ⟨0, by omega, rfl, H2.out, H3.out, HE.out⟩
  case round =>
    clear H1 H2 H3 HE HIx
    obtain ⟨i, hi, rfl, hb2, hb3, hbel⟩ := hrel
    have i0 : (0 : Int) ≤ (i : Int) := Int.natCast_nonneg _
    have H2 := Lib.hid hb2
    have H3 := Lib.hid hb3
    have HE := Lib.hid hbel
    clear hb2 hb3 hbel
    by_cases hli : i < 5
    · have i1 : (i : Int) < 5 := by omega
      have hxi := index_ints (kd := .u64) Try.underlying84 Try.sizeOf82 Try.isAgg82 x HX.out.len i hli
      obtain ⟨z0, z1⟩ := HX.out.getD (by omega) i
      obtain ⟨q, hq⟩ : ∃ q, q = 26 * i / 8 := ⟨_, rfl⟩
      obtain ⟨s, hs⟩ : ∃ s, s = 26 * i % 8 := ⟨_, rfl⟩
      have hs6 : s ≤ 6 := by omega
      have hq13 : q ≤ 13 := by omega
      have d1 : 26 * (i : Int) / 8 = (q : Int) := by omega
      have d2 : Int.tdiv (26 * (i : Int)) 8 = (q : Int) := by rw [Int.tdiv_eq_ediv_of_nonneg (by omega)]; exact d1
      have s1 : 26 * (i : Int) % 8 = (s : Int) := by omega
      have s2 : Int.tmod (26 * (i : Int)) 8 = (s : Int) := by rw [Int.tmod_eq_emod_of_nonneg (by omega)]; exact s1
      have s3 : (s : Int) < 64 := by omega
      have s4 : (0 : Int) ≤ (s : Int) := by omega
      have HS : Hid (oI x (i + 1) = oN (oI x i) (x.getD i 0) q s 4) := Lib.hid (by rw [oI, hq, hs])
      have HL := Lib.hid (oI_length x i)
      have H3 : Hid (Blk wr (A + 1 + 1) (ints .u8 (oN (oI x i) (x.getD i 0) q s 0)) 81) := Lib.hid H3.out
      clear hq hs
      generalize x.getD i 0 = z at *
      generalize oI x i = c at *
      go_wp2_with fail
      go_loopw [15] (fun nv wq => ∃ (n : Nat), n ≤ 4 ∧ nv = .int .i64 (n : Int) ∧ Blk wq (A + 1) (ints .u8 (List.replicate 17 0)) 81 ∧ Blk wq (A + 1 + 1) (ints .u8 (oN c z q s n)) 81 ∧ Ext w wq) (fun nv _ => 4 - (intOf nv).toNat)
      case atStart => exact ⟨0, by omega, rfl, H2.out, H3.out, HE.out⟩
      case round =>
        clear H2 H3 HE
        obtain ⟨n, hn, rfl, hb2, hb3, hbel⟩ := hrel
        have n0 : (0 : Int) ≤ (n : Int) := Int.natCast_nonneg _
        have H2 := Lib.hid hb2
        have H3 := Lib.hid hb3
        have HE := Lib.hid hbel
        by_cases hln : n < 4
        · have n1 : (n : Int) < 4 := by omega
          obtain ⟨j, hj⟩ : ∃ j, j = q + n := ⟨_, rfl⟩
          have j1 : (q : Int) + (n : Int) = (j : Int) := by omega
          have j2 : (j : Int) < 17 := by omega
          have j3 : (0 : Int) ≤ (j : Int) := by omega
          obtain ⟨e, he⟩ : ∃ e, e = 8 * n := ⟨_, rfl⟩
          have e1 : 8 * (n : Int) = (e : Int) := by omega
          have e2 : (e : Int) < 64 := by omega
          have e3 : (0 : Int) ≤ (e : Int) := by omega
          have q3 := digit_b hb3 (i := j) (by rw [oN_length, HL.out]; omega)
          have f3 := hb3.free j
          have hp := pow_up hs6
          have hpz : 0 ≤ z * 2 ^ s ∧ z * 2 ^ s ≤ 4294967232 := by
            have := mulB (X := 67108863) (Y := 64) ⟨z0, z1⟩ ⟨by omega, hp.2⟩
            omega
          have hdv : 0 ≤ z * 2 ^ s / 2 ^ e ∧ z * 2 ^ s / 2 ^ e ≤ 4294967295 := by
            have hp : (0 : Int) < 2 ^ e := Int.pow_pos (by omega)
            exact ⟨Int.ediv_nonneg hpz.1 (by omega), Int.le_trans (Int.ediv_le_self _ hpz.1) (by omega)⟩
          have HK : Hid (oN c z q s (n + 1) = (oN c z q s n).set j (bits .or .u8 ((oN c z q s n).getD j 0) (z * 2 ^ s / 2 ^ e % 256))) := Lib.hid (by rw [oN, ← hj, ← he])
          clear hb2 hb3 hbel hj he hp
          generalize (oN c z q s n).getD j 0 = y at *
          obtain ⟨p0, p1⟩ := hpz
          obtain ⟨r0, r1⟩ := hdv
          go_wp2_with fail
          go_region
          go_wp2_with fail
          go_roundw
          case rel => exact ⟨n + 1, by omega, by go_num, (H2.out.far (by simp) _).drewN 1, by rw [HK.out]; exact (H3.out.seti j _).drewN 1, Ext.trans (Below.setCell HE.out (by have := HAW.out; simp; omega) _) (Ext.drew _)⟩
          case measure => simp [intOf]; omega
        · have hn4 : n = 4 := by omega
          subst hn4
          rw [show ((4 : Nat) : Int) = 4 from rfl]
          clear hb2 hb3 hbel
          go_wp2_with fail
          go_roundw
          case rel => exact ⟨i + 1, by omega, by go_num, H2.out, by rw [HS.out]; exact H3.out, HE.out⟩
          case measure => simp [intOf]; omega
    · have hi5 : i = 5 := by omega
      subst hi5
      have HL : Hid ((oI x 5).length = 17) := Lib.hid (oI_length x 5)
      have HR : Hid (blkL x = oI x 5) := Lib.hid rfl
      generalize oI x 5 = s at *
      have HI : Hid ((Try.prog.info? 81).map (·.size) = some (ints .u8 s).length) := Lib.hid (blk_size17 HL.out)
      have HLz : Hid ((ints .u8 s).length = (ints .u8 (List.replicate 17 0)).length) := Lib.hid (by rw [ints_length, HL.out]; rfl)
      go_wp2_with (first | (refine wpList_load_blk rfl _ _ rfl (A + 1 + 1) rfl _ _ _ _ H3.out Try.underlying81 HI.out ?_) | (refine wpList_store_blk rfl _ _ _ rfl (A + 1) (ints .u8 s) rfl rfl _ _ H2.out HLz.out HI.out (ints_one _ _) ?_; intro w5 hb5 hg5))
      refine bodyPost_ret (result_blk rfl _ (A + 1) _ _ _ _ rfl hb5 Try.underlying81 HI.out) rfl ?_
      exact ⟨by rw [HR.out], ext_grown HE.out hg5 (by have := HAW.out; omega)⟩

end Go.Proofs.Ytjnnhkodkbhbbaa

/- The walk of package poly's Sum. Each theorem names its own conditions. -/
namespace Go.Proofs.Ytjnnhkodkbhbbaa
open Go.RowKit
set_option linter.unusedVariables false
set_option linter.unusedSimpArgs false

theorem Try.ptag58 : (Try.prog.info? 58).map (·.size) = some 16 := by kernel_rfl
theorem ptag_size {l : List UInt8} (h : l.length = 16) : (Try.prog.info? 58).map (·.size) = some (l.map bval).length := by rw [List.length_map, h]; exact Try.ptag58
theorem rA_iB (kb : List UInt8) (hk : kb.length = 32) : iB (kb.take 16 ++ [0]) = rA kb 16 := by
  apply ext_getD (by rw [iB_length, rA_length, List.length_append, List.length_take, hk]; rfl)
  intro i hi
  rw [iB_getD, rA_getD kb 16 (by omega) i]
  by_cases h : i < 16
  · rw [if_pos h]
    simp [List.getD, List.getElem?_append_left (show i < (kb.take 16).length by rw [List.length_take]; omega), List.getElem?_take, h]
  · rw [if_neg h]
    rw [iB_length, List.length_append, List.length_take, hk] at hi
    have e : i = 16 := by simp at hi; omega
    subst e
    simp [List.getD, hk]
/-- The key's halves, laid over a block. -/
theorem half_laid (c : List UInt8) (hc : c.length = 16) : splice ((List.replicate 17 (0 : UInt8)).map bval) 0 (c.map bval) = (c ++ [0]).map bval := by
  rw [splice_bytes, hc]
  simp
theorem tag_laid (c : List UInt8) (hc : c.length = 16) : splice ((List.replicate 16 (0 : UInt8)).map bval) 0 (c.map bval) = c.map bval := by
  rw [splice_bytes, hc]
  simp

set_option maxRecDepth 100000 in
set_option maxHeartbeats 8000000 in
theorem PSum_num (kb : List UInt8) (v : Value) (ls : List (List UInt8)) (w : World) (hk : kb.length = 32) (hv : RowB w v ls) (hm : ls.flatten.length ≤ 1099511627776) :
    Calls Try.prog 38 #[.agg (kb.map bval).toArray, v] w fun e w' => e = .returned (.agg ((polyTag kb ls.flatten).map bval).toArray) ∧ Below w.heap.size w w' := by
  obtain ⟨a, cap, rfl⟩ := rowB_any hv
  have HKL := Lib.hid hk
  have HRB := Lib.hid hv
  have HM := Lib.hid hm
  have HB := Lib.hid (boxes4 w (kb.map bval) (ints .u8 (List.replicate 16 0)) (ints .u8 (List.replicate 17 0)) (ints .u8 (List.replicate 17 0)) 34 58 81 81)
  clear hk hv hm
  go_enter Try.func38, Try.ntmps38
  go_upto_region 2 with (fail)
  obtain ⟨H1, H2, H3, H4, HE⟩ := HB.out
  change Code.wp _ _ _ _ ((((w.alloc (.cells (kb.map bval).toArray 34)).alloc (.cells (ints .u8 (List.replicate 16 0)).toArray 58)).alloc (.cells (ints .u8 (List.replicate 17 0)).toArray 81)).alloc (.cells (ints .u8 (List.replicate 17 0)).toArray 81))
  generalize (((w.alloc (.cells (kb.map bval).toArray 34)).alloc (.cells (ints .u8 (List.replicate 16 0)).toArray 58)).alloc (.cells (ints .u8 (List.replicate 17 0)).toArray 81)).alloc (.cells (ints .u8 (List.replicate 17 0)).toArray 81) = wa at *
  obtain ⟨A, hA⟩ : ∃ A, A = w.heap.size := ⟨_, rfl⟩
  have HAW : Hid (w.heap.size ≤ A) := Lib.hid (by omega)
  rw [← hA] at H1 H2 H3 H4 ⊢
  have H1 := Lib.hid H1
  have H2 := Lib.hid H2
  have H3 : Hid (Blk wa (A + 1 + 1) ((List.replicate 17 (0 : UInt8)).map bval) 81) := Lib.hid H3
  have H4 : Hid (Blk wa (A + 1 + 1 + 1) ((List.replicate 17 (0 : UInt8)).map bval) 81) := Lib.hid H4
  have HE : Hid (Ext w wa) := Lib.hid HE
  clear hA HB
  refine wp_region_from 2 1 2 rfl (by kernel_rfl) (by kernel_rfl) (fun d v c a w h => by cases d <;> exact h) (by kernel_rfl) ?_
  refine det_val (.slice (some ⟨A + 1 + 1, 0, none⟩) 16 17) (by rfl) (fun w hw => by go_simp) ?_
  simp only [Act.put, List.setIfInBounds_toArray, List.set_cons_zero, List.set_cons_succ]
  refine det_val (.slice (some ⟨A, 0, none⟩) 16 32) (by rfl) (fun w hw => by go_simp) ?_
  simp only [Act.put, List.setIfInBounds_toArray, List.set_cons_zero, List.set_cons_succ]
  refine det_nil (end_store (k := 2) rfl (by kernel_rfl) (by kernel_rfl) (by kernel_rfl) rfl (fun w1 hw1 => ?_))
  have H1 := Lib.hid (ext_blk H1.out hw1)
  have H2 := Lib.hid (ext_blk H2.out hw1)
  have H3 := Lib.hid (ext_blk H3.out hw1)
  have H4 := Lib.hid (ext_blk H4.out hw1)
  have HE := Lib.hid (HE.out.trans hw1)
  clear hw1
  refine wp_copy_blk _ _ 22 22 rfl 5 Try.underlying22 num_one _ _ _ _ _ _ rfl rfl (A + 1 + 1) 0 _ _ H3.out ((kb.take 16).map bval) (by rw [List.length_map, List.length_take, HKL.out]; rfl) (fun _ => ⟨rfl, ⟨A, 0, none⟩, rfl, fun j v hj => ?_⟩) (by simp [HKL.out]) (bval_one _) ?_
  · have hj2 : j < 16 := by
      rcases Nat.lt_or_ge j 16 with h | h
      · exact h
      · rw [List.getElem?_eq_none (by rw [List.length_map, List.length_take]; omega)] at hj; cases hj
    rw [WideShapes.add_plain, Nat.zero_add, H1.out.cell, ← hj, List.getElem?_map, List.getElem?_map, List.getElem?_take, if_pos hj2]
  intro w2 hb2 hg2
  rw [half_laid _ (by rw [List.length_take, HKL.out]; rfl)] at hb2
  have H1 := Lib.hid (H1.out.grown hg2 (by simp; omega))
  have H2 := Lib.hid (H2.out.grown hg2 (by simp))
  have H4 := Lib.hid (H4.out.grown hg2 (by simp))
  have HE := Lib.hid (ext_grown HE.out hg2 (by have := HAW.out; omega))
  have H3 := Lib.hid hb2
  clear hb2 hg2
  generalize goInt ((kb.take 16).map bval).length = g1
  simp only [Act.put, List.getElem_toArray, List.getElem_cons_zero, List.getElem_cons_succ, List.setIfInBounds_toArray, List.set_cons_zero, List.set_cons_succ]
  go_upto_region 3 with (fail)
  refine wp_region_from 2 1 2 rfl (by kernel_rfl) (by kernel_rfl) (fun d v c a w h => by cases d <;> exact h) (by kernel_rfl) ?_
  refine det_val (.slice (some ⟨A + 1 + 1 + 1, 0, none⟩) 16 17) (by rfl) (fun w hw => by go_simp) ?_
  simp only [Act.put, List.setIfInBounds_toArray, List.set_cons_zero, List.set_cons_succ]
  refine det_val (.slice (some ⟨A, 16, none⟩) 16 16) (by rfl) (fun w hw => by go_simp) ?_
  simp only [Act.put, List.setIfInBounds_toArray, List.set_cons_zero, List.set_cons_succ]
  refine det_nil (end_store (k := 2) rfl (by kernel_rfl) (by kernel_rfl) (by kernel_rfl) rfl (fun w3 hw3 => ?_))
  have H1 := Lib.hid (ext_blk H1.out hw3)
  have H2 := Lib.hid (ext_blk H2.out hw3)
  have H3 := Lib.hid (ext_blk H3.out hw3)
  have H4 := Lib.hid (ext_blk H4.out hw3)
  have HE := Lib.hid (HE.out.trans hw3)
  clear hw3
  have HSL : Hid (((kb.drop 16).take 16).length = 16) := Lib.hid (by rw [List.length_take, List.length_drop, HKL.out]; rfl)
  refine wp_copy_blk _ _ 22 22 rfl 5 Try.underlying22 num_one _ _ _ _ _ _ rfl rfl (A + 1 + 1 + 1) 0 _ _ H4.out (((kb.drop 16).take 16).map bval) (by rw [List.length_map, HSL.out]; rfl) (fun _ => ⟨rfl, ⟨A, 16, none⟩, rfl, fun j v hj => ?_⟩) (by rw [List.length_map, HSL.out]; simp) (bval_one _) ?_
  · have hj2 : j < 16 := by
      rcases Nat.lt_or_ge j 16 with h | h
      · exact h
      · rw [List.getElem?_eq_none (by rw [List.length_map, HSL.out]; omega)] at hj; cases hj
    rw [WideShapes.add_plain, H1.out.cell, ← hj, List.getElem?_map, List.getElem?_map, List.getElem?_take, if_pos hj2, List.getElem?_drop]
  intro w4 hb4 hg4
  rw [half_laid _ HSL.out, bval_ints] at hb4
  have H2 := Lib.hid (H2.out.grown hg4 (by simp; omega))
  have H3 := Lib.hid (H3.out.grown hg4 (by simp))
  have HE := Lib.hid (ext_grown HE.out hg4 (by have := HAW.out; omega))
  have H4 := Lib.hid hb4
  clear hb4 hg4 H1
  rw [bval_ints, rA_iB kb HKL.out] at H3
  generalize goInt (((kb.drop 16).take 16).map bval).length = g2
  simp only [Act.put, List.getElem_toArray, List.getElem_cons_zero, List.getElem_cons_succ, List.setIfInBounds_toArray, List.set_cons_zero, List.set_cons_succ]
  -- the fold
  obtain ⟨m, hm⟩ : ∃ m, m = ls.flatten := ⟨_, rfl⟩
  have HM := HM.out
  rw [← hm] at HM
  have hrl := rL_val kb
  have hfv := fL_val kb m ((m.length + 15) / 16)
  have hsv := sL_val HKL.out
  obtain ⟨o17, ho1, ho2, ho3⟩ := tag_bytes (key := kb) (m := m) HKL.out
  have hov := outL_val (key := kb) (m := m) HKL.out
  have hrv := redL_val hfv.1.lim.len (fun i => (hfv.1.lim.getD (by omega) i).1) hfv.1.below
  have hav := addL_val hrv.1 hsv.1
  have HFO := Lib.hid (fun w' (h : Ext w w') => pfolded_any (.slice a ls.length cap) ls (rL kb) w w' HRB.out h hrl.1 (by rw [← hm]; exact HM))
  rw [← hm] at HFO
  obtain ⟨R, hR⟩ : ∃ R, R = rL kb := ⟨_, rfl⟩
  obtain ⟨F, hF⟩ : ∃ F, F = fL R m ((m.length + 15) / 16) := ⟨_, rfl⟩
  obtain ⟨D, hD⟩ : ∃ D, D = redL F := ⟨_, rfl⟩
  obtain ⟨S, hS⟩ : ∃ S, S = sL kb := ⟨_, rfl⟩
  obtain ⟨P, hP⟩ : ∃ P, P = addL D S := ⟨_, rfl⟩
  obtain ⟨O, hO⟩ : ∃ O, O = setL P := ⟨_, rfl⟩
  have HOO : Hid (O = outL kb m) := Lib.hid (by rw [hO, hP, hD, hS, hF, hR]; rfl)
  rw [← hR, ← hF] at hfv hrv hav HFO
  rw [← hR] at hrl
  rw [← hD] at hrv hav
  rw [← hS] at hsv hav
  rw [← hP] at hav
  rw [← HOO.out] at hov ho2
  have C1 : Hid (∀ w, Calls Try.prog 55 #[.agg (ints .u8 (rA kb 16)).toArray] w fun e w' => e = .returned (.agg (ints .u8 (rC kb 3)).toArray) ∧ Below w.heap.size w w') := Lib.hid (pclamped_any kb)
  have C2 : Hid (∀ w, Calls Try.prog 54 #[.agg (ints .u8 (rC kb 3)).toArray] w fun e w' => e = .returned (.agg (ints .u64 R).toArray) ∧ Below w.heap.size w w') := Lib.hid (fun w => by rw [hR]; exact plimbs_any _ w (D17_rC kb))
  have C3 : Hid (∀ w, Calls Try.prog 59 #[.agg (ints .u64 F).toArray] w fun e w' => e = .returned (.agg (ints .u64 D).toArray) ∧ Below w.heap.size w w') := Lib.hid (fun w => by rw [hD]; exact preduced_any _ w (hfv.1.lim.up (by omega)))
  have hq17 : ((kb.drop 16).take 16 ++ [0]).length = 17 := by rw [List.length_append, HSL.out]; rfl
  have C4 : Hid (∀ w, Calls Try.prog 54 #[.agg (ints .u8 (iB ((kb.drop 16).take 16 ++ [0]))).toArray] w fun e w' => e = .returned (.agg (ints .u64 S).toArray) ∧ Below w.heap.size w w') := Lib.hid (fun w => by rw [hS]; exact plimbs_any _ w (D17_iB hq17))
  have C5 : Hid (∀ w, Calls Try.prog 58 #[.agg (ints .u64 D).toArray, .agg (ints .u64 S).toArray] w fun e w' => e = .returned (.agg (ints .u64 P).toArray) ∧ Below w.heap.size w w') := Lib.hid (fun w => by rw [hP]; exact pplus_any _ _ w (hrv.1.up (by omega)) (hsv.1.up (by omega)))
  have C6 : Hid (∀ w, Calls Try.prog 57 #[.agg (ints .u64 P).toArray] w fun e w' => e = .returned (.agg (ints .u64 O).toArray) ∧ Below w.heap.size w w') := Lib.hid (fun w => by rw [hO]; exact psettled_any _ w (hav.1.up (by omega)))
  have C7 : Hid (∀ w, Calls Try.prog 56 #[.agg (ints .u64 O).toArray] w fun e w' => e = .returned (.agg (ints .u8 (iB o17)).toArray) ∧ Below w.heap.size w w') := Lib.hid (fun w => by rw [← ho2]; exact pblock_any _ w hov.1)
  have HIF := Lib.hid (lim_size hfv.1.lim.len)
  have HLF : Hid ((ints .u64 F).length = (ints .u64 (List.replicate 5 0)).length) := Lib.hid (by rw [ints_length, hfv.1.lim.len]; rfl)
  have HIr := Lib.hid (blk_size17 (rA_length kb 16))
  have HIq := Lib.hid (blk_size17 (l := iB ((kb.drop 16).take 16 ++ [0])) (by rw [iB_length, hq17]))
  have HIo := Lib.hid (blk_size17 (l := iB o17) (by rw [iB_length, ho1]))
  have HLo : Hid ((ints .u8 (iB o17)).length = (ints .u8 (List.replicate 17 0)).length) := Lib.hid (by rw [ints_length, iB_length, ho1]; rfl)
  have HO1 := Lib.hid ho1
  have HO3 := Lib.hid ho3
  have HMM := Lib.hid hm
  clear hrl hfv hsv ho1 ho2 ho3 hov hrv hav hR hF hD hS hP hO hq17 HOO hm HM
  generalize rA kb 16 = ra at *
  generalize rC kb 3 = rc at *
  generalize iB ((kb.drop 16).take 16 ++ [0]) = sq at *
  obtain ⟨oi, hoi⟩ : ∃ oi, oi = iB o17 := ⟨_, rfl⟩
  rw [← hoi] at C7 HIo HLo
  have HOI := Lib.hid hoi
  clear hoi
  go_upto_region 4 with (fail)
  refine wp_region_from 6 2 7 rfl (by kernel_rfl) (by kernel_rfl) (fun d v c a w h => by cases d <;> exact h) (by kernel_rfl) ?_
  refine det_move _ (.slice a ls.length cap) (by rfl) rfl rfl ?_
  simp only [Act.put, List.setIfInBounds_toArray, List.set_cons_zero, List.set_cons_succ]
  refine det_call _ _ _ [.slice a ls.length cap] (.agg #[.slice none 0 0, .slice a ls.length cap]) (by rfl) rfl Try.call53 rfl (fun w hw => of_any a ls.length cap w) ?_
  simp only [Act.put, List.setIfInBounds_toArray, List.set_cons_zero, List.set_cons_succ]
  refine det_load _ _ (A + 1 + 1) (ints .u8 ra) _ (by rfl) rfl rfl (fun w hw => ext_range H3.out hw) Try.underlying81 rfl HIr.out ?_
  simp only [Act.put, List.setIfInBounds_toArray, List.set_cons_zero, List.set_cons_succ]
  refine det_call _ _ _ [.agg (ints .u8 ra).toArray] (.agg (ints .u8 rc).toArray) (by rfl) rfl Try.call55 rfl (fun w hw => C1.out w) ?_
  simp only [Act.put, List.setIfInBounds_toArray, List.set_cons_zero, List.set_cons_succ]
  refine det_call _ _ _ [.agg (ints .u8 rc).toArray] (.agg (ints .u64 R).toArray) (by rfl) rfl Try.call54 rfl (fun w hw => C2.out w) ?_
  simp only [Act.put, List.setIfInBounds_toArray, List.set_cons_zero, List.set_cons_succ]
  refine det_call _ _ _ [.agg #[.slice none 0 0, .slice a ls.length cap], .agg (ints .u64 R).toArray] (.agg (ints .u64 F).toArray) (by rfl) rfl Try.call52 rfl (fun w hw => HFO.out w (HE.out.trans hw)) ?_
  simp only [Act.put, List.setIfInBounds_toArray, List.set_cons_zero, List.set_cons_succ]
  refine det_nil (end_var (k := 6) _ 7 (.tmp 21) (ints .u64 (List.replicate 5 0)) (ints .u64 F) rfl rfl (by kernel_rfl) (by kernel_rfl) (by kernel_rfl) (by kernel_rfl) (by kernel_rfl) rfl rfl rfl rfl Try.zeroValue84 rfl (by simp) (fun p => rfl) HLF.out HIF.out (ints_one _ _) (fun p5 w5 hp5 hb5 he5 => ?_))
  simp only [Act.put, List.getElem_toArray, List.getElem_cons_zero, List.getElem_cons_succ, List.setIfInBounds_toArray, List.set_cons_zero, List.set_cons_succ]
  have H2 := Lib.hid (ext_blk H2.out he5)
  have H4 := Lib.hid (ext_blk H4.out he5)
  have HE := Lib.hid (HE.out.trans he5)
  have H5 := Lib.hid hb5
  clear hb5 he5 hp5 H3
  go_upto_region 5 with (fail)
  refine wp_region_from 7 2 8 rfl (by kernel_rfl) (by kernel_rfl) (fun d v c a w h => by cases d <;> exact h) (by kernel_rfl) ?_
  refine det_load _ _ p5 (ints .u64 F) _ (by rfl) rfl rfl (fun w hw => ext_range H5.out hw) Try.underlying84 rfl HIF.out ?_
  simp only [Act.put, List.setIfInBounds_toArray, List.set_cons_zero, List.set_cons_succ]
  refine det_call _ _ _ [.agg (ints .u64 F).toArray] (.agg (ints .u64 D).toArray) (by rfl) rfl Try.call59 rfl (fun w hw => C3.out w) ?_
  simp only [Act.put, List.setIfInBounds_toArray, List.set_cons_zero, List.set_cons_succ]
  refine det_load _ _ (A + 1 + 1 + 1) (ints .u8 sq) _ (by rfl) rfl rfl (fun w hw => ext_range H4.out hw) Try.underlying81 rfl HIq.out ?_
  simp only [Act.put, List.setIfInBounds_toArray, List.set_cons_zero, List.set_cons_succ]
  refine det_call _ _ _ [.agg (ints .u8 sq).toArray] (.agg (ints .u64 S).toArray) (by rfl) rfl Try.call54 rfl (fun w hw => C4.out w) ?_
  simp only [Act.put, List.setIfInBounds_toArray, List.set_cons_zero, List.set_cons_succ]
  refine det_call _ _ _ [.agg (ints .u64 D).toArray, .agg (ints .u64 S).toArray] (.agg (ints .u64 P).toArray) (by rfl) rfl Try.call58 rfl (fun w hw => C5.out w) ?_
  simp only [Act.put, List.setIfInBounds_toArray, List.set_cons_zero, List.set_cons_succ]
  refine det_call _ _ _ [.agg (ints .u64 P).toArray] (.agg (ints .u64 O).toArray) (by rfl) rfl Try.call57 rfl (fun w hw => C6.out w) ?_
  simp only [Act.put, List.setIfInBounds_toArray, List.set_cons_zero, List.set_cons_succ]
  refine det_call _ _ _ [.agg (ints .u64 O).toArray] (.agg (ints .u8 oi).toArray) (by rfl) rfl Try.call56 rfl (fun w hw => C7.out w) ?_
  simp only [Act.put, List.setIfInBounds_toArray, List.set_cons_zero, List.set_cons_succ]
  refine det_nil (end_var (k := 7) _ 8 (.tmp 28) (ints .u8 (List.replicate 17 0)) (ints .u8 oi) rfl rfl (by kernel_rfl) (by kernel_rfl) (by kernel_rfl) (by kernel_rfl) (by kernel_rfl) rfl rfl rfl rfl Try.zeroValue81 rfl (by simp) (fun p => rfl) HLo.out HIo.out (ints_one _ _) (fun p6 w6 hp6 hb6 he6 => ?_))
  simp only [Act.put, List.getElem_toArray, List.getElem_cons_zero, List.getElem_cons_succ, List.setIfInBounds_toArray, List.set_cons_zero, List.set_cons_succ]
  have H2 := Lib.hid (ext_blk H2.out he6)
  have HE := Lib.hid (HE.out.trans he6)
  rw [HOI.out, ← bval_ints] at hb6
  have H6 := Lib.hid hb6
  clear hb6 he6 hp6 H4 H5
  have HXA := Ext.alloc w6 (.cells (ints .u8 (List.replicate 16 0)).toArray 58)
  obtain ⟨T, hT⟩ : ∃ T, T = w6.heap.size := ⟨_, rfl⟩
  have HTA : Hid (A + 1 < T ∧ p6 < T) := Lib.hid (by have := H2.out.lt; have := H6.out.lt; omega)
  have H7 : Hid (Blk (w6.alloc (.cells (ints .u8 (List.replicate 16 0)).toArray 58)) T ((List.replicate 16 (0 : UInt8)).map bval) 58) := Lib.hid (by rw [hT]; exact Blk.made w6 (ints .u8 (List.replicate 16 0)) 58)
  have H2 := Lib.hid (ext_blk H2.out HXA)
  have H6 := Lib.hid (ext_blk H6.out HXA)
  have HE := Lib.hid (HE.out.trans HXA)
  clear HXA
  go_upto_region 7 with (fail)
  change Code.wp _ _ _ _ (w6.alloc (.cells (ints .u8 (List.replicate 16 0)).toArray 58))
  rw [← hT]
  clear hT
  generalize w6.alloc (.cells (ints .u8 (List.replicate 16 0)).toArray 58) = w7 at *
  refine wp_region_from 2 1 2 rfl (by kernel_rfl) (by kernel_rfl) (fun d v c a w h => by cases d <;> exact h) (by kernel_rfl) ?_
  refine det_val (.slice (some ⟨T, 0, none⟩) 16 16) (by rfl) (fun w hw => by go_simp) ?_
  simp only [Act.put, List.setIfInBounds_toArray, List.set_cons_zero, List.set_cons_succ]
  refine det_val (.slice (some ⟨p6, 0, none⟩) 17 17) (by rfl) (fun w hw => by go_simp) ?_
  simp only [Act.put, List.setIfInBounds_toArray, List.set_cons_zero, List.set_cons_succ]
  refine det_nil (end_store (k := 2) rfl (by kernel_rfl) (by kernel_rfl) (by kernel_rfl) rfl (fun w8 hw8 => ?_))
  have H2 := Lib.hid (ext_blk H2.out hw8)
  have H6 := Lib.hid (ext_blk H6.out hw8)
  have H7 := Lib.hid (ext_blk H7.out hw8)
  have HE := Lib.hid (HE.out.trans hw8)
  clear hw8
  have HTL : Hid ((o17.take 16).length = 16) := Lib.hid (by rw [List.length_take, HO1.out]; rfl)
  refine wp_copy_blk _ _ 22 22 rfl 5 Try.underlying22 num_one _ _ _ _ _ _ rfl rfl T 0 _ _ H7.out ((o17.take 16).map bval) (by rw [List.length_map, HTL.out]; rfl) (fun _ => ⟨rfl, ⟨p6, 0, none⟩, rfl, fun j v hj => ?_⟩) (by rw [List.length_map, HTL.out]; simp) (bval_one _) ?_
  · have hj2 : j < 16 := by
      rcases Nat.lt_or_ge j 16 with h | h
      · exact h
      · rw [List.getElem?_eq_none (by rw [List.length_map, HTL.out]; omega)] at hj; cases hj
    rw [WideShapes.add_plain, Nat.zero_add, H6.out.cell, ← hj, List.getElem?_map, List.getElem?_map, List.getElem?_take, if_pos hj2]
  intro w9 hb9 hg9
  rw [tag_laid _ HTL.out] at hb9
  have H2 := Lib.hid (H2.out.grown hg9 (by have := HTA.out; simp; omega))
  have HE := Lib.hid (ext_grown HE.out hg9 (by have := HTA.out; have := HAW.out; omega))
  have H7 := Lib.hid hb9
  clear hb9 hg9
  generalize goInt ((o17.take 16).map bval).length = g3
  simp only [Act.put, List.getElem_toArray, List.getElem_cons_zero, List.getElem_cons_succ, List.setIfInBounds_toArray, List.set_cons_zero, List.set_cons_succ]
  generalize o17.take 16 = tg at *
  have HIt : Hid ((Try.prog.info? 58).map (·.size) = some (tg.map bval).length) := Lib.hid (ptag_size HTL.out)
  have HLt : Hid ((tg.map bval).length = (ints .u8 (List.replicate 16 0)).length) := Lib.hid (by rw [List.length_map, HTL.out]; rfl)
  go_wp2_with (first | (refine wpList_load_blk rfl _ _ rfl T rfl _ _ _ _ H7.out Try.underlying58 HIt.out ?_) | (refine wpList_store_blk rfl _ _ _ rfl (A + 1) (tg.map bval) rfl rfl _ _ H2.out HLt.out HIt.out (bval_one _) ?_; intro w10 hb10 hg10))
  refine bodyPost_ret (result_blk rfl _ (A + 1) _ _ _ _ rfl hb10 Try.underlying58 HIt.out) rfl ?_
  exact ⟨by rw [HO3.out, HMM.out], ext_grown HE.out hg10 (by have := HAW.out; omega)⟩

end Go.Proofs.Ytjnnhkodkbhbbaa
