/- Texts that belong together, one behind the other. -/
import Derived.Test.YtckggbkoabmjiaaGreatDoorQz13
import Derived.Test.YtckggbkoabmjiaaGreatDoorQz15
namespace Go.Proofs.YtckggbkoabmjiaaGreatDoor
set_option linter.unusedVariables false
set_option linter.unusedSimpArgs false
open Go.RowKit
section
section
variable {P : Program} {w w' : World} {v : Value} {vs : List Value}
theorem Row1.grown {row : Option Nat} (h : Row1 w v vs) (hg : w.grownBy w' row) (hne : ∀ k, row = some k → v.ownBlock ≠ some k) : Row1 w' v vs :=
 h.same hg.size fun p hp hlt => hg.cell_far p hlt fun e => hne p.block e.symm hp
theorem Row1.store (h : Row1 w v vs) {a : Addr} (ha : v.ownBlock ≠ some a.block) (u : Value) : Row1 (w.setCell a u) v vs := by
 refine h.same (by simp) fun p hp _ => ?_
 refine World.cell?_of_block (w := w) ?_
 exact Below.heap_setCell w a u p.block (fun e => ha (by rw [hp, e]))
theorem Row1.own_ne {base : Nat} {e : TypeId} {size n : Nat} {xs : List Value} {x : Value} (h : w.ownsRow base e size x n xs) {k : Nat} (hk : k < base) : x.ownBlock ≠ some k := by
 intro e
 have := (h.lt k e).1
 omega
theorem own_below {base : Nat} {e : TypeId} {size n : Nat} {xs : List Value} {x : Value} (h : w.ownsRow base e size x n xs) (hb : Below w.heap.size w w') : w'.ownsRow base e size x n xs := by
 obtain ⟨h1, h2⟩ := h
 refine ⟨h1, ?_⟩
 rcases h2 with h2 | ⟨g, cap, cur, r1, r2, r3, r4⟩
 ·exact Or.inl h2
 ·refine Or.inr ⟨g, cap, cur, r1, r2, ?_, r4⟩
  have hg : g < w.heap.size := by
   rcases Nat.lt_or_ge g w.heap.size with h | h
   ·exact h
   ·rw [Array.getElem?_eq_none h] at r3; cases r3
  rw [hb.block g hg, r3]
end
end
section
open Go.ChangeShapes Go.WideShapes Go.ChangeAt Go.RowKit
section
variable {H : Type} {enc : TypeId × Value → H} {P : Program} {W : World}
theorem open_byte {base0 : Nat} {r : Reach} {t : TypeId} {v : Value} {d : DataW H} {ps : List MemPlace} (ht : P.underlying t = some (.int .u8))
  (hval : Value.okWide P W r base0 t v) (hd : DataW.Trod enc P W 0 (fun _ => true) true t v d ps) : ∃ n : UInt8, v = .int .u8 (n.toNat : Int) := by
 obtain ⟨z, rfl, _, _, hw⟩ := open_int ht hval hd
 obtain ⟨n, rfl⟩ := byte_of hw
 exact ⟨n, rfl⟩
end
end
theorem leN_byte (l : List UInt8) (i : Nat) (h : i < l.length) : (l.getD i 0).toNat = leN l / 256 ^ i % 256 := by
 have := zdd l.length (leN l) i h
 rwa [zeu] at this
def scl_cA (a b i : Nat) : Nat := (a % 256 ^ i + b % 256 ^ i) / 256 ^ i
theorem cA_zero (a b : Nat) : scl_cA a b 0 = 0 := by simp [scl_cA, Nat.mod_one]
theorem cA_step (a b i : Nat) : (scl_cA a b i + a / 256 ^ i % 256 + b / 256 ^ i % 256) % 256 = (a + b) / 256 ^ i % 256 ∧ (scl_cA a b i + a / 256 ^ i % 256 + b / 256 ^ i % 256) / 256 = scl_cA a b (i + 1) := by
 have hP : 0 < 256 ^ i := Nat.pow_pos (by omega)
 unfold scl_cA
 rw [Nat.pow_succ]
 generalize 256 ^ i = P at *
 have ea := Nat.div_add_mod a P
 have eb := Nat.div_add_mod b P
 have e1 : (a + b) / P = a / P + b / P + (a % P + b % P) / P := by
  have : a + b = (a % P + b % P) + P * (a / P + b / P) := by rw [Nat.mul_add]; omega
  rw [this, Nat.add_mul_div_left _ _ hP, Nat.add_comm]
 have e2 : ∀ z : Nat, z % (P * 256) = z % P + P * (z / P % 256) := fun z => Nat.mod_mul
 have e3 : (a % (P * 256) + b % (P * 256)) / (P * 256) = ((a % P + b % P) / P + (a / P % 256 + b / P % 256)) / 256 := by
  rw [← Nat.div_div_eq_div_mul, e2, e2]
  congr 1
  have : a % P + P * (a / P % 256) + (b % P + P * (b / P % 256)) = (a % P + b % P) + P * (a / P % 256 + b / P % 256) := by rw [Nat.mul_add]; omega
  rw [this, Nat.add_mul_div_left _ _ hP]
 rw [e1, e3]
 generalize (a % P + b % P) / P = c
 generalize a / P = x
 generalize b / P = y
 omega
section
open Go.ChangeShapes Go.WideShapes Go.ChangeAt Go.RowKit
section
variable {H : Type} {enc : TypeId × Value → H} {P : Program} {w : World} {base : Nat} {spare : Nat → Bool} {held : Bool}
theorem trodAll_five {t0 t1 t2 t3 t4 : TypeId} {args : Array Value} {ds : List (DataW H)} {ps : List MemPlace} (h : DataW.TrodAll enc P w base spare held [t0, t1, t2, t3, t4] args.toList ds ps) :
  ∃ v0 v1 v2 v3 v4 d0 d1 d2 d3 d4 p0 p1 p2 p3 p4, args = #[v0, v1, v2, v3, v4] ∧ ds = [d0, d1, d2, d3, d4] ∧ ps = p0 ++ p1 ++ p2 ++ p3 ++ p4 ∧ DataW.Trod enc P w base spare held t0 v0 d0 p0 ∧ DataW.Trod enc P w base spare held t1 v1 d1 p1 ∧ DataW.Trod enc P w base spare held t2 v2 d2 p2 ∧ DataW.Trod enc P w base spare held t3 v3 d3 p3 ∧ DataW.Trod enc P w base spare held t4 v4 d4 p4 := by
 obtain ⟨v0, vs0, d0, ds0, p0, q0, hargs, rfl, rfl, h0, r0⟩ := trodAll_cons h
 obtain ⟨v1, vs1, d1, ds1, p1, q1, rfl, rfl, rfl, h1, r1⟩ := trodAll_cons r0
 obtain ⟨v2, vs2, d2, ds2, p2, q2, rfl, rfl, rfl, h2, r2⟩ := trodAll_cons r1
 obtain ⟨v3, vs3, d3, ds3, p3, q3, rfl, rfl, rfl, h3, r3⟩ := trodAll_cons r2
 obtain ⟨v4, vs4, d4, ds4, p4, q4, rfl, rfl, rfl, h4, r4⟩ := trodAll_cons r3
 obtain ⟨rfl, rfl, rfl⟩ := trodAll_nil r4
 exact ⟨v0, v1, v2, v3, v4, d0, d1, d2, d3, d4, p0, p1, p2, p3, p4, by cases args; simp_all, rfl, by simp, h0, h1, h2, h3, h4⟩
end
end
theorem xor_u8 (a b : UInt8) : bits .xor .u8 (a.toNat : Int) (b.toNat : Int) = ((a ^^^ b).toNat : Int) := by
 have e1 : (BitVec.ofInt 8 (a.toNat : Int)) = a.toBitVec := by
  apply BitVec.eq_of_toNat_eq
  have := a.toNat_lt
  rw [BitVec.toNat_ofInt]
  show _ = a.toNat
  omega
 have e2 : (BitVec.ofInt 8 (b.toNat : Int)) = b.toBitVec := by
  apply BitVec.eq_of_toNat_eq
  have := b.toNat_lt
  rw [BitVec.toNat_ofInt]
  show _ = b.toNat
  omega
 show IntKind.u8.wrap ((BitVec.ofInt 8 (a.toNat : Int) ^^^ BitVec.ofInt 8 (b.toNat : Int)).toNat : Nat) = _
 rw [e1, e2, IntKind.wrap_u8]
 have h := (a ^^^ b).toNat_lt
 have e3 : (a.toBitVec ^^^ b.toBitVec).toNat = (a ^^^ b).toNat := rfl
 rw [e3]
 omega
set_option maxRecDepth 100000 in
set_option maxHeartbeats 4000000 in
theorem rclamped_any (kb : List UInt8) (w : World) (hk : kb.length = 32) : Calls Tryz.prog 63 #[.agg (kb.map bval).toArray] w fun e w' => e = .returned (.agg ((clampB kb).map bval).toArray) ∧ Below w.heap.size w w' := by
 have HB := Lib.hid (boxes2 w (kb.map bval) (ints .u8 (List.replicate 32 0)) 23 23)
 have HKL := Lib.hid hk
 clear hk
 go_enter Tryz.func63, Tryz.ntmps63
 go_upto_region 1 with (fail)
 obtain ⟨H1, H2, HE⟩ := HB.out
 change Code.wp _ _ _ _ ((w.alloc (.cells (kb.map bval).toArray 23)).alloc (.cells (ints .u8 (List.replicate 32 0)).toArray 23))
 generalize (w.alloc (.cells (kb.map bval).toArray 23)).alloc (.cells (ints .u8 (List.replicate 32 0)).toArray 23) = wa at *
 obtain ⟨A, hA⟩ : ∃ A, A = w.heap.size := ⟨_, rfl⟩
 have HAW : Hid (w.heap.size ≤ A) := Lib.hid (by omega)
 rw [← hA] at H1 H2 ⊢
 have H1 := Lib.hid H1
 have H2 := Lib.hid H2
 have HE : Hid (Ext w wa) := Lib.hid HE
 clear hA HB
 obtain ⟨k1, hk1⟩ : ∃ k1, k1 = kb.set 0 (kb.getD 0 0 &&& 248) := ⟨_, rfl⟩
 have HX1 : Hid ((kb.map bval).set 0 (.int .u8 (bits .and .u8 ((kb.getD 0 0).toNat : Int) 248)) = k1.map bval) := Lib.hid (by
  have e1 := u8_and (kb.getD 0 0) 248
  rw [show (248 : Int) = ((248 : UInt8).toNat : Int) from rfl, e1, u8_set, hk1])
 have HL1 : Hid (k1.length = 32) := Lib.hid (by rw [hk1, List.length_set, HKL.out])
 have HX2 : Hid ((k1.map bval).set 31 (.int .u8 (bits .or .u8 (bits .and .u8 ((k1.getD 31 0).toNat : Int) 127) 64)) = (clampB kb).map bval) := Lib.hid (by
  have e1 := u8_and (k1.getD 31 0) 127
  have e2 := u8_or (k1.getD 31 0 &&& 127) 64
  rw [show (127 : Int) = ((127 : UInt8).toNat : Int) from rfl, show (64 : Int) = ((64 : UInt8).toNat : Int) from rfl, e1, e2, u8_set, hk1]
  rfl)
 have HCL := Lib.hid (zda HKL.out)
 obtain ⟨cl, hcl⟩ : ∃ cl, cl = clampB kb := ⟨_, rfl⟩
 rw [← hcl] at HCL HX2
 have HCE := Lib.hid hcl
 clear hcl
 clear hk1
 have c1 := H1.out.cell 0
 rw [zbm (by rw [HKL.out]; omega)] at c1
 have f1 := H1.out.free 0
 generalize ((kb.getD 0 0).toNat : Int) = q1 at *
 go_upto_region 2 with (fail)
 have HM := Lib.hid (H1.out.set 0 (.int .u8 (bits .and .u8 q1 248)))
 rw [HX1.out] at HM
 have H2 := Lib.hid (H2.out.far (a := ⟨A, 0, none⟩) (by simp) (.int .u8 (bits .and .u8 q1 248)))
 have HE := Lib.hid (Below.setCell HE.out (p := ⟨A, 0, none⟩) (by have := HAW.out; simp; omega) (.int .u8 (bits .and .u8 q1 248)))
 generalize bits .and .u8 q1 248 = v1 at *
 generalize wa.setCell ⟨A, 0, none⟩ (.int .u8 v1) = wb at *
 clear c1 f1 HX1 H1
 have c1 := HM.out.cell 31
 rw [zbm (by rw [HL1.out]; omega)] at c1
 have f1 := HM.out.free 31
 generalize ((k1.getD 31 0).toNat : Int) = q2 at *
 go_upto_region 3 with (fail)
 have HM2 := Lib.hid (HM.out.set 31 (.int .u8 (bits .or .u8 (bits .and .u8 q2 127) 64)))
 rw [HX2.out] at HM2
 have H2 := Lib.hid (H2.out.far (a := ⟨A, 31, none⟩) (by simp) (.int .u8 (bits .or .u8 (bits .and .u8 q2 127) 64)))
 have HE := Lib.hid (Below.setCell HE.out (p := ⟨A, 31, none⟩) (by have := HAW.out; simp; omega) (.int .u8 (bits .or .u8 (bits .and .u8 q2 127) 64)))
 generalize bits .or .u8 (bits .and .u8 q2 127) 64 = v2 at *
 generalize wb.setCell ⟨A, 31, none⟩ (.int .u8 v2) = wc at *
 clear c1 f1 HX2 HM
 have HE : Hid (Ext w wc) := Lib.hid HE.out
 have HI : Hid ((Tryz.prog.info? 23).map (·.size) = some (cl.map bval).length) := Lib.hid (zae HCL.out)
 have HLo : Hid ((cl.map bval).length = (ints .u8 (List.replicate 32 0)).length) := Lib.hid (by rw [List.length_map, HCL.out, zab, List.length_replicate])
 go_wp2_with (first | (refine zag rfl _ _ rfl A rfl _ _ _ _ HM2.out Tryz.underlying23 HI.out ?_) | (refine zac rfl _ _ _ rfl (A + 1) (cl.map bval) rfl rfl _ _ H2.out HLo.out HI.out (zaj _) ?_; intro w5 hb5 hg5))
 refine bodyPost_ret (zbj rfl _ (A + 1) _ _ _ _ rfl hb5 Tryz.underlying23 HI.out) rfl ?_
 exact ⟨by rw [HCE.out], zad HE.out hg5 (by have := HAW.out; omega)⟩
def tAll (x y : List Int) : Nat → List Int
 | 0 => List.replicate 64 0
 | i + 1 => mRow (tAll x y i) x y i 32
theorem tAll_length (x y : List Int) : ∀ i, (tAll x y i).length = 64
 | 0 => by simp [tAll]
 | i + 1 => by rw [tAll, zdj, tAll_length x y i]
theorem tRow_range {p x y : List Int} {i : Nat} {C : Int} (hi : i < 32) (hp : p.length = 64) (hC : ∀ k, 0 ≤ p.getD k 0 ∧ p.getD k 0 ≤ C) (hx : ∀ j, 0 ≤ x.getD j 0 ∧ x.getD j 0 ≤ 255) (hy : ∀ j, 0 ≤ y.getD j 0 ∧ y.getD j 0 ≤ 255) :
  ∀ j, j ≤ 32 → ∀ k, 0 ≤ (mRow p x y i j).getD k 0 ∧ (mRow p x y i j).getD k 0 ≤ C + 65025
 | 0, _, k => by have := hC k; simp only [mRow]; omega
 | j + 1, hj, k => by
  have ih := tRow_range hi hp hC hx hy j (by omega) k
  have hm := mul_range (hx i).1 (hx i).2 (hy j).1 (hy j).2
  simp only [mRow]
  by_cases e : i + j = k
  ·subst e
   rw [zar (by rw [zdj]; omega), mRow_far p x y i j _ (by omega)]
   have := hC (i + j)
   omega
  ·rw [zam e]
   exact ih
theorem tAll_range {x y : List Int} (hx : ∀ j, 0 ≤ x.getD j 0 ∧ x.getD j 0 ≤ 255) (hy : ∀ j, 0 ≤ y.getD j 0 ∧ y.getD j 0 ≤ 255) : ∀ i, i ≤ 32 → ∀ k, 0 ≤ (tAll x y i).getD k 0 ∧ (tAll x y i).getD k 0 ≤ (i : Int) * 65025
 | 0, _, k => by
  simp only [tAll, List.getD, List.getElem?_replicate]
  split <;> simp
 | i + 1, hi, k => by
  have := tRow_range (i := i) (C := (i : Int) * 65025) (by omega) (tAll_length x y i) (tAll_range hx hy i (by omega)) hx hy 32 (by omega) k
  simp only [tAll]
  omega
theorem tRow_val (p x y : List Int) (i : Nat) (hi : i < 32) (hp : p.length = 64) (hy : y.length = 32) : ∀ j, j ≤ 32 → gV 256 (mRow p x y i j) = gV 256 p + x.getD i 0 * 256 ^ i * gV 256 (y.take j)
 | 0, _ => by simp [mRow, gV]
 | j + 1, hj => by
  simp only [mRow]
  rw [gV_set _ _ _ _ (by rw [zdj]; omega), tRow_val p x y i hi hp hy j (by omega), zcd _ y j (by omega), Int.pow_add]
  generalize (mRow p x y i j).getD (i + j) 0 = a
  generalize (256 : Int) ^ i = X
  generalize (256 : Int) ^ j = Y
  generalize gV 256 (y.take j) = T
  generalize y.getD j 0 = t
  generalize x.getD i 0 = u
  grind
theorem tAll_val (x y : List Int) (hx : x.length = 32) (hy : y.length = 32) : ∀ i, i ≤ 32 → gV 256 (tAll x y i) = gV 256 (x.take i) * gV 256 y
 | 0, _ => by simp [tAll, gV_zeros, gV]
 | i + 1, hi => by
  simp only [tAll]
  have e : y.take 32 = y := List.take_of_length_le (by omega)
  rw [tRow_val _ _ _ _ (by omega) (tAll_length x y i) hy 32 (by omega), tAll_val x y hx hy i (by omega), zcd _ x i (by omega), e]
  generalize (256 : Int) ^ i = X
  generalize gV 256 y = T
  generalize gV 256 (x.take i) = S
  generalize x.getD i 0 = u
  grind
def cM (t : List Int) (i : Nat) : Int := gV 256 (t.take i) / 256 ^ i
theorem cM_zero (t : List Int) : cM t 0 = 0 := by simp [cM, gV]
theorem cM_step (t : List Int) (i : Nat) (hi : i < t.length) : (cM t i + t.getD i 0) % 256 = gV 256 t / 256 ^ i % 256 ∧ (cM t i + t.getD i 0) / 256 = cM t (i + 1) := by
 have hP : (0 : Int) < 256 ^ i := Int.pow_pos (by omega)
 have e1 : gV 256 t = gV 256 (t.take i) + 256 ^ i * (t.getD i 0 + 256 * gV 256 (t.drop (i + 1))) := by
  have h := gV_cut 256 t i (by omega)
  rw [List.drop_eq_getElem_cons hi, gV] at h
  rw [getD_eq hi]
  exact h
 unfold cM
 refine ⟨?_, ?_⟩
 ·rw [e1, Int.add_mul_ediv_left _ _ (by omega)]
  generalize gV 256 (t.take i) / 256 ^ i = c
  omega
 ·rw [zcd _ t i hi, Int.pow_succ, ← Int.ediv_ediv_of_nonneg (by omega), Int.mul_comm (t.getD i 0), Int.add_mul_ediv_left _ _ (by omega)]
theorem cM_range {t : List Int} {M : Int} (hM : ∀ k, 0 ≤ t.getD k 0 ∧ t.getD k 0 ≤ M) : ∀ i, i ≤ t.length → 0 ≤ cM t i ∧ cM t i ≤ M
 | 0, _ => by rw [cM_zero]; have := hM 0; omega
 | i + 1, hi => by
  have ih := cM_range hM i (by omega)
  have h := (cM_step t i (by omega)).2
  have := hM i
  omega
theorem prod_val (l m : List UInt8) (hl : l.length = 32) (hm : m.length = 32) : gV 256 (tAll (byl l) (byl m) 32) = ((leN l * leN m : Nat) : Int) := by
 have h1 : (byl l).length = 32 := by simp [byl, hl]
 have h2 : (byl m).length = 32 := by simp [byl, hm]
 have e : (byl l).take 32 = byl l := List.take_of_length_le (by omega)
 rw [tAll_val _ _ h1 h2 32 (by omega), e, Int.natCast_mul]
 unfold byl
 rw [gV_bytes, gV_bytes]
theorem prod_byte (x k : Nat) : ((x : Int) / 256 ^ k % 256) = ((x / 256 ^ k % 256 : Nat) : Int) := by
 have e : ((256 : Int) ^ k) = ((256 ^ k : Nat) : Int) := by simp
 rw [e, ← Int.natCast_ediv]
 omega
theorem u8_one : (Tryz.prog.info? 5).map (·.size) = some 1 := by kernel_rfl
set_option maxRecDepth 100000 in
set_option maxHeartbeats 8000000 in
theorem rparts_f (s : List UInt8) (w : World) (hs : s.length = 32) (hK : GlobK5 w) : Calls Tryz.prog 28 #[.agg (s.map bval).toArray] w fun e w' => ∃ x, e = .returned (.tuple #[.agg ((secA s).map bval).toArray, x]) ∧ Row1 w' x ((secH s).map bval) ∧ Below w.heap.size w w' := by
 obtain ⟨i0, hi, hz0, hz1, hz2⟩ := info_parts Tryz.info5
 have HI0 := Lib.hid hi
 have HZ0 := Lib.hid hz0
 have HZ1 := Lib.hid hz1
 have HZ2 := Lib.hid hz2
 have HSL := Lib.hid hs
 have HK := Lib.hid hK
 have HB := Lib.hid (boxes2 w (s.map bval) (ints .u8 (List.replicate 32 0)) 23 23)
 clear hi hz0 hz1 hz2 hs hK
 go_enter Tryz.func28, Tryz.ntmps28
 go_upto_region 1 with (fail)
 obtain ⟨H1, H2, HE⟩ := HB.out
 change Code.wp _ _ _ _ ((w.alloc (.cells (s.map bval).toArray 23)).alloc (.cells (ints .u8 (List.replicate 32 0)).toArray 23))
 generalize (w.alloc (.cells (s.map bval).toArray 23)).alloc (.cells (ints .u8 (List.replicate 32 0)).toArray 23) = wa at *
 obtain ⟨A, hA⟩ : ∃ A, A = w.heap.size := ⟨_, rfl⟩
 have HAW : Hid (w.heap.size ≤ A) := Lib.hid (by omega)
 rw [← hA] at H1 H2 ⊢
 have HSR := Lib.hid (zcc (n := 32) H1 (by rw [List.length_map, HSL.out]) (by unfold maxLen; omega))
 have HR := Lib.hid H2
 have HE : Hid (Ext w wa) := Lib.hid HE
 clear hA HB H1 H2
 go_wp2_with fail
 refine (rShb_any _ s wa HSR.out (by rw [HSL.out]; omega) (HK.out.ext HE.out)).mono ?_
 rintro e wb ⟨rfl, hb⟩
 have HR := Lib.hid (zaa HR.out hb)
 have HE := Lib.hid (HE.out.trans hb)
 clear hb HSR
 have HHL := Lib.hid (zbx s)
 have HSA : Hid (secA s = clampB ((sha512 s).take 32)) := Lib.hid rfl
 have HSH : Hid (secH s = (sha512 s).drop 32) := Lib.hid rfl
 generalize sha512 s = h at *
 have HZ := Lib.hid (Blk.made wb (ints .u8 (List.replicate 64 0)) 25)
 have HEA := Lib.hid (Ext.alloc wb (.cells (ints .u8 (List.replicate 64 0)).toArray 25))
 have HL : Hid ((h.map bval).length = (ints .u8 (List.replicate 64 0)).length) := Lib.hid (by rw [List.length_map, HHL.out, zab]; rfl)
 go_upto_region 2 with (refine zac rfl _ _ _ rfl wb.heap.size (h.map bval) rfl rfl _ _ HZ.out HL.out (zce HHL.out) (zaj _) ?_; intro w2 hb2 hg2)
 have HX := Lib.hid (zad HEA.out hg2 (Nat.le_refl _))
 obtain ⟨S, hS⟩ : ∃ S, S = wb.heap.size := ⟨_, rfl⟩
 have HAS : Hid (A + 1 < S) := Lib.hid (by rw [hS]; exact HR.out.lt)
 have HR := Lib.hid (zaa HR.out HX.out)
 have HE := Lib.hid (HE.out.trans HX.out)
 rw [← hS] at hb2 ⊢
 have H4 := Lib.hid hb2
 clear hb2 hg2 HZ HEA HX HL hS
 have HXA := Ext.alloc w2 (.cells (ints .u8 (List.replicate 32 0)).toArray 23)
 obtain ⟨O, hO⟩ : ∃ O, O = w2.heap.size := ⟨_, rfl⟩
 have HOA : Hid (A + 1 < O ∧ S < O ∧ w.heap.size ≤ O) := Lib.hid (by have := H4.out.lt; have := HE.out.size; have := HAS.out; omega)
 have H5 : Hid (Blk (w2.alloc (.cells (ints .u8 (List.replicate 32 0)).toArray 23)) O ((List.replicate 32 (0 : UInt8)).map bval) 23) := Lib.hid (by rw [hO]; exact Blk.made w2 (ints .u8 (List.replicate 32 0)) 23)
 have HR := Lib.hid (zaa HR.out HXA)
 have H4 := Lib.hid (zaa H4.out HXA)
 have HE := Lib.hid (HE.out.trans HXA)
 clear HXA
 go_upto_region 3 with (fail)
 change Code.wp _ _ _ _ (w2.alloc (.cells (ints .u8 (List.replicate 32 0)).toArray 23))
 rw [← hO]
 clear hO
 generalize w2.alloc (.cells (ints .u8 (List.replicate 32 0)).toArray 23) = w3 at *
 refine zak 2 1 2 rfl (by kernel_rfl) (by kernel_rfl) (fun d v c a w h => by cases d <;> exact h) (by kernel_rfl) ?_
 refine zbd (.slice (some ⟨O, 0, none⟩) 32 32) (by rfl) (fun w hw => by go_simp) ?_
 simp only [Act.put, nrm]
 refine zbd (.slice (some ⟨S, 0, none⟩) 32 64) (by rfl) (fun w hw => by go_simp) ?_
 simp only [Act.put, nrm]
 refine zaw (zee (k := 2) rfl (by kernel_rfl) (by kernel_rfl) (by kernel_rfl) rfl (fun w4 hw4 => ?_))
 have HR := Lib.hid (zaa HR.out hw4)
 have H4 := Lib.hid (zaa H4.out hw4)
 have H5 := Lib.hid (zaa H5.out hw4)
 have HE := Lib.hid (HE.out.trans hw4)
 clear hw4
 have HTL : Hid ((h.take 32).length = 32) := Lib.hid (by rw [List.length_take, HHL.out]; rfl)
 refine wp_copy_blk _ _ 26 26 rfl 5 Tryz.underlying26 u8_one _ _ _ _ _ _ rfl rfl O 0 _ _ H5.out ((h.take 32).map bval) (by rw [List.length_map, HTL.out]; rfl) (fun _ => ⟨rfl, ⟨S, 0, none⟩, rfl, fun j v hj => ?_⟩) (by rw [List.length_map, HTL.out]; simp) (zaj _) ?_
 ·have hj2 : j < 32 := by
   rcases Nat.lt_or_ge j 32 with h' | h'
   ·exact h'
   ·rw [List.getElem?_eq_none (by rw [List.length_map, HTL.out]; omega)] at hj; cases hj
  rw [WideShapes.add_plain, Nat.zero_add, H4.out.cell, ← hj, List.getElem?_map, List.getElem?_map, List.getElem?_take, if_pos hj2]
 intro w5 hb5 hg5
 have e32 : splice ((List.replicate 32 (0 : UInt8)).map bval) 0 ((h.take 32).map bval) = (h.take 32).map bval := by
  rw [splice_bytes, HTL.out]
  simp
 rw [e32] at hb5
 have HR := Lib.hid (HR.out.grown hg5 (by have := HOA.out; simp; omega))
 have H4 := Lib.hid (H4.out.grown hg5 (by have := HOA.out; simp; omega))
 have HE := Lib.hid (zad HE.out hg5 HOA.out.2.2)
 have H5 := Lib.hid hb5
 clear hb5 hg5 e32
 generalize goInt ((h.take 32).map bval).length = g1
 simp only [Act.put, nrm]
 have HCL := Lib.hid (zda HTL.out)
 rw [← HSA.out] at HCL
 have HC : Hid (∀ w, Calls Tryz.prog 63 #[.agg ((h.take 32).map bval).toArray] w fun e w' => e = .returned (.agg ((secA s).map bval).toArray) ∧ Below w.heap.size w w') := Lib.hid (fun w => by rw [HSA.out]; exact rclamped_any _ w HTL.out)
 have HRS : Hid (Row1 w5 (.slice (some ⟨S, 32, none⟩) 32 32) ((h.drop 32).map bval)) := Lib.hid (by
  have h1 := row_cut Tryz.underlying26 Tryz.sizeOf5 (zcc (n := 64) H4.out (by rw [List.length_map, HHL.out]) (by unfold maxLen; omega)) 32 (by rw [List.length_map, HHL.out]; omega)
  refine ⟨some ⟨S, 32, none⟩, 32, by rw [List.length_map, List.length_drop, HHL.out], by rw [List.length_map, List.length_drop, HHL.out]; omega, by unfold maxLen; omega, (fun e => by cases e), fun _ => ⟨S, 32, rfl, H4.out.lt, fun i hi => ?_⟩⟩
  rw [H4.out.cell, List.getElem?_map, List.getElem?_map, List.getElem?_drop])
 have HDL : Hid ((h.drop 32).length = 32) := Lib.hid (by rw [List.length_drop, HHL.out])
 have HO : Hid (A + 1 < O) := Lib.hid HOA.out.1
 generalize h.take 32 = ht at *
 generalize h.drop 32 = hd at *
 go_upto_region 4 with (fail)
 have rs := HRS.out
 have B0 : Ext w5 w5.drew := Ext.drew _
 refine wp_region_held_drew (S := fun w' => Far (A + 1) w5 w') (by kernel_rfl) (zby B0) (fun hHeld => ?_)
 have rs := rs.below (Ext.drew _)
 refine tke 0 (.agg ((ht).map bval).toArray) rfl (yieldsIf_load_mid (by rfl) _ _ rfl O 0 rfl _ _ (fun w h => zbo H5.out (by have := HO.out; omega) h) Tryz.underlying23 rfl (zae HTL.out)) hHeld ?_
 simp only [Act.put, nrm]
 refine tke 2 (.slice (some ⟨S, 32, none⟩) 32 32) rfl (yi_slice _ _ _ _ (.pointer (some ⟨S, 0, none⟩)) (.slice (some ⟨S, 32, none⟩) 32 32) (some (.int .i64 32)) none (by rfl) rfl rfl rfl rfl (fun w => by go_simp)) hHeld ?_
 simp only [Act.put, nrm]
 refine rdy 1 rfl fun K hK => ?_
 go_simp
 refine (HC.out _).mono ?_
 rintro e m1 ⟨rfl, b1⟩
 have rs := rs.below b1
 have N1 : Ext w5 m1 := B0.trans b1
 refine hK.out _ _ (zby N1) (fun hHeld => ?_)
 clear hK K
 try simp only [Act.put, nrm]
 refine rdy 3 rfl fun K hK => ?_
 refine zao (by rfl) ?_
 refine wp_append_row _ _ 26 rfl (m1).heap.size 5 i0 (.int .u8 0) 1 Tryz.underlying26 HI0.out HZ0.out HZ1.out HZ2.out rfl (.slice none 0 0) 0 [] rfl (World.ownsRow_nil _ _ _ _) rfl rs (zaj _) (by rw [List.length_map, HDL.out]; unfold maxLen; omega) (by rw [List.length_map, HDL.out]; omega) (Nat.le_refl _) ?_
 intro v2 m2 ho2 hg2
 have b2 : Ext m1 m2 := ext_own (Ext.refl _) (World.ownsRow_nil _ _ 5 _) (Nat.le_refl _) hg2
 have rs := rs.below b2
 rw [List.nil_append] at ho2
 have r2 : Row1 m2 v2 ((hd).map bval) := Row1.of_own ho2
 have N2 : Ext w5 m2 := N1.trans b2
 have own_far : Hid (v2.ownBlock ≠ some (A + 1)) := Lib.hid (Row1.own_ne ho2 (by have := HOA.out; have := H5.out.lt; have := N1.size; omega))
 refine hK.out _ _ (zby N2) (fun hHeld => ?_)
 clear hK K
 try simp only [Act.put, nrm]
 refine rdy 4 rfl fun K hK => ?_
 refine zao (by rfl) ?_
 refine zal _ _ _ rfl (A + 1) ((secA s).map bval) rfl rfl _ _ (zaa HR.out N2) (by rw [List.length_map, HCL.out, zab]; rfl) (zae (HCL.out)) (zaj _) ?_
 intro m3 hb3 hg3
 refine hK.out _ _ (zeb N2 hg3) (fun hHeld => ?_)
 clear hK K
 try simp only [Act.put, nrm]
 refine rdy 5 rfl fun K hK => ?_
 go_simp
 refine hK.out _ _ (zeb N2 hg3) (fun hHeld => ?_)
 clear hK K
 try simp only [Act.put, nrm]
 refine dne ?_
 go_wp2_with fail
 refine bodyPost_ret (zbi rfl _ (A + 1) _ _ _ rfl hb3 Tryz.underlying23 rfl (zae HCL.out)) rfl ?_
 refine ⟨_, rfl, ?_, zad (HE.out.trans N2) hg3 (by have := HAW.out; omega)⟩
 rw [HSH.out]
 exact r2.grown hg3 (fun k hk e => by cases hk; exact own_far.out e)
set_option maxRecDepth 100000 in
set_option maxHeartbeats 8000000 in
theorem rpublic_f (s : List UInt8) (w : World) (hs : s.length = 32) (hK : GlobK5 w) (hD : GlobD w) (hX : GlobX w) (hY : GlobY w) : Calls Tryz.prog 10 #[.agg (s.map bval).toArray] w fun e w' => e = .returned (.agg ((edPub s).map bval).toArray) ∧ Below w.heap.size w w' := by
 have HSL := Lib.hid hs
 have HK := Lib.hid hK
 have HGD := Lib.hid hD
 have HGX := Lib.hid hX
 have HGY := Lib.hid hY
 have HB := Lib.hid (boxes2 w (s.map bval) (ints .u8 (List.replicate 32 0)) 23 23)
 clear hs hK hD hX hY
 go_enter Tryz.func10, Tryz.ntmps10
 go_upto_region 1 with (fail)
 obtain ⟨H1, H2, HE⟩ := HB.out
 change Code.wp _ _ _ _ ((w.alloc (.cells (s.map bval).toArray 23)).alloc (.cells (ints .u8 (List.replicate 32 0)).toArray 23))
 generalize (w.alloc (.cells (s.map bval).toArray 23)).alloc (.cells (ints .u8 (List.replicate 32 0)).toArray 23) = wa at *
 obtain ⟨A, hA⟩ : ∃ A, A = w.heap.size := ⟨_, rfl⟩
 have HAW : Hid (w.heap.size ≤ A) := Lib.hid (by omega)
 rw [← hA] at H1 H2 ⊢
 have HS := Lib.hid H1
 have HR := Lib.hid H2
 have HE : Hid (Ext w wa) := Lib.hid HE
 clear hA HB H1 H2
 go_wp2_with (refine zag rfl _ _ rfl A rfl _ _ _ _ HS.out Tryz.underlying23 (zae HSL.out) ?_)
 refine (rparts_f s wa HSL.out (HK.out.ext HE.out)).mono ?_
 rintro e wb ⟨x, rfl, hx, hb⟩
 have HR := Lib.hid (zaa HR.out hb)
 have HE := Lib.hid (HE.out.trans hb)
 clear hx hb HS
 have HAL : Hid ((secA s).length = 32) := Lib.hid (by unfold secA; exact zda (by rw [List.length_take, zbx]; rfl))
 have HPB : Hid (edPub s = encB (pmul (leN (secA s)) bP)) := Lib.hid rfl
 generalize secA s = a at *
 have HZ := Lib.hid (Blk.made wb (ints .u8 (List.replicate 32 0)) 23)
 have HEA := Lib.hid (Ext.alloc wb (.cells (ints .u8 (List.replicate 32 0)).toArray 23))
 have HL : Hid ((a.map bval).length = (ints .u8 (List.replicate 32 0)).length) := Lib.hid (by rw [List.length_map, HAL.out, zab]; rfl)
 go_upto_region 2 with (refine zac rfl _ _ _ rfl wb.heap.size (a.map bval) rfl rfl _ _ HZ.out HL.out (zae HAL.out) (zaj _) ?_; intro wc hb2 hg2)
 have HXX := Lib.hid (zad HEA.out hg2 (Nat.le_refl _))
 obtain ⟨T, hT⟩ : ∃ T, T = wb.heap.size := ⟨_, rfl⟩
 have HO : Hid (A + 1 < T) := Lib.hid (by rw [hT]; exact HR.out.lt)
 have HR := Lib.hid (zaa HR.out HXX.out)
 have HE := Lib.hid (HE.out.trans HXX.out)
 rw [← hT] at hb2 ⊢
 have HT := Lib.hid hb2
 clear hb2 hg2 HZ HEA HXX HL hT
 have HIS := Lib.hid (erun_full (Pt.es_is bP) (m := 256) (n := leN a) (by have := leN_lt a; rw [HAL.out] at this; exact Nat.lt_of_lt_of_eq this (by decide +kernel)))
 have B0 : Ext wc wc.drew := Ext.drew _
 refine wp_region_held_drew (S := fun w' => Far (A + 1) wc w') (by kernel_rfl) (zby B0) (fun hHeld => ?_)
 refine tke 1 (.agg ((a).map bval).toArray) rfl (yieldsIf_load_mid (by rfl) _ _ rfl T 0 rfl _ _ (fun w h => zbo HT.out (by have := HO.out; omega) h) Tryz.underlying23 rfl (zae HAL.out)) hHeld ?_
 simp only [Act.put, nrm]
 refine rdy 0 rfl fun K hK => ?_
 go_simp
 refine (rbase_f _ (HGX.out.ext (HE.out.trans B0)) (HGY.out.ext (HE.out.trans B0))).mono ?_
 rintro e m1 ⟨v1, rfl, e1, b1⟩
 obtain ⟨a1, c1, d1, g1, hz1, z1⟩ := e1
 subst hz1
 have N1 : Ext wc m1 := B0.trans b1
 refine hK.out _ _ (zby N1) (fun hHeld => ?_)
 clear hK K
 try simp only [Act.put, nrm]
 refine rdy 2 rfl fun K hK => ?_
 go_simp
 refine (rmany_f _ bP.es a _ (⟨_, _, _, _, rfl, z1⟩ : PtV _ (bP.es)) HAL.out (HGD.out.ext (HE.out.trans N1))).mono ?_
 rintro e m2 ⟨v2, rfl, e2, b2⟩
 obtain ⟨a2, c2, d2, g2, hz2, z2⟩ := e2
 subst hz2
 have N2 : Ext wc m2 := N1.trans b2
 refine hK.out _ _ (zby N2) (fun hHeld => ?_)
 clear hK K
 try simp only [Act.put, nrm]
 refine rdy 3 rfl fun K hK => ?_
 go_simp
 refine (zdx _ _ (pmul (leN a) bP) _ (⟨_, _, _, _, rfl, z2⟩ : PtV _ (erun 256 bP.es (leN a) 256)) HIS.out).mono ?_
 rintro e m3 ⟨rfl, b3⟩
 have N3 : Ext wc m3 := N2.trans b3
 refine hK.out _ _ (zby N3) (fun hHeld => ?_)
 clear hK K
 try simp only [Act.put, nrm]
 refine rdy 4 rfl fun K hK => ?_
 refine zao (by rfl) ?_
 refine zal _ _ _ rfl (A + 1) ((encB (pmul (leN a) bP)).map bval) rfl rfl _ _ (zaa HR.out N3) (by rw [List.length_map, zbt, zab]; rfl) (zae ((zbt _))) (zaj _) ?_
 intro m4 hb4 hg4
 refine hK.out _ _ (zeb N3 hg4) (fun hHeld => ?_)
 clear hK K
 try simp only [Act.put, nrm]
 refine dne ?_
 go_wp2_with fail
 refine bodyPost_ret (zbj rfl _ (A + 1) _ _ _ _ rfl hb4 Tryz.underlying23 (zae (zbt _))) rfl ?_
 exact ⟨by rw [HPB.out], zad (HE.out.trans N3) hg4 (by have := HAW.out; omega)⟩
theorem bytesN_zero : ∀ n, bytesN n 0 = List.replicate n 0
 | 0 => rfl
 | n + 1 => by
  simp only [bytesN, Nat.zero_div, bytesN_zero n, List.replicate_succ]
  rfl
theorem fill_tail (x k n : Nat) (h : x < 256 ^ k) : fill (k + n) (bytesN (k + n) x) k = bytesN (k + n) x := by
 have e1 := zff k n x
 rw [Nat.div_eq_of_lt h, bytesN_zero] at e1
 unfold fill
 rw [e1, List.take_append_of_le_length (by rw [zbc]; exact Nat.le_refl _), List.take_of_length_le (by rw [zbc]; exact Nat.le_refl _), Nat.add_sub_cancel_left]
theorem cA_le (a b i : Nat) : scl_cA a b i ≤ 1 := by
 have hP : 0 < 256 ^ i := Nat.pow_pos (by omega)
 have h1 := Nat.mod_lt a hP
 have h2 := Nat.mod_lt b hP
 unfold scl_cA
 generalize 256 ^ i = P at *
 have : (a % P + b % P) / P < 2 := by rw [Nat.div_lt_iff_lt_mul hP]; omega
 omega
theorem rred_blk (x : Nat) (hx : x < 256 ^ 64) {w : World} {c : Nat} {t : TypeId} (h : Blk w c ((bytesN 64 x).map bval) t) (hG : GlobO w) :
  Calls Tryz.prog 61 #[.slice (some ⟨c, 0, none⟩) 64 64] w fun e w' => e = .returned (.agg ((nq (x : Nat)).map bval).toArray) ∧ Below w.heap.size w w' := by
 have := rReduce_num _ (bytesN 64 x) w (h.row (by rw [List.length_map, zbc]) (by unfold maxLen; omega)) hG
 rwa [List.take_of_length_le (by rw [zbc]; exact Nat.le_refl _), zdz, Nat.mod_eq_of_lt hx] at this
set_option maxRecDepth 100000 in
set_option maxHeartbeats 4000000 in
theorem rAddQ_num (l m : List UInt8) (w : World) (hl : l.length = 32) (hm : m.length = 32) (hG : GlobO w) :
  Calls Tryz.prog 29 #[.agg (l.map bval).toArray, .agg (m.map bval).toArray] w fun e w' => e = .returned (.agg ((nq ((leN l : Nat) + (leN m : Nat))).map bval).toArray) ∧ Below w.heap.size w w' := by
 have HL := Lib.hid hl
 have HM := Lib.hid hm
 have HG := Lib.hid hG
 have ha := leN_lt l
 have hb := leN_lt m
 rw [hl] at ha
 rw [hm] at hb
 have h33 : leN l + leN m < 256 ^ 33 := by
  have : (256 : Nat) ^ 32 + 256 ^ 32 ≤ 256 ^ 33 := by decide +kernel
  omega
 have h64 : leN l + leN m < 256 ^ 64 := Nat.lt_of_lt_of_le h33 (by decide +kernel)
 have HC0 := Lib.hid (cA_zero (leN l) (leN m))
 have HCS := Lib.hid (cA_step (leN l) (leN m))
 have HTA : Hid (leN l / 256 ^ 32 % 256 = 0) := Lib.hid (by rw [Nat.div_eq_of_lt ha])
 have HTB : Hid (leN m / 256 ^ 32 % 256 = 0) := Lib.hid (by rw [Nat.div_eq_of_lt hb])
 have HFT := Lib.hid (fill_tail (leN l + leN m) 33 31 h33)
 have HFL := Lib.hid (zbc 64 (leN l + leN m))
 have HFB := Lib.hid (fun k hk => zdd 64 (leN l + leN m) k hk)
 have HRD := Lib.hid (fun (w : World) (c : Nat) (t : TypeId) (h : Blk w c ((bytesN 64 (leN l + leN m)).map bval) t) hG => rred_blk (leN l + leN m) h64 h hG)
 have HBL := Lib.hid (fun k hk => leN_byte l k hk)
 have HBM := Lib.hid (fun k hk => leN_byte m k hk)
 have HRS : Hid (nq ((leN l + leN m : Nat) : Int) = nq ((leN l : Nat) + (leN m : Nat))) := Lib.hid (by rw [Int.natCast_add])
 have HB := Lib.hid (boxes4 w (l.map bval) (m.map bval) (ints .u8 (List.replicate 32 0)) (ints .u8 (List.replicate 64 0)) 23 23 23 24)
 clear hl hm hG ha hb h33 h64
 go_enter Tryz.func29, Tryz.ntmps29
 go_wp2_with fail
 change Code.wp _ _ _ _ ((((w.alloc (.cells (l.map bval).toArray 23)).alloc (.cells (m.map bval).toArray 23)).alloc (.cells (ints .u8 (List.replicate 32 0)).toArray 23)).alloc (.cells (ints .u8 (List.replicate 64 0)).toArray 24))
 generalize (((w.alloc (.cells (l.map bval).toArray 23)).alloc (.cells (m.map bval).toArray 23)).alloc (.cells (ints .u8 (List.replicate 32 0)).toArray 23)).alloc (.cells (ints .u8 (List.replicate 64 0)).toArray 24) = w0 at *
 obtain ⟨h1, h2, h3, h4, hE⟩ := HB.out
 obtain ⟨A, hA⟩ : ∃ A, A = w.heap.size := ⟨_, rfl⟩
 rw [← hA] at h1 h2 h3 h4 ⊢
 have hA2 : w.heap.size ≤ A := by omega
 have H1 := Lib.hid h1
 have H2 := Lib.hid h2
 have H3 := Lib.hid h3
 have H4 := Lib.hid h4
 have HE : Hid (Ext w w0) := Lib.hid hE
 clear h1 h2 h3 h4 hE HB hA
 obtain ⟨S, hS⟩ : ∃ S, S = bytesN 64 (leN l + leN m) := ⟨_, rfl⟩
 rw [← hS] at HFT HFL HFB HRD
 clear hS
 go_loopw [6, 7] (fun cv iv wr => ∃ (k : Nat), k ≤ 33 ∧ iv = .int .i64 (k : Int) ∧ cv = .int .i64 ((scl_cA (leN l) (leN m) k : Nat) : Int) ∧ Blk wr A (l.map bval) 23 ∧ Blk wr (A + 1) (m.map bval) 23 ∧ Blk wr (A + 1 + 1) (ints .u8 (List.replicate 32 0)) 23 ∧ Blk wr (A + 1 + 1 + 1) ((fill 64 S k).map bval) 24 ∧ Ext w wr) (fun _ iv _ => 33 - (intOf iv).toNat)
 case atStart => exact ⟨0, by omega, rfl, by rw [HC0.out]; rfl, H1.out, H2.out, H3.out, by rw [fill_start]; exact H4.out, HE.out⟩
 case round =>
  clear H1 H2 H3 H4 HE
  obtain ⟨k, hk, rfl, rfl, hb1, hb2, hb3, hb4, hbel⟩ := hrel
  have k0 : (0 : Int) ≤ (k : Int) := Int.natCast_nonneg _
  have hcs := HCS.out k
  have hcb := cA_le (leN l) (leN m) k
  by_cases hlt : k < 33
  ·have k1 : (k : Int) < 33 := by omega
   have k64 : (k : Int) < 64 := by omega
   have hln : ((fill 64 S k).map bval).length = 64 := by rw [List.length_map, fill_length HFL.out (by omega)]
   have e4 := hb4.cell k
   rw [List.getElem?_eq_getElem (by omega)] at e4
   have f4 := hb4.free k
   generalize ((fill 64 S k).map bval)[k]'(by omega) = c4 at e4
   have hfb := HFB.out k (by omega)
   by_cases h32 : k < 32
   ·have k2 : (k : Int) < 32 := by omega
    have e1 := hb1.cell k
    rw [zbm (by rw [HL.out]; exact h32), HBL.out k (by rw [HL.out]; exact h32)] at e1
    have e2 := hb2.cell k
    rw [zbm (by rw [HM.out]; exact h32), HBM.out k (by rw [HM.out]; exact h32)] at e2
    have p1 : leN l / 256 ^ k % 256 < 256 := Nat.mod_lt _ (by omega)
    have p2 : leN m / 256 ^ k % 256 < 256 := Nat.mod_lt _ (by omega)
    have HNX := Lib.hid hcs.2
    have hz := hcs.1
    rw [← hfb] at hz
    generalize leN l / 256 ^ k % 256 = x at *
    generalize leN m / 256 ^ k % 256 = y at *
    generalize scl_cA (leN l) (leN m) k = c at *
    have HST := Lib.hid (zes (k := k) (z := ((c : Int) + (x : Int) + (y : Int)) % 256) HFL.out (by omega) (by omega))
    have hm := and_i64_255 ((c : Int) + (x : Int) + (y : Int)) (by omega) (by omega)
    have HND : Hid (((c : Int) + (x : Int) + (y : Int)) / 256 = ((scl_cA (leN l) (leN m) (k + 1) : Nat) : Int)) := Lib.hid (by have := HNX.out; omega)
    have H1 := Lib.hid hb1
    have H2 := Lib.hid hb2
    have H3 := Lib.hid hb3
    have H4 := Lib.hid hb4
    have HE := Lib.hid hbel
    clear hb1 hb2 hb3 hb4 hbel hln hfb hz hcs
    go_wp2_with fail
    go_region
    go_wp2_with fail
    go_roundw
    case rel =>
     refine ⟨k + 1, by omega, by go_num, by rw [HND.out], (H1.out.drewN 1).far (by simp <;> omega) _, (H2.out.drewN 1).far (by simp <;> omega) _, (H3.out.drewN 1).far (by simp <;> omega) _, ?_, Below.setCell (HE.out.trans (Ext.drew _)) (by simp <;> omega) _⟩
     rw [← HST.out]
     exact (H4.out.drewN 1).set k _
    case measure => simp [intOf]; omega
   ·have k32 : k = 32 := by omega
    subst k32
    rw [HTA.out, HTB.out] at hcs
    have HNX := Lib.hid hcs.2
    have hz := hcs.1
    rw [← hfb] at hz
    generalize scl_cA (leN l) (leN m) 32 = c at *
    have HST := Lib.hid (zes (k := 32) (z := (c : Int) % 256) HFL.out (by omega) (by omega))
    have hm := and_i64_255 (c : Int) (by omega) (by omega)
    have HND : Hid ((c : Int) / 256 = ((scl_cA (leN l) (leN m) (32 + 1) : Nat) : Int)) := Lib.hid (by have := HNX.out; omega)
    have H1 := Lib.hid hb1
    have H2 := Lib.hid hb2
    have H3 := Lib.hid hb3
    have H4 := Lib.hid hb4
    have HE := Lib.hid hbel
    clear hb1 hb2 hb3 hb4 hbel hln hfb hz hcs
    go_wp2_with fail
    go_roundw
    case rel =>
     refine ⟨32 + 1, by omega, by go_num, by rw [HND.out], H1.out.far (by simp <;> omega) _, H2.out.far (by simp <;> omega) _, H3.out.far (by simp <;> omega) _, ?_, Below.setCell HE.out (by simp <;> omega) _⟩
     rw [← HST.out]
     exact H4.out.set 32 _
    case measure => simp [intOf]
  ·have hk33 : k = 33 := by omega
   subst hk33
   have hft : fill 64 S 33 = S := HFT.out
   rw [hft] at hb4
   have H3 := Lib.hid hb3
   have H4 := Lib.hid hb4
   have HE := Lib.hid hbel
   clear hb1 hb2 hb3 hb4 hbel hft hcs hcb
   go_wp2_with fail
   refine (HRD.out _ _ _ H4.out (HG.out.ext HE.out)).mono ?_
   rintro e w5 ⟨rfl, hb5⟩
   have H3 := Lib.hid (zaa H3.out hb5)
   have HE := Lib.hid (HE.out.trans hb5)
   have hi2 : Hid ((Tryz.prog.info? 23).map (·.size) = some ((nq ((leN l + leN m : Nat) : Int)).map bval).length) := Lib.hid (zae (zbu _))
   have hl2 : Hid (((nq ((leN l + leN m : Nat) : Int)).map bval).length = (ints .u8 (List.replicate 32 0)).length) := Lib.hid (by rw [List.length_map, zbu]; rfl)
   clear hb5 HRD
   go_wp2_with (refine zac rfl _ _ _ rfl (A + 1 + 1) _ rfl rfl _ _ H3.out hl2.out hi2.out (zaj _) ?_; intro w7 hb7 hg7)
   exact bodyPost_ret (v := .agg ((nq ((leN l + leN m : Nat) : Int)).map bval).toArray) (zax (by rfl) _ (A + 1 + 1) _ _ _ (by rfl) hb7 Tryz.underlying23 rfl hi2.out) rfl ⟨by rw [HRS.out], zad HE.out hg7 (by omega)⟩
set_option maxRecDepth 100000 in
set_option maxHeartbeats 8000000 in
theorem rMulQ_num (l m : List UInt8) (w : World) (hl : l.length = 32) (hm : m.length = 32) (hG : GlobO w) :
  Calls Tryz.prog 30 #[.agg (l.map bval).toArray, .agg (m.map bval).toArray] w fun e w' => e = .returned (.agg ((nq ((leN l : Nat) * (leN m : Nat))).map bval).toArray) ∧ Below w.heap.size w w' := by
 have HL := Lib.hid hl
 have HM := Lib.hid hm
 have HG := Lib.hid hG
 have ha := leN_lt l
 have hb := leN_lt m
 rw [hl] at ha
 rw [hm] at hb
 have h64 : leN l * leN m < 256 ^ 64 := by
  have e : (256 : Nat) ^ 64 = 256 ^ 32 * 256 ^ 32 := by decide +kernel
  rw [e]
  exact Nat.mul_lt_mul'' ha hb
 have HPV := Lib.hid (prod_val l m hl hm)
 have HFL := Lib.hid (zbc 64 (leN l * leN m))
 have HFB := Lib.hid (fun k hk => zdd 64 (leN l * leN m) k hk)
 have HPB := Lib.hid (fun k => prod_byte (leN l * leN m) k)
 have HRD := Lib.hid (fun (w : World) (c : Nat) (t : TypeId) (h : Blk w c ((bytesN 64 (leN l * leN m)).map bval) t) hG => rred_blk (leN l * leN m) h64 h hG)
 have HRS : Hid (nq ((leN l * leN m : Nat) : Int) = nq ((leN l : Nat) * (leN m : Nat))) := Lib.hid (by rw [Int.natCast_mul])
 have HBX := Lib.hid (byl_range l)
 have HBY := Lib.hid (byl_range m)
 have HGX : Hid (∀ i, ((l.getD i 0).toNat : Int) = (byl l).getD i 0) := Lib.hid (fun i => (byl_getD l i).symm)
 have HGY : Hid (∀ i, ((m.getD i 0).toNat : Int) = (byl m).getD i 0) := Lib.hid (fun i => (byl_getD m i).symm)
 have HB := Lib.hid (boxes4 w (l.map bval) (m.map bval) (ints .u8 (List.replicate 32 0)) (ints .i64 (List.replicate 64 0)) 23 23 23 83)
 clear hl hm hG ha hb h64
 go_enter Tryz.func30, Tryz.ntmps30
 go_wp2_with fail
 change Code.wp _ _ _ _ ((((w.alloc (.cells (l.map bval).toArray 23)).alloc (.cells (m.map bval).toArray 23)).alloc (.cells (ints .u8 (List.replicate 32 0)).toArray 23)).alloc (.cells (ints .i64 (List.replicate 64 0)).toArray 83))
 generalize (((w.alloc (.cells (l.map bval).toArray 23)).alloc (.cells (m.map bval).toArray 23)).alloc (.cells (ints .u8 (List.replicate 32 0)).toArray 23)).alloc (.cells (ints .i64 (List.replicate 64 0)).toArray 83) = w0 at *
 obtain ⟨h1, h2, h3, h4, hE⟩ := HB.out
 obtain ⟨A, hA⟩ : ∃ A, A = w.heap.size := ⟨_, rfl⟩
 rw [← hA] at h1 h2 h3 h4 ⊢
 have hA2 : w.heap.size ≤ A := by omega
 have H1 := Lib.hid h1
 have H2 := Lib.hid h2
 have H3 := Lib.hid h3
 have H4 := Lib.hid h4
 have HE : Hid (Ext w w0) := Lib.hid hE
 clear h1 h2 h3 h4 hE HB hA
 obtain ⟨S, hS⟩ : ∃ S, S = bytesN 64 (leN l * leN m) := ⟨_, rfl⟩
 rw [← hS] at HFL HFB HRD
 clear hS
 generalize hxx : byl l = x at *
 generalize hyy : byl m = y at *
 clear hxx hyy
 go_loopw [6] (fun iv wr => ∃ (i : Nat), i ≤ 32 ∧ iv = .int .i64 (i : Int) ∧ Blk wr A (l.map bval) 23 ∧ Blk wr (A + 1) (m.map bval) 23 ∧ Blk wr (A + 1 + 1) (ints .u8 (List.replicate 32 0)) 23 ∧ Blk wr (A + 1 + 1 + 1) (ints .i64 (tAll x y i)) 83 ∧ Ext w wr) (fun iv _ => 32 - (intOf iv).toNat)
 case atStart => exact ⟨0, by omega, rfl, H1.out, H2.out, H3.out, H4.out, HE.out⟩
 case round =>
  clear H1 H2 H3 H4 HE
  obtain ⟨i, hi, rfl, hb1, hb2, hb3, hb4, hbel⟩ := hrel
  have k0 : (0 : Int) ≤ (i : Int) := Int.natCast_nonneg _
  by_cases hlt : i < 32
  ·have i1 : (i : Int) < 32 := by omega
   have HPR := Lib.hid (tAll_range HBX.out HBY.out i (by omega))
   have HPL := Lib.hid (tAll_length x y i)
   have HNX : Hid (tAll x y (i + 1) = mRow (tAll x y i) x y i 32) := Lib.hid rfl
   generalize tAll x y i = z at *
   have H1 := Lib.hid hb1
   have H2 := Lib.hid hb2
   have H3 := Lib.hid hb3
   have H4 := Lib.hid hb4
   have HE := Lib.hid hbel
   clear hb1 hb2 hb3 hb4 hbel
   go_wp2_with fail
   obtain ⟨wo, rfl⟩ : ∃ wo : World, wo = wr := ⟨_, rfl⟩
   go_loopw [7] (fun jv wr => ∃ (j : Nat), j ≤ 32 ∧ jv = .int .i64 (j : Int) ∧ Blk wr A (l.map bval) 23 ∧ Blk wr (A + 1) (m.map bval) 23 ∧ Blk wr (A + 1 + 1) (ints .u8 (List.replicate 32 0)) 23 ∧ Blk wr (A + 1 + 1 + 1) (ints .i64 (mRow z x y i j)) 83 ∧ Ext w wr) (fun jv _ => 32 - (intOf jv).toNat)
   case atStart => exact ⟨0, by omega, rfl, H1.out, H2.out, H3.out, H4.out, HE.out⟩
   case round =>
    clear H1 H2 H3 H4 HE
    obtain ⟨j, hj, rfl, hb1, hb2, hb3, hb4, hbel⟩ := hrel
    have j0 : (0 : Int) ≤ (j : Int) := Int.natCast_nonneg _
    by_cases hlj : j < 32
    ·have j1 : (j : Int) < 32 := by omega
     have hzl := zdj z x y i j
     rw [HPL.out] at hzl
     have e1 := hb1.cell i
     rw [zbm (by rw [HL.out]; exact hlt), HGX.out] at e1
     have e2 := hb2.cell j
     rw [zbm (by rw [HM.out]; exact hlj), HGY.out] at e2
     have e4 := hb4.cell (i + j)
     rw [zau (by omega)] at e4
     have f4 := hb4.free (i + j)
     have q1 := HBX.out i
     have q2 := HBY.out j
     have q3 := tRow_range hlt HPL.out HPR.out HBX.out HBY.out j (by omega) (i + j)
     have hst : mRow z x y i (j + 1) = (mRow z x y i j).set (i + j) ((mRow z x y i j).getD (i + j) 0 + x.getD i 0 * y.getD j 0) := rfl
     have HST := Lib.hid hst
     have q4 := mul_range q1.1 q1.2 q2.1 q2.2
     generalize (mRow z x y i j).getD (i + j) 0 = a at *
     generalize x.getD i 0 = u at *
     generalize y.getD j 0 = t at *
     obtain ⟨ij, hij⟩ : ∃ ij : Nat, ij = i + j := ⟨_, rfl⟩
     rw [← hij] at e4 f4
     have hij2 : (i : Int) + (j : Int) = (ij : Int) := by omega
     have ij1 : (ij : Int) < 64 := by omega
     have HIJ := Lib.hid hij
     have H1 := Lib.hid hb1
     have H2 := Lib.hid hb2
     have H3 := Lib.hid hb3
     have H4 := Lib.hid hb4
     have HE := Lib.hid hbel
     clear hst hb1 hb2 hb3 hb4 hbel hzl hij
     go_wp2_with fail
     go_region
     go_wp2_with fail
     go_roundw
     case rel =>
      refine ⟨j + 1, by omega, by go_num, (H1.out.far (by simp <;> omega) _).drewN 1, (H2.out.far (by simp <;> omega) _).drewN 1, (H3.out.far (by simp <;> omega) _).drewN 1, ?_, (Below.setCell HE.out (by simp <;> omega) _).drew⟩
      rw [HST.out, ← HIJ.out]
      exact (H4.out.seti ij _).drewN 1
     case measure => simp [intOf]; omega
    ·have hj' : j = 32 := by omega
     subst hj'
     rw [← HNX.out] at hb4
     have H1 := Lib.hid hb1
     have H2 := Lib.hid hb2
     have H3 := Lib.hid hb3
     have H4 := Lib.hid hb4
     have HE := Lib.hid hbel
     clear hb1 hb2 hb3 hb4 hbel
     go_wp2_with fail
     go_roundw
     case rel => exact ⟨i + 1, by omega, by go_num, H1.out, H2.out, H3.out, H4.out, HE.out⟩
     case measure => simp [intOf]; omega
  ·have hi' : i = 32 := by omega
   subst hi'
   have HTR := Lib.hid (tAll_range HBX.out HBY.out 32 (by omega))
   have HTL := Lib.hid (tAll_length x y 32)
   generalize tAll x y 32 = t at *
   have HCR : Hid (∀ k, k ≤ 64 → 0 ≤ cM t k ∧ cM t k ≤ 2080800) := Lib.hid (fun k hk => cM_range (M := 2080800) (fun j => by have := HTR.out j; omega) k (by rw [HTL.out]; exact hk))
   have HCZ := Lib.hid (cM_zero t)
   have HCS : Hid (∀ k, k < 64 → (cM t k + t.getD k 0) % 256 = ((S.getD k 0).toNat : Int) ∧ (cM t k + t.getD k 0) / 256 = cM t (k + 1)) := Lib.hid (fun k hk => by
    have h := cM_step t k (by rw [HTL.out]; exact hk)
    rw [HPV.out, HPB.out, ← HFB.out k hk] at h
    exact h)
   have H3 := Lib.hid (hb3.alloc (.cells (ints .u8 (List.replicate 64 0)).toArray 24))
   have H4 := Lib.hid (hb4.alloc (.cells (ints .u8 (List.replicate 64 0)).toArray 24))
   have HS := Lib.hid (Blk.made wr (ints .u8 (List.replicate 64 0)) 24)
   have HE := Lib.hid (Ext.trans hbel (Ext.alloc wr (.cells (ints .u8 (List.replicate 64 0)).toArray 24)))
   have hDA : A + 1 + 1 + 1 < wr.heap.size := hb4.lt
   clear hb1 hb2 hb3 hb4 hbel
   go_wp2_with fail
   change Code.wp _ _ _ _ (wr.alloc (.cells (ints .u8 (List.replicate 64 0)).toArray 24))
   generalize wr.alloc (.cells (ints .u8 (List.replicate 64 0)).toArray 24) = w3 at *
   generalize wr.heap.size = D at *
   go_loopw [9, 10] (fun cv iv wr => ∃ (k : Nat), k ≤ 64 ∧ iv = .int .i64 (k : Int) ∧ cv = .int .i64 (cM t k) ∧ Blk wr (A + 1 + 1) (ints .u8 (List.replicate 32 0)) 23 ∧ Blk wr (A + 1 + 1 + 1) (ints .i64 t) 83 ∧ Blk wr D ((fill 64 S k).map bval) 24 ∧ Ext w wr) (fun _ iv _ => 64 - (intOf iv).toNat)
   case atStart => exact ⟨0, by omega, rfl, by rw [HCZ.out], H3.out, H4.out, by rw [fill_start]; exact HS.out, HE.out⟩
   case round =>
    clear H3 H4 HS HE
    obtain ⟨k, hk, rfl, rfl, hb3, hb4, hb5, hbel⟩ := hrel
    have k0 : (0 : Int) ≤ (k : Int) := Int.natCast_nonneg _
    have hcb := HCR.out k hk
    by_cases hlk : k < 64
    ·have k1 : (k : Int) < 64 := by omega
     have hln : ((fill 64 S k).map bval).length = 64 := by rw [List.length_map, fill_length HFL.out (by omega)]
     have e5 := hb5.cell k
     rw [List.getElem?_eq_getElem (by omega)] at e5
     have f5 := hb5.free k
     generalize ((fill 64 S k).map bval)[k]'(by omega) = c5 at e5
     have htl := HTL.out
     have e4 := hb4.cell k
     rw [zau (by omega)] at e4
     have q1 := HTR.out k
     have hcs := HCS.out k hlk
     generalize t.getD k 0 = u at *
     have HND := Lib.hid hcs.2
     have HST := Lib.hid (zes (k := k) HFL.out hlk hcs.1)
     generalize cM t k = c at *
     have hm := and_i64_255 (c + u) (by omega) (by omega)
     have H3 := Lib.hid hb3
     have H4 := Lib.hid hb4
     have HS := Lib.hid hb5
     have HE := Lib.hid hbel
     clear hb3 hb4 hb5 hbel hln hcs htl
     go_wp2_with fail
     go_roundw
     case rel =>
      refine ⟨k + 1, by omega, by go_num, by rw [HND.out], H3.out.far (by simp <;> omega) _, H4.out.far (by simp <;> omega) _, ?_, Below.setCell HE.out (by simp <;> omega) _⟩
      rw [← HST.out]
      exact HS.out.set k _
     case measure => simp [intOf]; omega
    ·have hk64 : k = 64 := by omega
     subst hk64
     rw [fill_full HFL.out] at hb5
     have H3 := Lib.hid hb3
     have HS := Lib.hid hb5
     have HE := Lib.hid hbel
     clear hb3 hb4 hb5 hbel hcb
     go_wp2_with fail
     refine (HRD.out _ _ _ HS.out (HG.out.ext HE.out)).mono ?_
     rintro e w5 ⟨rfl, hb5⟩
     have H3 := Lib.hid (zaa H3.out hb5)
     have HE := Lib.hid (HE.out.trans hb5)
     have hi2 : Hid ((Tryz.prog.info? 23).map (·.size) = some ((nq ((leN l * leN m : Nat) : Int)).map bval).length) := Lib.hid (zae (zbu _))
     have hl2 : Hid (((nq ((leN l * leN m : Nat) : Int)).map bval).length = (ints .u8 (List.replicate 32 0)).length) := Lib.hid (by rw [List.length_map, zbu]; rfl)
     clear hb5 HRD
     go_wp2_with (refine zac rfl _ _ _ rfl (A + 1 + 1) _ rfl rfl _ _ H3.out hl2.out hi2.out (zaj _) ?_; intro w7 hb7 hg7)
     exact bodyPost_ret (v := .agg ((nq ((leN l * leN m : Nat) : Int)).map bval).toArray) (zax (by rfl) _ (A + 1 + 1) _ _ _ (by rfl) hb7 Tryz.underlying23 rfl hi2.out) rfl ⟨by rw [HRS.out], zad HE.out hg7 (by omega)⟩
end Go.Proofs.YtckggbkoabmjiaaGreatDoor
