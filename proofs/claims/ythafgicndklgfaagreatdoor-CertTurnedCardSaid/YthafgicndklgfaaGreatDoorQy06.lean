/- Lemmas. -/
import Derived.Test.YthafgicndklgfaaGreatDoorQy05
namespace Go.Proofs.YthafgicndklgfaaGreatDoor
set_option linter.unusedVariables false
set_option maxRecDepth 100000
set_option maxHeartbeats 32000000
set_option linter.unusedSimpArgs false
open Go.RowKit
def zero2 : List Value := [.int .u64 0, .int .u64 0]
def wideL (n : Nat) : List Value := [.int .u64 ((n / 18446744073709551616 : Nat) : Int), .int .u64 ((n % 18446744073709551616 : Nat) : Int)]
theorem wideL_one (n : Nat) : ∀ v ∈ wideL n, v.oneCell' = true := one2 _ _
theorem above_u (n u : Nat) (h : n / 2251799813685248 = u ∧ u < 18446744073709551616) (w : World) :
  Calls Tryz.prog 136 #[wideV n] w fun e w' => e = .returned (.int .u64 ((u : Nat) : Int)) ∧ Below w.heap.size w w' := by
 have := above_any n w
 rwa [h.1, q120 h.2] at this
theorem part_bounds {p q r s t : Nat} (hp : p ≤ 6165852519510107124332821030633491) (hq : q ≤ 6165852519510107124332821030633491) (hr : r ≤ 6165852519510107124332821030633491) (hs : s ≤ 6165852519510107124332821030633491) (ht : t ≤ 6165852519510107124332821030633491) :
  p + q < 340282366920938463463374607431768211456 ∧ p + q + r < 340282366920938463463374607431768211456 ∧ p + q + r + s < 340282366920938463463374607431768211456 ∧ p + q + r + s + t < 340282366920938463463374607431768211456 := by omega
theorem mul_19 {x y : Nat} (hx : x < 18014398509481984) (hy : y < 18014398509481984) : x * y ≤ 6165852519510107124332821030633491 := by
 have := zda hx hy
 omega
theorem low51 {n m : Nat} (h : n % 2251799813685248 = m) : bits .and .u64 ((n % 18446744073709551616 : Nat) : Int) 2251799813685247 = (m : Int) := by
 rw [mask51 _ (by omega)]
 omega
theorem wrap_eq {x : Int} {n : Nat} (h : x = (n : Int)) (hn : n < 18446744073709551616) : IntKind.u64.wrap x = (n : Int) := by rw [h, w64 hn]
theorem zcw (x y : L5) (hx : x.lt 18014398509481984) (hy : y.lt 18014398509481984) (w : World) :
  Calls Tryz.prog 113 #[x.v, y.v] w fun e w' => e = .returned (timesL x y).v ∧ Below w.heap.size w w' := by
 obtain ⟨t1, t2, t3, t4, t5⟩ := cols_lt hx hy
 have hrl := rowsL_lt t1 t2 t3 t4 t5
 obtain ⟨a, b, c, d, e⟩ := x
 obtain ⟨f, g, h, i, j⟩ := y
 obtain ⟨la, lb, lc, ld, le⟩ := hx
 obtain ⟨lf, lg, lh, li, lj⟩ := hy
 simp only at la lb lc ld le lf lg lh li lj
 have Ba : Hid (a < 18446744073709551616) := jh (by omega)
 have Bb : Hid (b < 18446744073709551616) := jh (by omega)
 have Bc : Hid (c < 18446744073709551616) := jh (by omega)
 have Bd : Hid (d < 18446744073709551616) := jh (by omega)
 have Be : Hid (e < 18446744073709551616) := jh (by omega)
 have Bf : Hid (f < 18446744073709551616) := jh (by omega)
 have Bg : Hid (g < 18446744073709551616) := jh (by omega)
 have Bh : Hid (h < 18446744073709551616) := jh (by omega)
 have Bi : Hid (i < 18446744073709551616) := jh (by omega)
 have Bj : Hid (j < 18446744073709551616) := jh (by omega)
 obtain ⟨z1, ez1⟩ : ∃ z, z = 19 * b := ⟨_, rfl⟩
 have HZ1 : Hid (IntKind.u64.wrap (((19 : Nat) : Int) * ((b : Nat) : Int)) = ((z1 : Nat) : Int)) := jh (wrap_eq (by omega) (by omega))
 have Bz1 : Hid (z1 < 18446744073709551616) := jh (by omega)
 obtain ⟨z2, ez2⟩ : ∃ z, z = 19 * c := ⟨_, rfl⟩
 have HZ2 : Hid (IntKind.u64.wrap (((19 : Nat) : Int) * ((c : Nat) : Int)) = ((z2 : Nat) : Int)) := jh (wrap_eq (by omega) (by omega))
 have Bz2 : Hid (z2 < 18446744073709551616) := jh (by omega)
 obtain ⟨z3, ez3⟩ : ∃ z, z = 19 * d := ⟨_, rfl⟩
 have HZ3 : Hid (IntKind.u64.wrap (((19 : Nat) : Int) * ((d : Nat) : Int)) = ((z3 : Nat) : Int)) := jh (wrap_eq (by omega) (by omega))
 have Bz3 : Hid (z3 < 18446744073709551616) := jh (by omega)
 obtain ⟨z4, ez4⟩ : ∃ z, z = 19 * e := ⟨_, rfl⟩
 have HZ4 : Hid (IntKind.u64.wrap (((19 : Nat) : Int) * ((e : Nat) : Int)) = ((z4 : Nat) : Int)) := jh (wrap_eq (by omega) (by omega))
 have Bz4 : Hid (z4 < 18446744073709551616) := jh (by omega)
 obtain ⟨c1, c2, c3, c4⟩ := part_bounds (mul_19 la lf) (show z1 * j ≤ _ by rw [ez1]; exact mul_lt54' lb lj) (show z2 * i ≤ _ by rw [ez2]; exact mul_lt54' lc li) (show z3 * h ≤ _ by rw [ez3]; exact mul_lt54' ld lh) (show z4 * g ≤ _ by rw [ez4]; exact mul_lt54' le lg)
 have C0_1 := jh c1
 have C0_2 := jh c2
 have C0_3 := jh c3
 have C0_4 := jh c4
 clear c1 c2 c3 c4
 obtain ⟨W0, ew0⟩ : ∃ W, W = a * f + z1 * j + z2 * i + z3 * h + z4 * g := ⟨_, rfl⟩
 have EW0 : Hid (wideL (a * f + z1 * j + z2 * i + z3 * h + z4 * g) = wideL W0) := jh (by rw [ew0])
 have ec0 : col0 ⟨a, b, c, d, e⟩ ⟨f, g, h, i, j⟩ = W0 := by rw [ew0, ez1, ez2, ez3, ez4]; rfl
 rw [ec0] at t1 hrl
 obtain ⟨c1, c2, c3, c4⟩ := part_bounds (mul_19 la lg) (mul_19 lb lf) (show z2 * j ≤ _ by rw [ez2]; exact mul_lt54' lc lj) (show z3 * i ≤ _ by rw [ez3]; exact mul_lt54' ld li) (show z4 * h ≤ _ by rw [ez4]; exact mul_lt54' le lh)
 have C1_1 := jh c1
 have C1_2 := jh c2
 have C1_3 := jh c3
 have C1_4 := jh c4
 clear c1 c2 c3 c4
 obtain ⟨W1, ew1⟩ : ∃ W, W = a * g + b * f + z2 * j + z3 * i + z4 * h := ⟨_, rfl⟩
 have EW1 : Hid (wideL (a * g + b * f + z2 * j + z3 * i + z4 * h) = wideL W1) := jh (by rw [ew1])
 have ec1 : col1 ⟨a, b, c, d, e⟩ ⟨f, g, h, i, j⟩ = W1 := by rw [ew1, ez2, ez3, ez4]; rfl
 rw [ec1] at t2 hrl
 obtain ⟨c1, c2, c3, c4⟩ := part_bounds (mul_19 la lh) (mul_19 lb lg) (mul_19 lc lf) (show z3 * j ≤ _ by rw [ez3]; exact mul_lt54' ld lj) (show z4 * i ≤ _ by rw [ez4]; exact mul_lt54' le li)
 have C2_1 := jh c1
 have C2_2 := jh c2
 have C2_3 := jh c3
 have C2_4 := jh c4
 clear c1 c2 c3 c4
 obtain ⟨W2, ew2⟩ : ∃ W, W = a * h + b * g + c * f + z3 * j + z4 * i := ⟨_, rfl⟩
 have EW2 : Hid (wideL (a * h + b * g + c * f + z3 * j + z4 * i) = wideL W2) := jh (by rw [ew2])
 have ec2 : col2 ⟨a, b, c, d, e⟩ ⟨f, g, h, i, j⟩ = W2 := by rw [ew2, ez3, ez4]; rfl
 rw [ec2] at t3 hrl
 obtain ⟨c1, c2, c3, c4⟩ := part_bounds (mul_19 la li) (mul_19 lb lh) (mul_19 lc lg) (mul_19 ld lf) (show z4 * j ≤ _ by rw [ez4]; exact mul_lt54' le lj)
 have C3_1 := jh c1
 have C3_2 := jh c2
 have C3_3 := jh c3
 have C3_4 := jh c4
 clear c1 c2 c3 c4
 obtain ⟨W3, ew3⟩ : ∃ W, W = a * i + b * h + c * g + d * f + z4 * j := ⟨_, rfl⟩
 have EW3 : Hid (wideL (a * i + b * h + c * g + d * f + z4 * j) = wideL W3) := jh (by rw [ew3])
 have ec3 : col3 ⟨a, b, c, d, e⟩ ⟨f, g, h, i, j⟩ = W3 := by rw [ew3, ez4]; rfl
 rw [ec3] at t4 hrl
 obtain ⟨c1, c2, c3, c4⟩ := part_bounds (mul_19 la lj) (mul_19 lb li) (mul_19 lc lh) (mul_19 ld lg) (mul_19 le lf)
 have C4_1 := jh c1
 have C4_2 := jh c2
 have C4_3 := jh c3
 have C4_4 := jh c4
 clear c1 c2 c3 c4
 obtain ⟨W4, ew4⟩ : ∃ W, W = a * j + b * i + c * h + d * g + e * f := ⟨_, rfl⟩
 have EW4 : Hid (wideL (a * j + b * i + c * h + d * g + e * f) = wideL W4) := jh (by rw [ew4])
 have ec4 : col4 ⟨a, b, c, d, e⟩ ⟨f, g, h, i, j⟩ = W4 := by rw [ew4]; rfl
 rw [ec4] at t5 hrl
 have et : timesL ⟨a, b, c, d, e⟩ ⟨f, g, h, i, j⟩ = carriedL (rowsL W0 W1 W2 W3 W4) := by unfold timesL; rw [ec0, ec1, ec2, ec3, ec4]
 obtain ⟨u0, eu0⟩ : ∃ u, W0 / 2251799813685248 = u := ⟨_, rfl⟩
 obtain ⟨m0, em0⟩ : ∃ u, W0 % 2251799813685248 = u := ⟨_, rfl⟩
 have bu0 : u0 < 18446744073709551616 := by omega
 have EU0 := jh (And.intro eu0 bu0)
 have HM0 : Hid (bits .and .u64 ((W0 % 18446744073709551616 : Nat) : Int) ((2251799813685247 : Nat) : Int) = ((m0 : Nat) : Int)) := jh (low51 em0)
 obtain ⟨u1, eu1⟩ : ∃ u, W1 / 2251799813685248 = u := ⟨_, rfl⟩
 obtain ⟨m1, em1⟩ : ∃ u, W1 % 2251799813685248 = u := ⟨_, rfl⟩
 have bu1 : u1 < 18446744073709551616 := by omega
 have EU1 := jh (And.intro eu1 bu1)
 have HM1 : Hid (bits .and .u64 ((W1 % 18446744073709551616 : Nat) : Int) ((2251799813685247 : Nat) : Int) = ((m1 : Nat) : Int)) := jh (low51 em1)
 obtain ⟨u2, eu2⟩ : ∃ u, W2 / 2251799813685248 = u := ⟨_, rfl⟩
 obtain ⟨m2, em2⟩ : ∃ u, W2 % 2251799813685248 = u := ⟨_, rfl⟩
 have bu2 : u2 < 18446744073709551616 := by omega
 have EU2 := jh (And.intro eu2 bu2)
 have HM2 : Hid (bits .and .u64 ((W2 % 18446744073709551616 : Nat) : Int) ((2251799813685247 : Nat) : Int) = ((m2 : Nat) : Int)) := jh (low51 em2)
 obtain ⟨u3, eu3⟩ : ∃ u, W3 / 2251799813685248 = u := ⟨_, rfl⟩
 obtain ⟨m3, em3⟩ : ∃ u, W3 % 2251799813685248 = u := ⟨_, rfl⟩
 have bu3 : u3 < 18446744073709551616 := by omega
 have EU3 := jh (And.intro eu3 bu3)
 have HM3 : Hid (bits .and .u64 ((W3 % 18446744073709551616 : Nat) : Int) ((2251799813685247 : Nat) : Int) = ((m3 : Nat) : Int)) := jh (low51 em3)
 obtain ⟨u4, eu4⟩ : ∃ u, W4 / 2251799813685248 = u := ⟨_, rfl⟩
 obtain ⟨m4, em4⟩ : ∃ u, W4 % 2251799813685248 = u := ⟨_, rfl⟩
 have bu4 : u4 < 18446744073709551616 := by omega
 have EU4 := jh (And.intro eu4 bu4)
 have HM4 : Hid (bits .and .u64 ((W4 % 18446744073709551616 : Nat) : Int) ((2251799813685247 : Nat) : Int) = ((m4 : Nat) : Int)) := jh (low51 em4)
 obtain ⟨u5, eu5⟩ : ∃ u, u = 19 * u4 := ⟨_, rfl⟩
 obtain ⟨r0, er0⟩ : ∃ r, r = m0 + u5 := ⟨_, rfl⟩
 obtain ⟨r1, er1⟩ : ∃ r, r = m1 + u0 := ⟨_, rfl⟩
 obtain ⟨r2, er2⟩ : ∃ r, r = m2 + u1 := ⟨_, rfl⟩
 obtain ⟨r3, er3⟩ : ∃ r, r = m3 + u2 := ⟨_, rfl⟩
 obtain ⟨r4, er4⟩ : ∃ r, r = m4 + u3 := ⟨_, rfl⟩
 have hrl2 : rowsL W0 W1 W2 W3 W4 = ⟨r0, r1, r2, r3, r4⟩ := by unfold rowsL; rw [em0, em1, em2, em3, em4, eu0, eu1, eu2, eu3, eu4, er0, er1, er2, er3, er4, eu5]
 rw [hrl2] at hrl et
 have BR := jh hrl
 obtain ⟨g0, g1, g2, g3, g4⟩ := hrl
 simp only at g0 g1 g2 g3 g4
 have HU5 : Hid (IntKind.u64.wrap (((19 : Nat) : Int) * ((u4 : Nat) : Int)) = ((u5 : Nat) : Int)) := jh (wrap_eq (by omega) (by omega))
 have HR0 : Hid (IntKind.u64.wrap (((m0 : Nat) : Int) + ((u5 : Nat) : Int)) = ((r0 : Nat) : Int)) := jh (wrap_eq (by omega) g0)
 have HR1 : Hid (IntKind.u64.wrap (((m1 : Nat) : Int) + ((u0 : Nat) : Int)) = ((r1 : Nat) : Int)) := jh (wrap_eq (by omega) g1)
 have HR2 : Hid (IntKind.u64.wrap (((m2 : Nat) : Int) + ((u1 : Nat) : Int)) = ((r2 : Nat) : Int)) := jh (wrap_eq (by omega) g2)
 have HR3 : Hid (IntKind.u64.wrap (((m3 : Nat) : Int) + ((u2 : Nat) : Int)) = ((r3 : Nat) : Int)) := jh (wrap_eq (by omega) g3)
 have HR4 : Hid (IntKind.u64.wrap (((m4 : Nat) : Int) + ((u3 : Nat) : Int)) = ((r4 : Nat) : Int)) := jh (wrap_eq (by omega) g4)
 have ER := jh et.symm
 have HB := jh (boxes3 w (L5.vs ⟨a, b, c, d, e⟩) (L5.vs ⟨f, g, h, i, j⟩) zero5 147 147 147)
 clear t1 t2 t3 t4 t5 la lb lc ld le lf lg lh li lj ez1 ez2 ez3 ez4 ew0 ec0 eu0 em0 bu0 ew1 ec1 eu1 em1 bu1 ew2 ec2 eu2 em2 bu2 ew3 ec3 eu3 em3 bu3 ew4 ec4 eu4 em4 bu4 eu5 er0 er1 er2 er3 er4 hrl2 et g0 g1 g2 g3 g4
 unfold L5.v
 go_enter Tryz.func113, Tryz.ntmps113
 go_wp2_with fail
 change Code.wp _ _ _ _ (((w.alloc (.cells (L5.vs ⟨a, b, c, d, e⟩).toArray 147)).alloc (.cells (L5.vs ⟨f, g, h, i, j⟩).toArray 147)).alloc (.cells zero5.toArray 147))
 generalize ((w.alloc (.cells (L5.vs ⟨a, b, c, d, e⟩).toArray 147)).alloc (.cells (L5.vs ⟨f, g, h, i, j⟩).toArray 147)).alloc (.cells zero5.toArray 147) = w0 at *
 obtain ⟨h1, h2, h3, h4⟩ := HB.out
 obtain ⟨A, hA⟩ : ∃ A, A = w.heap.size := ⟨_, rfl⟩
 rw [← hA] at h1 h2 h3 ⊢
 have hA2 : w.heap.size ≤ A := by omega
 have H1 := jh h1
 have H2 := jh h2
 have H3 := jh h3
 have HE : Hid (Ext w w0) := jh h4
 clear h1 h2 h3 h4 HB hA
 refine swf 16 0 16 ?_
 refine sdi A 5 1 q104 (by omega) (q106) ?_
 simp only [nm]
 refine sdl A 1 (.int .u64 ((b : Nat) : Int)) (fun w hw => (zad H1.out hw).cell 1) (q105) ?_
 simp only [nm]
 refine det_mul _ _ _ _ _ _ _ (z1 : Nat) (by rfl) rfl rfl rfl HZ1.out ?_
 simp only [nm]
 refine sdi A 5 2 q104 (by omega) (q106) ?_
 simp only [nm]
 refine sdl A 2 (.int .u64 ((c : Nat) : Int)) (fun w hw => (zad H1.out hw).cell 2) (q105) ?_
 simp only [nm]
 refine det_mul _ _ _ _ _ _ _ (z2 : Nat) (by rfl) rfl rfl rfl HZ2.out ?_
 simp only [nm]
 refine sdi A 5 3 q104 (by omega) (q106) ?_
 simp only [nm]
 refine sdl A 3 (.int .u64 ((d : Nat) : Int)) (fun w hw => (zad H1.out hw).cell 3) (q105) ?_
 simp only [nm]
 refine det_mul _ _ _ _ _ _ _ (z3 : Nat) (by rfl) rfl rfl rfl HZ3.out ?_
 simp only [nm]
 refine sdi A 5 4 q104 (by omega) (q106) ?_
 simp only [nm]
 refine sdl A 4 (.int .u64 ((e : Nat) : Int)) (fun w hw => (zad H1.out hw).cell 4) (q105) ?_
 simp only [nm]
 refine det_mul _ _ _ _ _ _ _ (z4 : Nat) (by rfl) rfl rfl rfl HZ4.out ?_
 simp only [nm]
 refine zbi _ (.int .u64 ((z1 : Nat) : Int)) (by rfl) rfl rfl ?_
 simp only [nm]
 refine zbi _ (.int .u64 ((z2 : Nat) : Int)) (by rfl) rfl rfl ?_
 simp only [nm]
 refine zbi _ (.int .u64 ((z3 : Nat) : Int)) (by rfl) rfl rfl ?_
 simp only [nm]
 refine zbi _ (.int .u64 ((z4 : Nat) : Int)) (by rfl) rfl rfl ?_
 simp only [nm]
 refine zao (end_none (by kernel_rfl) (fun w1 hw1 => ?_))
 have H1 := xb H1 hw1
 have H2 := xb H2 hw1
 have H3 := xb H3 hw1
 have HE := xt HE hw1
 clear hw1
 go_wp2_with fail
 refine swf 21 2 22 ?_
 refine sdi A 5 0 q104 (by omega) (q106) ?_
 simp only [nm]
 refine sdl A 0 (.int .u64 ((a : Nat) : Int)) (fun w hw => (zad H1.out hw).cell 0) (q105) ?_
 simp only [nm]
 refine sdi (A + 1) 5 0 q104 (by omega) (q106) ?_
 simp only [nm]
 refine sdl (A + 1) 0 (.int .u64 ((f : Nat) : Int)) (fun w hw => (zad H2.out hw).cell 0) (q105) ?_
 simp only [nm]
 refine sdc [.int .u64 ((a : Nat) : Int), .int .u64 ((f : Nat) : Int)] (wideV (a * f)) Tryz.call134 (fun w hw => product_any a f Ba.out Bf.out w) ?_
 simp only [nm]
 refine zas _ (.int .u64 ((z1 : Nat) : Int)) (by rfl) rfl rfl ?_
 simp only [nm]
 refine sdi (A + 1) 5 4 q104 (by omega) (q106) ?_
 simp only [nm]
 refine sdl (A + 1) 4 (.int .u64 ((j : Nat) : Int)) (fun w hw => (zad H2.out hw).cell 4) (q105) ?_
 simp only [nm]
 refine sdc [wideV (a * f), .int .u64 ((z1 : Nat) : Int), .int .u64 ((j : Nat) : Int)] (wideV (a * f + z1 * j)) q124 (fun w hw => zck (a * f) z1 j Bz1.out Bj.out C0_1.out w) ?_
 simp only [nm]
 refine zas _ (.int .u64 ((z2 : Nat) : Int)) (by rfl) rfl rfl ?_
 simp only [nm]
 refine sdi (A + 1) 5 3 q104 (by omega) (q106) ?_
 simp only [nm]
 refine sdl (A + 1) 3 (.int .u64 ((i : Nat) : Int)) (fun w hw => (zad H2.out hw).cell 3) (q105) ?_
 simp only [nm]
 refine sdc [wideV (a * f + z1 * j), .int .u64 ((z2 : Nat) : Int), .int .u64 ((i : Nat) : Int)] (wideV (a * f + z1 * j + z2 * i)) q124 (fun w hw => zck (a * f + z1 * j) z2 i Bz2.out Bi.out C0_2.out w) ?_
 simp only [nm]
 refine zas _ (.int .u64 ((z3 : Nat) : Int)) (by rfl) rfl rfl ?_
 simp only [nm]
 refine sdi (A + 1) 5 2 q104 (by omega) (q106) ?_
 simp only [nm]
 refine sdl (A + 1) 2 (.int .u64 ((h : Nat) : Int)) (fun w hw => (zad H2.out hw).cell 2) (q105) ?_
 simp only [nm]
 refine sdc [wideV (a * f + z1 * j + z2 * i), .int .u64 ((z3 : Nat) : Int), .int .u64 ((h : Nat) : Int)] (wideV (a * f + z1 * j + z2 * i + z3 * h)) q124 (fun w hw => zck (a * f + z1 * j + z2 * i) z3 h Bz3.out Bh.out C0_3.out w) ?_
 simp only [nm]
 refine zas _ (.int .u64 ((z4 : Nat) : Int)) (by rfl) rfl rfl ?_
 simp only [nm]
 refine sdi (A + 1) 5 1 q104 (by omega) (q106) ?_
 simp only [nm]
 refine sdl (A + 1) 1 (.int .u64 ((g : Nat) : Int)) (fun w hw => (zad H2.out hw).cell 1) (q105) ?_
 simp only [nm]
 refine sdc [wideV (a * f + z1 * j + z2 * i + z3 * h), .int .u64 ((z4 : Nat) : Int), .int .u64 ((g : Nat) : Int)] (wideV (a * f + z1 * j + z2 * i + z3 * h + z4 * g)) q124 (fun w hw => zck (a * f + z1 * j + z2 * i + z3 * h) z4 g Bz4.out Bg.out C0_4.out w) ?_
 simp only [nm]
 refine zao (zep (k := 21) _ 9 (.tmp 46) zero2 (wideL (a * f + z1 * j + z2 * i + z3 * h + z4 * g)) rfl rfl (by kernel_rfl) (by kernel_rfl) (by kernel_rfl) (by kernel_rfl) (by kernel_rfl) rfl rfl rfl rfl Tryz.zeroValue174 rfl (by simp) (fun p => rfl) rfl Tryz.arr174 (wideL_one _) (fun p0 w2 hp0 hb0 he0 => ?_))
 simp only [nm]
 rw [EW0.out] at hb0
 have HW0 := jh hb0
 have H1 := xb H1 he0
 have H2 := xb H2 he0
 have H3 := xb H3 he0
 have HE := xt HE he0
 clear hb0 he0 hp0
 go_wp2_with fail
 refine swf 22 2 23 ?_
 refine sdi A 5 0 q104 (by omega) (q106) ?_
 simp only [nm]
 refine sdl A 0 (.int .u64 ((a : Nat) : Int)) (fun w hw => (zad H1.out hw).cell 0) (q105) ?_
 simp only [nm]
 refine sdi (A + 1) 5 1 q104 (by omega) (q106) ?_
 simp only [nm]
 refine sdl (A + 1) 1 (.int .u64 ((g : Nat) : Int)) (fun w hw => (zad H2.out hw).cell 1) (q105) ?_
 simp only [nm]
 refine sdc [.int .u64 ((a : Nat) : Int), .int .u64 ((g : Nat) : Int)] (wideV (a * g)) Tryz.call134 (fun w hw => product_any a g Ba.out Bg.out w) ?_
 simp only [nm]
 refine sdi A 5 1 q104 (by omega) (q106) ?_
 simp only [nm]
 refine sdl A 1 (.int .u64 ((b : Nat) : Int)) (fun w hw => (zad H1.out hw).cell 1) (q105) ?_
 simp only [nm]
 refine sdi (A + 1) 5 0 q104 (by omega) (q106) ?_
 simp only [nm]
 refine sdl (A + 1) 0 (.int .u64 ((f : Nat) : Int)) (fun w hw => (zad H2.out hw).cell 0) (q105) ?_
 simp only [nm]
 refine sdc [wideV (a * g), .int .u64 ((b : Nat) : Int), .int .u64 ((f : Nat) : Int)] (wideV (a * g + b * f)) q124 (fun w hw => zck (a * g) b f Bb.out Bf.out C1_1.out w) ?_
 simp only [nm]
 refine zas _ (.int .u64 ((z2 : Nat) : Int)) (by rfl) rfl rfl ?_
 simp only [nm]
 refine sdi (A + 1) 5 4 q104 (by omega) (q106) ?_
 simp only [nm]
 refine sdl (A + 1) 4 (.int .u64 ((j : Nat) : Int)) (fun w hw => (zad H2.out hw).cell 4) (q105) ?_
 simp only [nm]
 refine sdc [wideV (a * g + b * f), .int .u64 ((z2 : Nat) : Int), .int .u64 ((j : Nat) : Int)] (wideV (a * g + b * f + z2 * j)) q124 (fun w hw => zck (a * g + b * f) z2 j Bz2.out Bj.out C1_2.out w) ?_
 simp only [nm]
 refine zas _ (.int .u64 ((z3 : Nat) : Int)) (by rfl) rfl rfl ?_
 simp only [nm]
 refine sdi (A + 1) 5 3 q104 (by omega) (q106) ?_
 simp only [nm]
 refine sdl (A + 1) 3 (.int .u64 ((i : Nat) : Int)) (fun w hw => (zad H2.out hw).cell 3) (q105) ?_
 simp only [nm]
 refine sdc [wideV (a * g + b * f + z2 * j), .int .u64 ((z3 : Nat) : Int), .int .u64 ((i : Nat) : Int)] (wideV (a * g + b * f + z2 * j + z3 * i)) q124 (fun w hw => zck (a * g + b * f + z2 * j) z3 i Bz3.out Bi.out C1_3.out w) ?_
 simp only [nm]
 refine zas _ (.int .u64 ((z4 : Nat) : Int)) (by rfl) rfl rfl ?_
 simp only [nm]
 refine sdi (A + 1) 5 2 q104 (by omega) (q106) ?_
 simp only [nm]
 refine sdl (A + 1) 2 (.int .u64 ((h : Nat) : Int)) (fun w hw => (zad H2.out hw).cell 2) (q105) ?_
 simp only [nm]
 refine sdc [wideV (a * g + b * f + z2 * j + z3 * i), .int .u64 ((z4 : Nat) : Int), .int .u64 ((h : Nat) : Int)] (wideV (a * g + b * f + z2 * j + z3 * i + z4 * h)) q124 (fun w hw => zck (a * g + b * f + z2 * j + z3 * i) z4 h Bz4.out Bh.out C1_4.out w) ?_
 simp only [nm]
 refine zao (zep (k := 22) _ 10 (.tmp 68) zero2 (wideL (a * g + b * f + z2 * j + z3 * i + z4 * h)) rfl rfl (by kernel_rfl) (by kernel_rfl) (by kernel_rfl) (by kernel_rfl) (by kernel_rfl) rfl rfl rfl rfl Tryz.zeroValue174 rfl (by simp) (fun p => rfl) rfl Tryz.arr174 (wideL_one _) (fun p1 w3 hp1 hb1 he1 => ?_))
 simp only [nm]
 rw [EW1.out] at hb1
 have HW0 := xb HW0 he1
 have HW1 := jh hb1
 have H1 := xb H1 he1
 have H2 := xb H2 he1
 have H3 := xb H3 he1
 have HE := xt HE he1
 clear hb1 he1 hp1
 go_wp2_with fail
 refine swf 23 2 24 ?_
 refine sdi A 5 0 q104 (by omega) (q106) ?_
 simp only [nm]
 refine sdl A 0 (.int .u64 ((a : Nat) : Int)) (fun w hw => (zad H1.out hw).cell 0) (q105) ?_
 simp only [nm]
 refine sdi (A + 1) 5 2 q104 (by omega) (q106) ?_
 simp only [nm]
 refine sdl (A + 1) 2 (.int .u64 ((h : Nat) : Int)) (fun w hw => (zad H2.out hw).cell 2) (q105) ?_
 simp only [nm]
 refine sdc [.int .u64 ((a : Nat) : Int), .int .u64 ((h : Nat) : Int)] (wideV (a * h)) Tryz.call134 (fun w hw => product_any a h Ba.out Bh.out w) ?_
 simp only [nm]
 refine sdi A 5 1 q104 (by omega) (q106) ?_
 simp only [nm]
 refine sdl A 1 (.int .u64 ((b : Nat) : Int)) (fun w hw => (zad H1.out hw).cell 1) (q105) ?_
 simp only [nm]
 refine sdi (A + 1) 5 1 q104 (by omega) (q106) ?_
 simp only [nm]
 refine sdl (A + 1) 1 (.int .u64 ((g : Nat) : Int)) (fun w hw => (zad H2.out hw).cell 1) (q105) ?_
 simp only [nm]
 refine sdc [wideV (a * h), .int .u64 ((b : Nat) : Int), .int .u64 ((g : Nat) : Int)] (wideV (a * h + b * g)) q124 (fun w hw => zck (a * h) b g Bb.out Bg.out C2_1.out w) ?_
 simp only [nm]
 refine sdi A 5 2 q104 (by omega) (q106) ?_
 simp only [nm]
 refine sdl A 2 (.int .u64 ((c : Nat) : Int)) (fun w hw => (zad H1.out hw).cell 2) (q105) ?_
 simp only [nm]
 refine sdi (A + 1) 5 0 q104 (by omega) (q106) ?_
 simp only [nm]
 refine sdl (A + 1) 0 (.int .u64 ((f : Nat) : Int)) (fun w hw => (zad H2.out hw).cell 0) (q105) ?_
 simp only [nm]
 refine sdc [wideV (a * h + b * g), .int .u64 ((c : Nat) : Int), .int .u64 ((f : Nat) : Int)] (wideV (a * h + b * g + c * f)) q124 (fun w hw => zck (a * h + b * g) c f Bc.out Bf.out C2_2.out w) ?_
 simp only [nm]
 refine zas _ (.int .u64 ((z3 : Nat) : Int)) (by rfl) rfl rfl ?_
 simp only [nm]
 refine sdi (A + 1) 5 4 q104 (by omega) (q106) ?_
 simp only [nm]
 refine sdl (A + 1) 4 (.int .u64 ((j : Nat) : Int)) (fun w hw => (zad H2.out hw).cell 4) (q105) ?_
 simp only [nm]
 refine sdc [wideV (a * h + b * g + c * f), .int .u64 ((z3 : Nat) : Int), .int .u64 ((j : Nat) : Int)] (wideV (a * h + b * g + c * f + z3 * j)) q124 (fun w hw => zck (a * h + b * g + c * f) z3 j Bz3.out Bj.out C2_3.out w) ?_
 simp only [nm]
 refine zas _ (.int .u64 ((z4 : Nat) : Int)) (by rfl) rfl rfl ?_
 simp only [nm]
 refine sdi (A + 1) 5 3 q104 (by omega) (q106) ?_
 simp only [nm]
 refine sdl (A + 1) 3 (.int .u64 ((i : Nat) : Int)) (fun w hw => (zad H2.out hw).cell 3) (q105) ?_
 simp only [nm]
 refine sdc [wideV (a * h + b * g + c * f + z3 * j), .int .u64 ((z4 : Nat) : Int), .int .u64 ((i : Nat) : Int)] (wideV (a * h + b * g + c * f + z3 * j + z4 * i)) q124 (fun w hw => zck (a * h + b * g + c * f + z3 * j) z4 i Bz4.out Bi.out C2_4.out w) ?_
 simp only [nm]
 refine zao (zep (k := 23) _ 11 (.tmp 91) zero2 (wideL (a * h + b * g + c * f + z3 * j + z4 * i)) rfl rfl (by kernel_rfl) (by kernel_rfl) (by kernel_rfl) (by kernel_rfl) (by kernel_rfl) rfl rfl rfl rfl Tryz.zeroValue174 rfl (by simp) (fun p => rfl) rfl Tryz.arr174 (wideL_one _) (fun p2 w4 hp2 hb2 he2 => ?_))
 simp only [nm]
 rw [EW2.out] at hb2
 have HW0 := xb HW0 he2
 have HW1 := xb HW1 he2
 have HW2 := jh hb2
 have H1 := xb H1 he2
 have H2 := xb H2 he2
 have H3 := xb H3 he2
 have HE := xt HE he2
 clear hb2 he2 hp2
 go_wp2_with fail
 refine swf 24 2 25 ?_
 refine sdi A 5 0 q104 (by omega) (q106) ?_
 simp only [nm]
 refine sdl A 0 (.int .u64 ((a : Nat) : Int)) (fun w hw => (zad H1.out hw).cell 0) (q105) ?_
 simp only [nm]
 refine sdi (A + 1) 5 3 q104 (by omega) (q106) ?_
 simp only [nm]
 refine sdl (A + 1) 3 (.int .u64 ((i : Nat) : Int)) (fun w hw => (zad H2.out hw).cell 3) (q105) ?_
 simp only [nm]
 refine sdc [.int .u64 ((a : Nat) : Int), .int .u64 ((i : Nat) : Int)] (wideV (a * i)) Tryz.call134 (fun w hw => product_any a i Ba.out Bi.out w) ?_
 simp only [nm]
 refine sdi A 5 1 q104 (by omega) (q106) ?_
 simp only [nm]
 refine sdl A 1 (.int .u64 ((b : Nat) : Int)) (fun w hw => (zad H1.out hw).cell 1) (q105) ?_
 simp only [nm]
 refine sdi (A + 1) 5 2 q104 (by omega) (q106) ?_
 simp only [nm]
 refine sdl (A + 1) 2 (.int .u64 ((h : Nat) : Int)) (fun w hw => (zad H2.out hw).cell 2) (q105) ?_
 simp only [nm]
 refine sdc [wideV (a * i), .int .u64 ((b : Nat) : Int), .int .u64 ((h : Nat) : Int)] (wideV (a * i + b * h)) q124 (fun w hw => zck (a * i) b h Bb.out Bh.out C3_1.out w) ?_
 simp only [nm]
 refine sdi A 5 2 q104 (by omega) (q106) ?_
 simp only [nm]
 refine sdl A 2 (.int .u64 ((c : Nat) : Int)) (fun w hw => (zad H1.out hw).cell 2) (q105) ?_
 simp only [nm]
 refine sdi (A + 1) 5 1 q104 (by omega) (q106) ?_
 simp only [nm]
 refine sdl (A + 1) 1 (.int .u64 ((g : Nat) : Int)) (fun w hw => (zad H2.out hw).cell 1) (q105) ?_
 simp only [nm]
 refine sdc [wideV (a * i + b * h), .int .u64 ((c : Nat) : Int), .int .u64 ((g : Nat) : Int)] (wideV (a * i + b * h + c * g)) q124 (fun w hw => zck (a * i + b * h) c g Bc.out Bg.out C3_2.out w) ?_
 simp only [nm]
 refine sdi A 5 3 q104 (by omega) (q106) ?_
 simp only [nm]
 refine sdl A 3 (.int .u64 ((d : Nat) : Int)) (fun w hw => (zad H1.out hw).cell 3) (q105) ?_
 simp only [nm]
 refine sdi (A + 1) 5 0 q104 (by omega) (q106) ?_
 simp only [nm]
 refine sdl (A + 1) 0 (.int .u64 ((f : Nat) : Int)) (fun w hw => (zad H2.out hw).cell 0) (q105) ?_
 simp only [nm]
 refine sdc [wideV (a * i + b * h + c * g), .int .u64 ((d : Nat) : Int), .int .u64 ((f : Nat) : Int)] (wideV (a * i + b * h + c * g + d * f)) q124 (fun w hw => zck (a * i + b * h + c * g) d f Bd.out Bf.out C3_3.out w) ?_
 simp only [nm]
 refine zas _ (.int .u64 ((z4 : Nat) : Int)) (by rfl) rfl rfl ?_
 simp only [nm]
 refine sdi (A + 1) 5 4 q104 (by omega) (q106) ?_
 simp only [nm]
 refine sdl (A + 1) 4 (.int .u64 ((j : Nat) : Int)) (fun w hw => (zad H2.out hw).cell 4) (q105) ?_
 simp only [nm]
 refine sdc [wideV (a * i + b * h + c * g + d * f), .int .u64 ((z4 : Nat) : Int), .int .u64 ((j : Nat) : Int)] (wideV (a * i + b * h + c * g + d * f + z4 * j)) q124 (fun w hw => zck (a * i + b * h + c * g + d * f) z4 j Bz4.out Bj.out C3_4.out w) ?_
 simp only [nm]
 refine zao (zep (k := 24) _ 12 (.tmp 115) zero2 (wideL (a * i + b * h + c * g + d * f + z4 * j)) rfl rfl (by kernel_rfl) (by kernel_rfl) (by kernel_rfl) (by kernel_rfl) (by kernel_rfl) rfl rfl rfl rfl Tryz.zeroValue174 rfl (by simp) (fun p => rfl) rfl Tryz.arr174 (wideL_one _) (fun p3 w5 hp3 hb3 he3 => ?_))
 simp only [nm]
 rw [EW3.out] at hb3
 have HW0 := xb HW0 he3
 have HW1 := xb HW1 he3
 have HW2 := xb HW2 he3
 have HW3 := jh hb3
 have H1 := xb H1 he3
 have H2 := xb H2 he3
 have H3 := xb H3 he3
 have HE := xt HE he3
 clear hb3 he3 hp3
 go_wp2_with fail
 refine swf 25 2 26 ?_
 refine sdi A 5 0 q104 (by omega) (q106) ?_
 simp only [nm]
 refine sdl A 0 (.int .u64 ((a : Nat) : Int)) (fun w hw => (zad H1.out hw).cell 0) (q105) ?_
 simp only [nm]
 refine sdi (A + 1) 5 4 q104 (by omega) (q106) ?_
 simp only [nm]
 refine sdl (A + 1) 4 (.int .u64 ((j : Nat) : Int)) (fun w hw => (zad H2.out hw).cell 4) (q105) ?_
 simp only [nm]
 refine sdc [.int .u64 ((a : Nat) : Int), .int .u64 ((j : Nat) : Int)] (wideV (a * j)) Tryz.call134 (fun w hw => product_any a j Ba.out Bj.out w) ?_
 simp only [nm]
 refine sdi A 5 1 q104 (by omega) (q106) ?_
 simp only [nm]
 refine sdl A 1 (.int .u64 ((b : Nat) : Int)) (fun w hw => (zad H1.out hw).cell 1) (q105) ?_
 simp only [nm]
 refine sdi (A + 1) 5 3 q104 (by omega) (q106) ?_
 simp only [nm]
 refine sdl (A + 1) 3 (.int .u64 ((i : Nat) : Int)) (fun w hw => (zad H2.out hw).cell 3) (q105) ?_
 simp only [nm]
 refine sdc [wideV (a * j), .int .u64 ((b : Nat) : Int), .int .u64 ((i : Nat) : Int)] (wideV (a * j + b * i)) q124 (fun w hw => zck (a * j) b i Bb.out Bi.out C4_1.out w) ?_
 simp only [nm]
 refine sdi A 5 2 q104 (by omega) (q106) ?_
 simp only [nm]
 refine sdl A 2 (.int .u64 ((c : Nat) : Int)) (fun w hw => (zad H1.out hw).cell 2) (q105) ?_
 simp only [nm]
 refine sdi (A + 1) 5 2 q104 (by omega) (q106) ?_
 simp only [nm]
 refine sdl (A + 1) 2 (.int .u64 ((h : Nat) : Int)) (fun w hw => (zad H2.out hw).cell 2) (q105) ?_
 simp only [nm]
 refine sdc [wideV (a * j + b * i), .int .u64 ((c : Nat) : Int), .int .u64 ((h : Nat) : Int)] (wideV (a * j + b * i + c * h)) q124 (fun w hw => zck (a * j + b * i) c h Bc.out Bh.out C4_2.out w) ?_
 simp only [nm]
 refine sdi A 5 3 q104 (by omega) (q106) ?_
 simp only [nm]
 refine sdl A 3 (.int .u64 ((d : Nat) : Int)) (fun w hw => (zad H1.out hw).cell 3) (q105) ?_
 simp only [nm]
 refine sdi (A + 1) 5 1 q104 (by omega) (q106) ?_
 simp only [nm]
 refine sdl (A + 1) 1 (.int .u64 ((g : Nat) : Int)) (fun w hw => (zad H2.out hw).cell 1) (q105) ?_
 simp only [nm]
 refine sdc [wideV (a * j + b * i + c * h), .int .u64 ((d : Nat) : Int), .int .u64 ((g : Nat) : Int)] (wideV (a * j + b * i + c * h + d * g)) q124 (fun w hw => zck (a * j + b * i + c * h) d g Bd.out Bg.out C4_3.out w) ?_
 simp only [nm]
 refine sdi A 5 4 q104 (by omega) (q106) ?_
 simp only [nm]
 refine sdl A 4 (.int .u64 ((e : Nat) : Int)) (fun w hw => (zad H1.out hw).cell 4) (q105) ?_
 simp only [nm]
 refine sdi (A + 1) 5 0 q104 (by omega) (q106) ?_
 simp only [nm]
 refine sdl (A + 1) 0 (.int .u64 ((f : Nat) : Int)) (fun w hw => (zad H2.out hw).cell 0) (q105) ?_
 simp only [nm]
 refine sdc [wideV (a * j + b * i + c * h + d * g), .int .u64 ((e : Nat) : Int), .int .u64 ((f : Nat) : Int)] (wideV (a * j + b * i + c * h + d * g + e * f)) q124 (fun w hw => zck (a * j + b * i + c * h + d * g) e f Be.out Bf.out C4_4.out w) ?_
 simp only [nm]
 refine zao (zep (k := 25) _ 13 (.tmp 140) zero2 (wideL (a * j + b * i + c * h + d * g + e * f)) rfl rfl (by kernel_rfl) (by kernel_rfl) (by kernel_rfl) (by kernel_rfl) (by kernel_rfl) rfl rfl rfl rfl Tryz.zeroValue174 rfl (by simp) (fun p => rfl) rfl Tryz.arr174 (wideL_one _) (fun p4 w6 hp4 hb4 he4 => ?_))
 simp only [nm]
 rw [EW4.out] at hb4
 have HW0 := xb HW0 he4
 have HW1 := xb HW1 he4
 have HW2 := xb HW2 he4
 have HW3 := xb HW3 he4
 have HW4 := jh hb4
 have H1 := xb H1 he4
 have H2 := xb H2 he4
 have H3 := xb H3 he4
 have HE := xt HE he4
 clear hb4 he4 hp4
 go_wp2_with fail
 refine swf 33 1 33 ?_
 refine det_field _ _ p0 1 1 (by rfl) rfl rfl (fun w => by go_simp) ?_
 simp only [nm]
 refine sdl p0 1 (.int .u64 ((W0 % 18446744073709551616 : Nat) : Int)) (fun w hw => (zad HW0.out hw).cell 1) (q105) ?_
 simp only [nm]
 refine zfl _ _ _ _ _ _ _ (m0 : Nat) (by rfl) rfl rfl rfl HM0.out ?_
 simp only [nm]
 refine zax _ _ p4 (wideL W4) _ (by rfl) rfl rfl (fun w hw => zaq HW4.out hw) q175 rfl Tryz.arr174 ?_
 simp only [nm]
 refine sdc [wideV W4] (.int .u64 ((u4 : Nat) : Int)) Tryz.call136 (fun w hw => above_u W4 u4 EU4.out w) ?_
 simp only [nm]
 refine det_mul _ _ _ _ _ _ _ (u5 : Nat) (by rfl) rfl rfl rfl HU5.out ?_
 simp only [nm]
 refine zfm _ _ _ _ _ _ _ (r0 : Nat) (by rfl) rfl rfl rfl HR0.out ?_
 simp only [nm]
 refine det_field _ _ p1 1 1 (by rfl) rfl rfl (fun w => by go_simp) ?_
 simp only [nm]
 refine sdl p1 1 (.int .u64 ((W1 % 18446744073709551616 : Nat) : Int)) (fun w hw => (zad HW1.out hw).cell 1) (q105) ?_
 simp only [nm]
 refine zfl _ _ _ _ _ _ _ (m1 : Nat) (by rfl) rfl rfl rfl HM1.out ?_
 simp only [nm]
 refine zax _ _ p0 (wideL W0) _ (by rfl) rfl rfl (fun w hw => zaq HW0.out hw) q175 rfl Tryz.arr174 ?_
 simp only [nm]
 refine sdc [wideV W0] (.int .u64 ((u0 : Nat) : Int)) Tryz.call136 (fun w hw => above_u W0 u0 EU0.out w) ?_
 simp only [nm]
 refine zfm _ _ _ _ _ _ _ (r1 : Nat) (by rfl) rfl rfl rfl HR1.out ?_
 simp only [nm]
 refine det_field _ _ p2 1 1 (by rfl) rfl rfl (fun w => by go_simp) ?_
 simp only [nm]
 refine sdl p2 1 (.int .u64 ((W2 % 18446744073709551616 : Nat) : Int)) (fun w hw => (zad HW2.out hw).cell 1) (q105) ?_
 simp only [nm]
 refine zfl _ _ _ _ _ _ _ (m2 : Nat) (by rfl) rfl rfl rfl HM2.out ?_
 simp only [nm]
 refine zax _ _ p1 (wideL W1) _ (by rfl) rfl rfl (fun w hw => zaq HW1.out hw) q175 rfl Tryz.arr174 ?_
 simp only [nm]
 refine sdc [wideV W1] (.int .u64 ((u1 : Nat) : Int)) Tryz.call136 (fun w hw => above_u W1 u1 EU1.out w) ?_
 simp only [nm]
 refine zfm _ _ _ _ _ _ _ (r2 : Nat) (by rfl) rfl rfl rfl HR2.out ?_
 simp only [nm]
 refine det_field _ _ p3 1 1 (by rfl) rfl rfl (fun w => by go_simp) ?_
 simp only [nm]
 refine sdl p3 1 (.int .u64 ((W3 % 18446744073709551616 : Nat) : Int)) (fun w hw => (zad HW3.out hw).cell 1) (q105) ?_
 simp only [nm]
 refine zfl _ _ _ _ _ _ _ (m3 : Nat) (by rfl) rfl rfl rfl HM3.out ?_
 simp only [nm]
 refine zax _ _ p2 (wideL W2) _ (by rfl) rfl rfl (fun w hw => zaq HW2.out hw) q175 rfl Tryz.arr174 ?_
 simp only [nm]
 refine sdc [wideV W2] (.int .u64 ((u2 : Nat) : Int)) Tryz.call136 (fun w hw => above_u W2 u2 EU2.out w) ?_
 simp only [nm]
 refine zfm _ _ _ _ _ _ _ (r3 : Nat) (by rfl) rfl rfl rfl HR3.out ?_
 simp only [nm]
 refine det_field _ _ p4 1 1 (by rfl) rfl rfl (fun w => by go_simp) ?_
 simp only [nm]
 refine sdl p4 1 (.int .u64 ((W4 % 18446744073709551616 : Nat) : Int)) (fun w hw => (zad HW4.out hw).cell 1) (q105) ?_
 simp only [nm]
 refine zfl _ _ _ _ _ _ _ (m4 : Nat) (by rfl) rfl rfl rfl HM4.out ?_
 simp only [nm]
 refine zax _ _ p3 (wideL W3) _ (by rfl) rfl rfl (fun w hw => zaq HW3.out hw) q175 rfl Tryz.arr174 ?_
 simp only [nm]
 refine sdc [wideV W3] (.int .u64 ((u3 : Nat) : Int)) Tryz.call136 (fun w hw => above_u W3 u3 EU3.out w) ?_
 simp only [nm]
 refine zfm _ _ _ _ _ _ _ (r4 : Nat) (by rfl) rfl rfl rfl HR4.out ?_
 simp only [nm]
 refine zaw (L5.v ⟨r0, r1, r2, r3, r4⟩) (by rfl) (fun w hw => by unfold L5.v L5.vs; go_simp) ?_
 simp only [nm]
 refine sdc [L5.v ⟨r0, r1, r2, r3, r4⟩] ((carriedL ⟨r0, r1, r2, r3, r4⟩).v) Tryz.call131 (fun w hw => carried_any ⟨r0, r1, r2, r3, r4⟩ BR.out w) ?_
 simp only [nm]
 refine zao (zec (k := 33) _ _ _ _ (A + 1 + 1) (carriedL ⟨r0, r1, r2, r3, r4⟩).vs zero5 rfl (by kernel_rfl) (by kernel_rfl) (by kernel_rfl) rfl rfl rfl rfl H3.out rfl Tryz.arr147 (L5.vs_one _) (fun w8 hb8 hg8 => ?_))
 simp only [Act.put]
 go_wp2_with fail
 rw [ER.out] at hb8 ⊢
 exact bodyPost_ret (v := (timesL ⟨a, b, c, d, e⟩ ⟨f, g, h, i, j⟩).v) (zap (by rfl) _ (A + 1 + 1) _ _ _ (by rfl) hb8 q104 rfl Tryz.arr147) rfl ⟨rfl, zab HE.out hg8 (by omega)⟩
