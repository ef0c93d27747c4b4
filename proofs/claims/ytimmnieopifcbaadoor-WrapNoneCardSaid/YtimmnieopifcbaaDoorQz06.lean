/- Texts that belong together, one behind the other. -/
import Derived.Laws.ResultCell
import Derived.Deep.MidRow
import Derived.WalkKit
import Derived.WalkSpells
import Derived.WalkLawsBesides
import Derived.Lib.Hide
import Derived.Deep.QuietTactic
import Derived.BigQuiet
import Derived.Deep.RegionHeld3
import Derived.Deep.AppendLies
import Derived.OneCell
import Derived.Deep.Quiet
import Derived.OrdersHeld
import Derived.Deep.RegionHeld
import Derived.ChangeKeysEq
import Derived.Laws.Bits64b
import Derived.Deep.CutRange
import Derived.Deep.RegionWith
import Derived.ProofKit
import Derived.Laws.Slices
import Derived.Deep.LoopGhost
import Derived.StillTailTactics
import Derived.Laws.CopyOwn
import Derived.ScopeJumps
import Derived.Control
import Derived.Laws.MakeOwn
import Derived.Laws.Entries
import Derived.Great.BuildSlice
import Derived.Laws.OwnMore
import Derived.Deep.Onto
import Derived.Laws.Tables
import Derived.Lib.AppendZeros
import Derived.Test.YtimmnieopifcbaaDoorQz01
import Derived.Test.YtimmnieopifcbaaDoorQz02
import Derived.Test.YtimmnieopifcbaaDoorQz04
import Derived.Test.YtimmnieopifcbaaDoorQz05
namespace Go.Proofs.YtimmnieopifcbaaDoor
set_option linter.unusedVariables false
set_option linter.unusedSimpArgs false
open Go.RowKit
def Lim (M : Int) (l : List Int) : Prop := ∃ a b c d e, l = [a, b, c, d, e] ∧ (0 ≤ a ∧ a ≤ M) ∧ (0 ≤ b ∧ b ≤ M) ∧ (0 ≤ c ∧ c ≤ M) ∧ (0 ≤ d ∧ d ≤ M) ∧ (0 ≤ e ∧ e ≤ M)
theorem Lim.len {M : Int} {l : List Int} (h : Lim M l) : l.length = 5 := by
 obtain ⟨a, b, c, d, e, rfl, _⟩ := h
 rfl
theorem Lim.getD {M : Int} (hM : 0 ≤ M) {l : List Int} (h : Lim M l) : ∀ i, 0 ≤ l.getD i 0 ∧ l.getD i 0 ≤ M := by
 obtain ⟨a, b, c, d, e, rfl, h1, h2, h3, h4, h5⟩ := h
 intro i
 match i with
 | 0 => exact h1
 | 1 => exact h2
 | 2 => exact h3
 | 3 => exact h4
 | 4 => exact h5
 | n + 5 => simp; omega
theorem Lim.of {M : Int} {l : List Int} (hl : l.length = 5) (h : ∀ i, i < 5 → 0 ≤ l.getD i 0 ∧ l.getD i 0 ≤ M) : Lim M l := by
 match l, hl with
 | [a, b, c, d, e], _ => exact ⟨a, b, c, d, e, rfl, h 0 (by omega), h 1 (by omega), h 2 (by omega), h 3 (by omega), h 4 (by omega)⟩
theorem Lim.up {M N : Int} {l : List Int} (h : Lim M l) (hMN : M ≤ N) : Lim N l := by
 obtain ⟨a, b, c, d, e, rfl, h1, h2, h3, h4, h5⟩ := h
 exact ⟨a, b, c, d, e, rfl, by omega, by omega, by omega, by omega, by omega⟩
theorem gV5 (a b c d e : Int) : gV 67108864 [a, b, c, d, e] = a + 67108864 * b + 4503599627370496 * c + 302231454903657293676544 * d + 20282409603651670423947251286016 * e := by
 simp only [gV]
 omega
theorem sA_getD (h c : List Int) : ∀ k, k ≤ h.length → ∀ i, (sA h c k).getD i 0 = if i < k then h.getD i 0 + c.getD i 0 else h.getD i 0
 | 0, _, i => by rw [if_neg (by omega)]; rfl
 | k + 1, hk, i => by
  rw [sA]
  by_cases e : i = k
  ·subst e
   rw [getD_set_same (by rw [sA_length]; omega), if_pos (by omega), sA_getD h c i (by omega) i, if_neg (by omega)]
  ·rw [getD_set_far (by omega), sA_getD h c k (by omega) i]
   by_cases h1 : i < k
   ·rw [if_pos h1, if_pos (by omega)]
   ·rw [if_neg h1, if_neg (by omega)]
def addL (x y : List Int) : List Int := sA x y 5
theorem addL_five (a b c d e f g h i j : Int) : addL [a, b, c, d, e] [f, g, h, i, j] = [a + f, b + g, c + h, d + i, e + j] := by simp [addL, sA]
theorem addL_val {M N : Int} {x y : List Int} (hx : Lim M x) (hy : Lim N y) : Lim (M + N) (addL x y) ∧ gV 67108864 (addL x y) = gV 67108864 x + gV 67108864 y := by
 obtain ⟨a, b, c, d, e, rfl, h1, h2, h3, h4, h5⟩ := hx
 obtain ⟨f, g, h, i, j, rfl, k1, k2, k3, k4, k5⟩ := hy
 rw [addL_five]
 refine ⟨⟨_, _, _, _, _, rfl, by omega, by omega, by omega, by omega, by omega⟩, ?_⟩
 rw [gV5, gV5, gV5]
 omega
def zRun (h : List Int) : Nat → List Int × Int
 | 0 => (h, 0)
 | i + 1 => ((zRun h i).1.set i (((zRun h i).2 + (zRun h i).1.getD i 0) % 67108864), ((zRun h i).2 + (zRun h i).1.getD i 0) / 67108864)
theorem zRun_length (h : List Int) : ∀ i, (zRun h i).1.length = h.length
 | 0 => rfl
 | i + 1 => by simp [zRun, zRun_length h i]
theorem zRun_far (h : List Int) : ∀ i j, i ≤ j → (zRun h i).1.getD j 0 = h.getD j 0
 | 0, _, _ => rfl
 | i + 1, j, hj => by rw [zRun, getD_set_far (by omega), zRun_far h i j (by omega)]
theorem zRun_small (h : List Int) (hl : h.length = 5) : ∀ i, i ≤ 5 → ∀ j, j < i → 0 ≤ (zRun h i).1.getD j 0 ∧ (zRun h i).1.getD j 0 < 67108864
 | 0, _, j, hj => by omega
 | i + 1, hi, j, hj => by
  rw [zRun]
  by_cases e : j = i
  ·subst e
   rw [getD_set_same (by rw [zRun_length]; omega)]
   omega
  ·rw [getD_set_far (by omega)]
   exact zRun_small h hl i (by omega) j (by omega)
theorem zRun_val (h : List Int) (hl : h.length = 5) : ∀ i, i ≤ 5 → gV 67108864 (zRun h i).1 + (zRun h i).2 * 67108864 ^ i = gV 67108864 h
 | 0, _ => by simp [zRun]
 | i + 1, hi => by
  have ih := zRun_val h hl i (by omega)
  rw [zRun, gV_set _ _ _ _ (by rw [zRun_length]; omega), ← ih, Int.pow_succ]
  generalize (zRun h i).2 = u
  generalize (zRun h i).1.getD i 0 = z
  generalize gV 67108864 (zRun h i).1 = V
  generalize hB : (67108864 : Int) ^ i = B
  have e : (u + z) = 67108864 * ((u + z) / 67108864) + (u + z) % 67108864 := (Int.mul_ediv_add_emod _ _).symm
  generalize (u + z) / 67108864 = q at *
  generalize (u + z) % 67108864 = r at *
  have : u = 67108864 * q + r - z := by omega
  subst this
  clear e ih hB hi hl
  grind
theorem zRun_carry {M : Int} (hM : 0 ≤ M) (h : List Int) (hn : ∀ i, 0 ≤ h.getD i 0 ∧ h.getD i 0 ≤ M) : ∀ i, 0 ≤ (zRun h i).2 ∧ (zRun h i).2 ≤ M
 | 0 => by simp only [zRun]; omega
 | i + 1 => by
  have ih := zRun_carry hM h hn i
  have := hn i
  rw [zRun, zRun_far h i i (Nat.le_refl _)]
  show 0 ≤ ((zRun h i).2 + h.getD i 0) / 67108864 ∧ ((zRun h i).2 + h.getD i 0) / 67108864 ≤ M
  omega
def setL (h : List Int) : List Int := (zRun h 5).1
theorem pow26 : (67108864 : Int) ^ 5 = two130 := by decide +kernel
theorem lim_range {l : List Int} (h : Lim 67108863 l) : 0 ≤ gV 67108864 l ∧ gV 67108864 l < two130 := by
 have := gV_range (B := 67108864) (by omega) (zs := l) (fun i hi => by have := h.getD (by omega) i; omega)
 rw [h.len, pow26] at this
 exact this
theorem setL_val {h : List Int} (hl : h.length = 5) : Lim 67108863 (setL h) ∧ gV 67108864 (setL h) = gV 67108864 h % two130 := by
 have hL : Lim 67108863 (setL h) := Lim.of (by unfold setL; rw [zRun_length, hl]) (fun i hi => by
  have := zRun_small h hl 5 (Nat.le_refl _) i hi
  unfold setL
  omega)
 refine ⟨hL, ?_⟩
 have h1 := zRun_val h hl 5 (Nat.le_refl _)
 have h2 := lim_range hL
 rw [pow26] at h1
 show gV 67108864 (setL h) = _
 have h3 : gV 67108864 (setL h) + (zRun h 5).2 * two130 = gV 67108864 h := h1
 rw [← h3]
 generalize gV 67108864 (setL h) = V at *
 generalize (zRun h 5).2 = c at *
 unfold two130 at *
 omega
def rRun (h : List Int) : Nat → Int
 | 0 => 5
 | i + 1 => (rRun h i + h.getD i 0) / 67108864
theorem rRun_val {h : List Int} (hl : h.length = 5) (hn : ∀ i, 0 ≤ h.getD i 0) : ∀ i, i ≤ 5 → rRun h i = (gV 67108864 (h.take i) + 5) / 67108864 ^ i
 | 0, _ => by simp [rRun, gV]
 | i + 1, hi => by
  rw [rRun, rRun_val hl hn i (by omega), gV_take_succ _ _ _ (by omega), Int.pow_succ]
  have hB : (0 : Int) < 67108864 ^ i := Int.pow_pos (by omega)
  generalize (67108864 : Int) ^ i = B at *
  rw [show (gV 67108864 (h.take i) + h.getD i 0 * B + 5) / (B * 67108864) = (gV 67108864 (h.take i) + h.getD i 0 * B + 5) / B / 67108864 from by rw [Int.ediv_ediv, if_neg (fun h => absurd h.1 (by omega)), Int.sub_zero], show gV 67108864 (h.take i) + h.getD i 0 * B + 5 = (gV 67108864 (h.take i) + 5) + h.getD i 0 * B by omega, Int.add_mul_ediv_right _ _ (by omega)]
theorem rRun_range {M : Int} {h : List Int} (hM : 5 ≤ M) (hn : ∀ i, 0 ≤ h.getD i 0 ∧ h.getD i 0 ≤ M) : ∀ i, 0 ≤ rRun h i ∧ rRun h i ≤ M
 | 0 => by simp only [rRun]; omega
 | i + 1 => by
  have ih := rRun_range hM hn i
  have := hn i
  simp only [rRun]
  omega
def redL (h : List Int) : List Int := setL (h.set 0 (h.getD 0 0 + 5 * rRun h 5))
theorem redL_val {h : List Int} (hl : h.length = 5) (hn : ∀ i, 0 ≤ h.getD i 0) (hv : gV 67108864 h < 2 * (pQ : Int)) : Lim 67108863 (redL h) ∧ gV 67108864 (redL h) = gV 67108864 h % (pQ : Int) := by
 have h1 := setL_val (h := h.set 0 (h.getD 0 0 + 5 * rRun h 5)) (by simp [hl])
 refine ⟨h1.1, h1.2.trans ?_⟩
 rw [gV_set _ _ _ _ (by omega), rRun_val hl hn 5 (Nat.le_refl _), List.take_of_length_le (by omega), pow26]
 have h0 : 0 ≤ gV 67108864 h := by
  have : ∀ (zs : List Int), (∀ i, 0 ≤ zs.getD i 0) → 0 ≤ gV 67108864 zs := by
   intro zs
   induction zs with
   | nil => intro _; exact Int.le_refl _
   | cons z r ih =>
    intro h
    have h0 : 0 ≤ z := h 0
    have h1 := ih (fun i => by have := h (i + 1); simpa using this)
    simp only [gV]
    omega
  exact this h hn
 generalize gV 67108864 h = V at *
 generalize h.getD 0 0 = z
 rw [Int.pow_zero, Int.mul_one]
 clear h1 hn
 unfold pQ at *
 unfold two130
 rcases Int.lt_or_le V 1361129467683753853853498429727072845819 with h | h
 ·have q : (V + 5) / 1361129467683753853853498429727072845824 = 0 := by omega
  rw [q]
  omega
 ·have q : (V + 5) / 1361129467683753853853498429727072845824 = 1 := by omega
  rw [q]
  omega
def carL : List Int → List Int
 | [a, b, c, d, e] =>
  let b1 := b + a / 67108864
  let c1 := c + b1 / 67108864
  let d1 := d + c1 / 67108864
  let e1 := e + d1 / 67108864
  let l := a % 67108864 + 5 * (e1 / 67108864)
  [l % 67108864, b1 % 67108864 + l / 67108864, c1 % 67108864, d1 % 67108864, e1 % 67108864]
 | _ => []
def Near (l : List Int) : Prop := ∃ a b c d e, l = [a, b, c, d, e] ∧ (0 ≤ a ∧ a ≤ 67108863) ∧ (0 ≤ b ∧ b ≤ 67108991) ∧ (0 ≤ c ∧ c ≤ 67108863) ∧ (0 ≤ d ∧ d ≤ 67108863) ∧ (0 ≤ e ∧ e ≤ 67108863)
theorem Near.lim {l : List Int} (h : Near l) : Lim 67108991 l := by
 obtain ⟨a, b, c, d, e, rfl, h1, h2, h3, h4, h5⟩ := h
 exact ⟨a, b, c, d, e, rfl, by omega, by omega, by omega, by omega, by omega⟩
theorem Near.zero : Near (List.replicate 5 0) := ⟨0, 0, 0, 0, 0, rfl, by omega, by omega, by omega, by omega, by omega⟩
theorem Near.below {l : List Int} (h : Near l) : gV 67108864 l < 2 * (pQ : Int) := by
 obtain ⟨a, b, c, d, e, rfl, h1, h2, h3, h4, h5⟩ := h
 rw [gV5]
 unfold pQ
 omega
theorem carL_val {a b c d e : Int} (ha : 0 ≤ a ∧ a ≤ 378302368699121664) (hb : 0 ≤ b ∧ b ≤ 378302368699121664) (hc : 0 ≤ c ∧ c ≤ 378302368699121664) (hd : 0 ≤ d ∧ d ≤ 378302368699121664) (he : 0 ≤ e ∧ e ≤ 90071992547409920) :
  Near (carL [a, b, c, d, e]) ∧ gV 67108864 (carL [a, b, c, d, e]) % (pQ : Int) = gV 67108864 [a, b, c, d, e] % (pQ : Int) := by
 unfold carL
 simp only
 obtain ⟨b1, hb1⟩ : ∃ x, x = b + a / 67108864 := ⟨_, rfl⟩
 obtain ⟨c1, hc1⟩ : ∃ x, x = c + b1 / 67108864 := ⟨_, rfl⟩
 obtain ⟨d1, hd1⟩ : ∃ x, x = d + c1 / 67108864 := ⟨_, rfl⟩
 obtain ⟨e1, he1⟩ : ∃ x, x = e + d1 / 67108864 := ⟨_, rfl⟩
 obtain ⟨l, hl⟩ : ∃ x, x = a % 67108864 + 5 * (e1 / 67108864) := ⟨_, rfl⟩
 rw [← hb1, ← hc1, ← hd1, ← he1, ← hl]
 have b2 : 0 ≤ b1 ∧ b1 ≤ 378302374400000000 := by omega
 have c2 : 0 ≤ c1 ∧ c1 ≤ 378302374400000000 := by omega
 have d2 : 0 ≤ d1 ∧ d1 ≤ 378302374400000000 := by omega
 have e2 : 0 ≤ e1 ∧ e1 ≤ 90071998300000000 := by omega
 have l2 : 0 ≤ l ∧ l ≤ 6777996000 := by omega
 refine ⟨⟨_, _, _, _, _, rfl, by omega, by omega, by omega, by omega, by omega⟩, ?_⟩
 rw [gV5, gV5]
 have key : a + 67108864 * b + 4503599627370496 * c + 302231454903657293676544 * d + 20282409603651670423947251286016 * e =
   l % 67108864 + 67108864 * (b1 % 67108864 + l / 67108864) + 4503599627370496 * (c1 % 67108864) + 302231454903657293676544 * (d1 % 67108864) + 20282409603651670423947251286016 * (e1 % 67108864) + (pQ : Int) * (e1 / 67108864) := by
  unfold pQ
  omega
 rw [key, Int.add_mul_emod_self_left]
def timS (x y : List Int) : List Int :=
 match x, y with
 | [a, b, c, d, e], [f, g, h, i, j] => [a * f + b * (5 * j) + c * (5 * i) + d * (5 * h) + e * (5 * g), a * g + b * f + c * (5 * j) + d * (5 * i) + e * (5 * h), a * h + b * g + c * f + d * (5 * j) + e * (5 * i), a * i + b * h + c * g + d * f + e * (5 * j), a * j + b * i + c * h + d * g + e * f]
 | _, _ => []
def timL (x y : List Int) : List Int := carL (timS x y)
theorem mulB {x y X Y : Int} (hx : 0 ≤ x ∧ x ≤ X) (hy : 0 ≤ y ∧ y ≤ Y) : 0 ≤ x * y ∧ x * y ≤ X * Y := ⟨Int.mul_nonneg hx.1 hy.1, Int.mul_le_mul hx.2 hy.2 hy.1 (by omega)⟩
theorem tim_id (a b c d e f g h i j : Int) : gV 67108864 [a, b, c, d, e] * gV 67108864 [f, g, h, i, j] = gV 67108864 (timS [a, b, c, d, e] [f, g, h, i, j]) + (pQ : Int) * ((b * j + c * i + d * h + e * g) + 67108864 * (c * j + d * i + e * h) + 4503599627370496 * (d * j + e * i) + 302231454903657293676544 * (e * j)) := by
 unfold timS
 simp only [gV5]
 unfold pQ
 grind
theorem timL_val {x y : List Int} (hx : Lim 268435455 x) (hy : Lim 67108863 y) : Near (timL x y) ∧ gV 67108864 (timL x y) % (pQ : Int) = gV 67108864 x * gV 67108864 y % (pQ : Int) := by
 obtain ⟨a, b, c, d, e, rfl, h1, h2, h3, h4, h5⟩ := hx
 obtain ⟨f, g, h, i, j, rfl, k1, k2, k3, k4, k5⟩ := hy
 have ef : ∀ {x y : Int}, 0 ≤ x ∧ x ≤ 268435455 → 0 ≤ y ∧ y ≤ 67108863 → 0 ≤ x * y ∧ x * y ≤ 18014398509481984 ∧ x * (5 * y) = 5 * (x * y) := fun {x y} hx hy => by
  have := mulB hx hy
  refine ⟨this.1, by omega, ?_⟩
  rw [← Int.mul_assoc, Int.mul_comm x 5, Int.mul_assoc]
 have key := carL_val (a := a * f + b * (5 * j) + c * (5 * i) + d * (5 * h) + e * (5 * g)) (b := a * g + b * f + c * (5 * j) + d * (5 * i) + e * (5 * h)) (c := a * h + b * g + c * f + d * (5 * j) + e * (5 * i)) (d := a * i + b * h + c * g + d * f + e * (5 * j)) (e := a * j + b * i + c * h + d * g + e * f)
  (by have := ef h1 k1; have := ef h2 k5; have := ef h3 k4; have := ef h4 k3; have := ef h5 k2; omega)
  (by have := ef h1 k2; have := ef h2 k1; have := ef h3 k5; have := ef h4 k4; have := ef h5 k3; omega)
  (by have := ef h1 k3; have := ef h2 k2; have := ef h3 k1; have := ef h4 k5; have := ef h5 k4; omega)
  (by have := ef h1 k4; have := ef h2 k3; have := ef h3 k2; have := ef h4 k1; have := ef h5 k5; omega)
  (by have := ef h1 k5; have := ef h2 k4; have := ef h3 k3; have := ef h4 k2; have := ef h5 k1; omega)
 refine ⟨key.1, key.2.trans ?_⟩
 rw [tim_id, Int.add_mul_emod_self_left]
 rfl
def D17 (zs : List Int) : Prop := zs.length = 17 ∧ ∀ i, 0 ≤ zs.getD i 0 ∧ zs.getD i 0 ≤ 255
def w4 (zs : List Int) (o : Nat) : Int := zs.getD o 0 + 256 * zs.getD (o + 1) 0 + 65536 * zs.getD (o + 2) 0 + 16777216 * zs.getD (o + 3) 0
theorem w4_val {zs : List Int} (h : D17 zs) (o : Nat) (ho : o + 4 ≤ 17) : w4 zs o = gV 256 zs / 256 ^ o % 4294967296 := by
 obtain ⟨hl, hd⟩ := h
 rw [gV_div (by omega) (by omega) (fun i hi => by have := hd i; omega)]
 have g : ∀ k, (zs.drop o).getD k 0 = zs.getD (o + k) 0 := fun k => getD_drop
 have hl2 : (zs.drop o).length = 17 - o := by rw [List.length_drop, hl]
 have h0 := hd o
 have h1 := hd (o + 1)
 have h2 := hd (o + 2)
 have h3 := hd (o + 3)
 unfold w4
 have g0 := g 0
 have g1 := g 1
 have g2 := g 2
 have g3 := g 3
 generalize zs.drop o = ys at *
 match ys, hl2 with
 | y0 :: y1 :: y2 :: y3 :: r, _ =>
  simp only [List.getD_cons_zero, List.getD_cons_succ, Nat.add_zero] at g0 g1 g2 g3
  simp only [gV]
  generalize gV 256 r = R
  omega
 | [], h => simp at h; omega
 | [_], h => simp at h; omega
 | [_, _], h => simp at h; omega
 | [_, _, _], h => simp at h; omega
def lO (zs : List Int) : Nat → List Int
 | 0 => List.replicate 5 0
 | k + 1 => (lO zs k).set k (w4 zs (26 * k / 8) / 2 ^ (26 * k % 8) % 67108864)
theorem lO_length (zs : List Int) : ∀ k, (lO zs k).length = 5
 | 0 => by simp [lO]
 | k + 1 => by rw [lO, List.length_set, lO_length zs k]
theorem lO_five (zs : List Int) : lO zs 5 = [w4 zs 0 / 1 % 67108864, w4 zs 3 / 4 % 67108864, w4 zs 6 / 16 % 67108864, w4 zs 9 / 64 % 67108864, w4 zs 13 / 1 % 67108864] := by
 simp only [lO, List.replicate, List.set]
 rfl
def limL (zs : List Int) : List Int := lO zs 5
theorem limL_val {zs : List Int} (h : D17 zs) : Lim 67108863 (limL zs) ∧ gV 67108864 (limL zs) = gV 256 zs % two130 := by
 have e0 := w4_val h 0 (by omega)
 have e1 := w4_val h 3 (by omega)
 have e2 := w4_val h 6 (by omega)
 have e3 := w4_val h 9 (by omega)
 have e4 := w4_val h 13 (by omega)
 have hN : 0 ≤ gV 256 zs := gV_nonneg (fun i => (h.2 i).1)
 unfold limL
 rw [lO_five, e0, e1, e2, e3, e4]
 rw [show (256 : Int) ^ 0 = 1 from rfl, show (256 : Int) ^ 3 = 16777216 from rfl, show (256 : Int) ^ 6 = 281474976710656 from by decide +kernel, show (256 : Int) ^ 9 = 4722366482869645213696 from by decide +kernel, show (256 : Int) ^ 13 = 20282409603651670423947251286016 from by decide +kernel]
 generalize gV 256 zs = N at *
 clear e0 e1 e2 e3 e4 h
 have f0 : N / 1 % 4294967296 / 1 % 67108864 = N % 67108864 := by omega
 have f1 : N / 16777216 % 4294967296 / 4 % 67108864 = N / 67108864 % 67108864 := by omega
 have f2 : N / 281474976710656 % 4294967296 / 16 % 67108864 = N / 4503599627370496 % 67108864 := by omega
 have f3 : N / 4722366482869645213696 % 4294967296 / 64 % 67108864 = N / 302231454903657293676544 % 67108864 := by omega
 have f4 : N / 20282409603651670423947251286016 % 4294967296 / 1 % 67108864 = N / 20282409603651670423947251286016 % 67108864 := by omega
 rw [f0, f1, f2, f3, f4]
 refine ⟨⟨_, _, _, _, _, rfl, by omega, by omega, by omega, by omega, by omega⟩, ?_⟩
 rw [gV5]
 unfold two130
 clear f0 f1 f2 f3 f4
 omega
theorem or_fin2 : ∀ (x : Fin 4) (y : Fin 64), bits .or .u8 (x.val : Int) ((y.val : Int) * 4) = (x.val : Int) + (y.val : Int) * 4 := by decide +kernel
theorem or_fin4 : ∀ (x : Fin 16) (y : Fin 16), bits .or .u8 (x.val : Int) ((y.val : Int) * 16) = (x.val : Int) + (y.val : Int) * 16 := by decide +kernel
theorem or_fin6 : ∀ (x : Fin 64) (y : Fin 4), bits .or .u8 (x.val : Int) ((y.val : Int) * 64) = (x.val : Int) + (y.val : Int) * 64 := by decide +kernel
theorem or_fin8 : ∀ (y : Fin 256), bits .or .u8 0 (y.val : Int) = (y.val : Int) := by decide +kernel
theorem or_0 {y : Int} (h : 0 ≤ y ∧ y < 256) : bits .or .u8 0 y = y := by
 obtain ⟨n, rfl⟩ : ∃ n : Nat, y = (n : Int) := ⟨y.toNat, by omega⟩
 exact or_fin8 ⟨n, by omega⟩
theorem or_2 {x y : Int} (hx : 0 ≤ x ∧ x < 4) (hy : 0 ≤ y ∧ y < 64) : bits .or .u8 x (y * 4) = x + y * 4 := by
 obtain ⟨m, rfl⟩ : ∃ n : Nat, x = (n : Int) := ⟨x.toNat, by omega⟩
 obtain ⟨n, rfl⟩ : ∃ n : Nat, y = (n : Int) := ⟨y.toNat, by omega⟩
 exact or_fin2 ⟨m, by omega⟩ ⟨n, by omega⟩
theorem or_4 {x y : Int} (hx : 0 ≤ x ∧ x < 16) (hy : 0 ≤ y ∧ y < 16) : bits .or .u8 x (y * 16) = x + y * 16 := by
 obtain ⟨m, rfl⟩ : ∃ n : Nat, x = (n : Int) := ⟨x.toNat, by omega⟩
 obtain ⟨n, rfl⟩ : ∃ n : Nat, y = (n : Int) := ⟨y.toNat, by omega⟩
 exact or_fin4 ⟨m, by omega⟩ ⟨n, by omega⟩
theorem or_6 {x y : Int} (hx : 0 ≤ x ∧ x < 64) (hy : 0 ≤ y ∧ y < 4) : bits .or .u8 x (y * 64) = x + y * 64 := by
 obtain ⟨m, rfl⟩ : ∃ n : Nat, x = (n : Int) := ⟨x.toNat, by omega⟩
 obtain ⟨n, rfl⟩ : ∃ n : Nat, y = (n : Int) := ⟨y.toNat, by omega⟩
 exact or_fin6 ⟨m, by omega⟩ ⟨n, by omega⟩
def oN (c : List Int) (z : Int) (q s : Nat) : Nat → List Int
 | 0 => c
 | n + 1 => (oN c z q s n).set (q + n) (bits .or .u8 ((oN c z q s n).getD (q + n) 0) (z * 2 ^ s / 2 ^ (8 * n) % 256))
theorem oN_length (c : List Int) (z : Int) (q s : Nat) : ∀ n, (oN c z q s n).length = c.length
 | 0 => rfl
 | n + 1 => by rw [oN, List.length_set, oN_length c z q s n]
def oI (x : List Int) : Nat → List Int
 | 0 => List.replicate 17 0
 | i + 1 => oN (oI x i) (x.getD i 0) (26 * i / 8) (26 * i % 8) 4
theorem oI_length (x : List Int) : ∀ i, (oI x i).length = 17
 | 0 => by simp [oI]
 | i + 1 => by rw [oI, oN_length, oI_length x i]
theorem oN4 (c : List Int) (z : Int) (q s : Nat) : oN c z q s 4 = (((c.set q (bits .or .u8 (c.getD q 0) (z * 2 ^ s % 256))).set (q + 1) (bits .or .u8 (c.getD (q + 1) 0) (z * 2 ^ s / 256 % 256))).set (q + 2) (bits .or .u8 (c.getD (q + 2) 0) (z * 2 ^ s / 65536 % 256))).set (q + 3) (bits .or .u8 (c.getD (q + 3) 0) (z * 2 ^ s / 16777216 % 256)) := by
 simp only [oN]
 rw [getD_set_far (by omega), getD_set_far (by omega), getD_set_far (by omega), getD_set_far (by omega), getD_set_far (by omega), getD_set_far (by omega)]
 rw [show (2 : Int) ^ (8 * 0) = 1 from rfl, show (2 : Int) ^ (8 * 1) = 256 from rfl, show (2 : Int) ^ (8 * 2) = 65536 from rfl, show (2 : Int) ^ (8 * 3) = 16777216 from rfl, Int.ediv_one, Nat.add_zero]
def ou (x y : Int) : Int := bits .or .u8 x y
theorem oN_0 (c0 c1 c2 c3 c4 c5 c6 c7 c8 c9 c10 c11 c12 c13 c14 c15 c16 z : Int) : oN [c0, c1, c2, c3, c4, c5, c6, c7, c8, c9, c10, c11, c12, c13, c14, c15, c16] z 0 0 4 = [(ou c0 (z * 2 ^ 0 % 256)), (ou c1 (z * 2 ^ 0 / 256 % 256)), (ou c2 (z * 2 ^ 0 / 65536 % 256)), (ou c3 (z * 2 ^ 0 / 16777216 % 256)), c4, c5, c6, c7, c8, c9, c10, c11, c12, c13, c14, c15, c16] := by
 rw [oN4]
 rfl
theorem oN_3 (c0 c1 c2 c3 c4 c5 c6 c7 c8 c9 c10 c11 c12 c13 c14 c15 c16 z : Int) : oN [c0, c1, c2, c3, c4, c5, c6, c7, c8, c9, c10, c11, c12, c13, c14, c15, c16] z 3 2 4 = [c0, c1, c2, (ou c3 (z * 2 ^ 2 % 256)), (ou c4 (z * 2 ^ 2 / 256 % 256)), (ou c5 (z * 2 ^ 2 / 65536 % 256)), (ou c6 (z * 2 ^ 2 / 16777216 % 256)), c7, c8, c9, c10, c11, c12, c13, c14, c15, c16] := by
 rw [oN4]
 rfl
theorem oN_6 (c0 c1 c2 c3 c4 c5 c6 c7 c8 c9 c10 c11 c12 c13 c14 c15 c16 z : Int) : oN [c0, c1, c2, c3, c4, c5, c6, c7, c8, c9, c10, c11, c12, c13, c14, c15, c16] z 6 4 4 = [c0, c1, c2, c3, c4, c5, (ou c6 (z * 2 ^ 4 % 256)), (ou c7 (z * 2 ^ 4 / 256 % 256)), (ou c8 (z * 2 ^ 4 / 65536 % 256)), (ou c9 (z * 2 ^ 4 / 16777216 % 256)), c10, c11, c12, c13, c14, c15, c16] := by
 rw [oN4]
 rfl
theorem oN_9 (c0 c1 c2 c3 c4 c5 c6 c7 c8 c9 c10 c11 c12 c13 c14 c15 c16 z : Int) : oN [c0, c1, c2, c3, c4, c5, c6, c7, c8, c9, c10, c11, c12, c13, c14, c15, c16] z 9 6 4 = [c0, c1, c2, c3, c4, c5, c6, c7, c8, (ou c9 (z * 2 ^ 6 % 256)), (ou c10 (z * 2 ^ 6 / 256 % 256)), (ou c11 (z * 2 ^ 6 / 65536 % 256)), (ou c12 (z * 2 ^ 6 / 16777216 % 256)), c13, c14, c15, c16] := by
 rw [oN4]
 rfl
theorem oN_13 (c0 c1 c2 c3 c4 c5 c6 c7 c8 c9 c10 c11 c12 c13 c14 c15 c16 z : Int) : oN [c0, c1, c2, c3, c4, c5, c6, c7, c8, c9, c10, c11, c12, c13, c14, c15, c16] z 13 0 4 = [c0, c1, c2, c3, c4, c5, c6, c7, c8, c9, c10, c11, c12, (ou c13 (z * 2 ^ 0 % 256)), (ou c14 (z * 2 ^ 0 / 256 % 256)), (ou c15 (z * 2 ^ 0 / 65536 % 256)), (ou c16 (z * 2 ^ 0 / 16777216 % 256))] := by
 rw [oN4]
 rfl
theorem oI_five (a b c d e : Int) : oI [a, b, c, d, e] 5 = [ou 0 (a * 2 ^ 0 % 256), ou 0 (a * 2 ^ 0 / 256 % 256), ou 0 (a * 2 ^ 0 / 65536 % 256), ou (ou 0 (a * 2 ^ 0 / 16777216 % 256)) (b * 2 ^ 2 % 256), ou 0 (b * 2 ^ 2 / 256 % 256), ou 0 (b * 2 ^ 2 / 65536 % 256),
  ou (ou 0 (b * 2 ^ 2 / 16777216 % 256)) (c * 2 ^ 4 % 256), ou 0 (c * 2 ^ 4 / 256 % 256), ou 0 (c * 2 ^ 4 / 65536 % 256), ou (ou 0 (c * 2 ^ 4 / 16777216 % 256)) (d * 2 ^ 6 % 256), ou 0 (d * 2 ^ 6 / 256 % 256), ou 0 (d * 2 ^ 6 / 65536 % 256), ou 0 (d * 2 ^ 6 / 16777216 % 256),
  ou 0 (e * 2 ^ 0 % 256), ou 0 (e * 2 ^ 0 / 256 % 256), ou 0 (e * 2 ^ 0 / 65536 % 256), ou 0 (e * 2 ^ 0 / 16777216 % 256)] := by
 show oN (oN (oN (oN (oN [0, 0, 0, 0, 0, 0, 0, 0, 0, 0, 0, 0, 0, 0, 0, 0, 0] a 0 0 4) b 3 2 4) c 6 4 4) d 9 6 4) e 13 0 4 = _
 rw [oN_0, oN_3, oN_6, oN_9, oN_13]
def blkL (x : List Int) : List Int := oI x 5
theorem blkL_val {x : List Int} (hx : Lim 67108863 x) : D17 (blkL x) ∧ gV 256 (blkL x) = gV 67108864 x := by
 obtain ⟨a, b, c, d, e, rfl, h1, h2, h3, h4, h5⟩ := hx
 have e0 : (2 : Int) ^ 0 = 1 := rfl
 have e2 : (2 : Int) ^ 2 = 4 := rfl
 have e4 : (2 : Int) ^ 4 = 16 := rfl
 have e6 : (2 : Int) ^ 6 = 64 := rfl
 have hb : b * 4 % 256 = b % 64 * 4 := by omega
 have hc : c * 16 % 256 = c % 16 * 16 := by omega
 have hd : d * 64 % 256 = d % 4 * 64 := by omega
 have key : blkL [a, b, c, d, e] = [a % 256, a / 256 % 256, a / 65536 % 256, a / 16777216 % 256 + b % 64 * 4, b * 4 / 256 % 256, b * 4 / 65536 % 256, b * 4 / 16777216 % 256 + c % 16 * 16, c * 16 / 256 % 256, c * 16 / 65536 % 256, c * 16 / 16777216 % 256 + d % 4 * 64, d * 64 / 256 % 256, d * 64 / 65536 % 256, d * 64 / 16777216 % 256,
   e % 256, e / 256 % 256, e / 65536 % 256, e / 16777216 % 256] := by
  unfold blkL
  rw [oI_five, e0, e2, e4, e6]
  unfold ou
  simp only [Int.mul_one]
  rw [hb, hc, hd]
  have o : ∀ y : Int, bits .or .u8 0 (y % 256) = y % 256 := fun y => or_0 (by omega)
  simp only [o]
  rw [or_2 (by omega) (by omega), or_4 (by omega) (by omega), or_6 (by omega) (by omega)]
 rw [key]
 clear key hb hc hd e0 e2 e4 e6
 refine ⟨⟨rfl, fun i => ?_⟩, ?_⟩
 ·match i with
  | 0 => simp only [List.getD_cons_zero]; omega
  | 1 => simp only [List.getD_cons_zero, List.getD_cons_succ]; omega
  | 2 => simp only [List.getD_cons_zero, List.getD_cons_succ]; omega
  | 3 => simp only [List.getD_cons_zero, List.getD_cons_succ]; omega
  | 4 => simp only [List.getD_cons_zero, List.getD_cons_succ]; omega
  | 5 => simp only [List.getD_cons_zero, List.getD_cons_succ]; omega
  | 6 => simp only [List.getD_cons_zero, List.getD_cons_succ]; omega
  | 7 => simp only [List.getD_cons_zero, List.getD_cons_succ]; omega
  | 8 => simp only [List.getD_cons_zero, List.getD_cons_succ]; omega
  | 9 => simp only [List.getD_cons_zero, List.getD_cons_succ]; omega
  | 10 => simp only [List.getD_cons_zero, List.getD_cons_succ]; omega
  | 11 => simp only [List.getD_cons_zero, List.getD_cons_succ]; omega
  | 12 => simp only [List.getD_cons_zero, List.getD_cons_succ]; omega
  | 13 => simp only [List.getD_cons_zero, List.getD_cons_succ]; omega
  | 14 => simp only [List.getD_cons_zero, List.getD_cons_succ]; omega
  | 15 => simp only [List.getD_cons_zero, List.getD_cons_succ]; omega
  | 16 => simp only [List.getD_cons_zero, List.getD_cons_succ]; omega
  | n + 17 => simp
 ·rw [gV5]
  have ha : a = a % 256 + 256 * (a / 256 % 256) + 65536 * (a / 65536 % 256) + 16777216 * (a / 16777216 % 256) := by omega
  have hb : b = b % 64 + 64 * (b * 4 / 256 % 256) + 16384 * (b * 4 / 65536 % 256) + 4194304 * (b * 4 / 16777216 % 256) := by omega
  have hc : c = c % 16 + 16 * (c * 16 / 256 % 256) + 4096 * (c * 16 / 65536 % 256) + 1048576 * (c * 16 / 16777216 % 256) := by omega
  have hd : d = d % 4 + 4 * (d * 64 / 256 % 256) + 1024 * (d * 64 / 65536 % 256) + 262144 * (d * 64 / 16777216 % 256) := by omega
  have he : e = e % 256 + 256 * (e / 256 % 256) + 65536 * (e / 65536 % 256) + 16777216 * (e / 16777216 % 256) := by omega
  simp only [gV]
  generalize a % 256 = a0 at *
  generalize a / 256 % 256 = a1 at *
  generalize a / 65536 % 256 = a2 at *
  generalize a / 16777216 % 256 = a3 at *
  generalize b % 64 = b0 at *
  generalize b * 4 / 256 % 256 = b1 at *
  generalize b * 4 / 65536 % 256 = b2 at *
  generalize b * 4 / 16777216 % 256 = b3 at *
  generalize c % 16 = c0 at *
  generalize c * 16 / 256 % 256 = c1 at *
  generalize c * 16 / 65536 % 256 = c2 at *
  generalize c * 16 / 16777216 % 256 = c3 at *
  generalize d % 4 = d0 at *
  generalize d * 64 / 256 % 256 = d1 at *
  generalize d * 64 / 65536 % 256 = d2 at *
  generalize d * 64 / 16777216 % 256 = d3 at *
  generalize e % 256 = f0 at *
  generalize e / 256 % 256 = f1 at *
  generalize e / 65536 % 256 = f2 at *
  generalize e / 16777216 % 256 = f3 at *
  clear h1 h2 h3 h4 h5
  omega
def iB (l : List UInt8) : List Int := l.map fun b => (b.toNat : Int)
theorem iB_length (l : List UInt8) : (iB l).length = l.length := by simp [iB]
theorem iB_getD (l : List UInt8) (i : Nat) : (iB l).getD i 0 = ((l.getD i 0).toNat : Int) := by
 simp only [iB, List.getD_eq_getElem?_getD, List.getElem?_map]
 rcases h : l[i]? with _ | b <;> rfl
theorem bval_ints (l : List UInt8) : l.map bval = ints .u8 (iB l) := by
 unfold ints iB
 rw [List.map_map]
 rfl
theorem D17_iB {l : List UInt8} (h : l.length = 17) : D17 (iB l) := ⟨by rw [iB_length, h], fun i => by
 rw [iB_getD]
 have := (l.getD i 0).toNat_lt
 omega⟩
def onB (c : List UInt8) : List UInt8 := c ++ (1 :: List.replicate (16 - c.length) 0)
theorem onB_length {c : List UInt8} (h : c.length ≤ 16) : (onB c).length = 17 := by
 unfold onB
 simp
 omega
theorem onB_val (c : List UInt8) : gV 256 (iB (onB c)) = ((leN c : Nat) : Int) + 256 ^ c.length := by
 unfold iB onB
 rw [List.map_append, gV_append, gV_bytes, List.length_map]
 have e : (List.map (fun b : UInt8 => (b.toNat : Int)) (1 :: List.replicate (16 - c.length) 0)) = 1 :: List.replicate (16 - c.length) 0 := by simp
 rw [e, gV, gV_zeros, Int.mul_zero, Int.add_zero, Int.mul_one]
theorem piece_len (m : List UInt8) (n : Nat) : ((m.drop (16 * n)).take 16).length = min 16 (m.length - 16 * n) := by rw [List.length_take, List.length_drop]
theorem onB_blk (m : List UInt8) (n : Nat) : gV 256 (iB (onB ((m.drop (16 * n)).take 16))) = pBlk m n := by
 rw [onB_val, piece_len]
 rfl
theorem pBlk_range (m : List UInt8) (n : Nat) : 0 ≤ pBlk m n ∧ pBlk m n < two130 := by
 have h1 := leN_lt ((m.drop (16 * n)).take 16)
 have hl := piece_len m n
 have h2 : 256 ^ ((m.drop (16 * n)).take 16).length ≤ 256 ^ 16 := Nat.pow_le_pow_right (by omega) (by omega)
 have h3 : pBlk m n = (((leN ((m.drop (16 * n)).take 16)) + 256 ^ ((m.drop (16 * n)).take 16).length : Nat) : Int) := by
  unfold pBlk
  rw [hl]
  simp
 rw [h3]
 generalize leN ((m.drop (16 * n)).take 16) = a at *
 generalize 256 ^ ((m.drop (16 * n)).take 16).length = b at *
 have h4 : (256 ^ 16 : Nat) = 340282366920938463463374607431768211456 := by decide +kernel
 rw [h4] at h2
 unfold two130
 omega
theorem pDigit_le (key : List UInt8) (i : Nat) : pDigit key i ≤ 255 := by
 unfold pDigit
 have := (key.getD i 0).toNat_lt
 split
 ·omega
 ·split <;> omega
theorem pR_range (key : List UInt8) : 0 ≤ pR key ∧ pR key < 340282366920938463463374607431768211456 := by
 have h := gV_range (B := 256) (by omega) (zs := pDigits key) (fun i hi => by
  rw [pDigits_length] at hi
  rw [pDigits_getD key hi]
  have := pDigit_le key i
  omega)
 rw [pDigits_length, pow_16] at h
 exact h
theorem D17_rC (key : List UInt8) : D17 (rC key 3) := ⟨rC_length key 3, fun i => rC_digit key 3 i (by omega)⟩
def rL (key : List UInt8) : List Int := limL (rC key 3)
theorem rL_val (key : List UInt8) : Lim 67108863 (rL key) ∧ gV 67108864 (rL key) = pR key := by
 obtain ⟨h1, h2⟩ := limL_val (D17_rC key)
 refine ⟨h1, h2.trans ?_⟩
 rw [rC_val]
 have := pR_range key
 unfold two130
 exact Int.emod_eq_of_lt this.1 (by omega)
def fL (R : List Int) (m : List UInt8) : Nat → List Int
 | 0 => List.replicate 5 0
 | n + 1 => timL (addL (fL R m n) (limL (iB (onB ((m.drop (16 * n)).take 16))))) R
theorem blk_lim (m : List UInt8) (n : Nat) : Lim 67108863 (limL (iB (onB ((m.drop (16 * n)).take 16)))) ∧ gV 67108864 (limL (iB (onB ((m.drop (16 * n)).take 16)))) = pBlk m n := by
 obtain ⟨h1, h2⟩ := limL_val (D17_iB (onB_length (c := (m.drop (16 * n)).take 16) (by rw [piece_len]; omega)))
 refine ⟨h1, h2.trans ?_⟩
 rw [onB_blk]
 have := pBlk_range m n
 exact Int.emod_eq_of_lt this.1 this.2
theorem fL_val (key m : List UInt8) : ∀ n, Near (fL (rL key) m n) ∧ gV 67108864 (fL (rL key) m n) % (pQ : Int) = pAcc (pR key) m n
 | 0 => ⟨Near.zero, by rw [fL, gV_zeros]; rfl⟩
 | n + 1 => by
  obtain ⟨h1, h2⟩ := fL_val key m n
  obtain ⟨b1, b2⟩ := blk_lim m n
  obtain ⟨r1, r2⟩ := rL_val key
  obtain ⟨a1, a2⟩ := addL_val h1.lim b1
  obtain ⟨t1, t2⟩ := timL_val (a1.up (by omega)) r1
  rw [fL]
  refine ⟨t1, t2.trans ?_⟩
  rw [a2, b2, r2, pAcc, ← h2]
  generalize gV 67108864 (fL (rL key) m n) = V
  have e : (V % (pQ : Int) + pBlk m n) % (pQ : Int) = (V + pBlk m n) % (pQ : Int) := by rw [Int.add_emod, Int.emod_emod, ← Int.add_emod]
  rw [Int.mul_emod, ← e, ← Int.mul_emod]
def sL (key : List UInt8) : List Int := limL (iB ((key.drop 16).take 16 ++ [0]))
def outL (key m : List UInt8) : List Int := setL (addL (redL (fL (rL key) m ((m.length + 15) / 16))) (sL key))
theorem iB_snoc (l : List UInt8) : gV 256 (iB (l ++ [0])) = ((leN l : Nat) : Int) := by
 unfold iB
 rw [List.map_append, gV_append, gV_bytes]
 simp [gV]
theorem sL_val {key : List UInt8} (hk : key.length = 32) : Lim 67108863 (sL key) ∧ gV 67108864 (sL key) = (pS key : Int) := by
 have hl : ((key.drop 16).take 16).length = 16 := by rw [List.length_take, List.length_drop]; omega
 obtain ⟨h1, h2⟩ := limL_val (D17_iB (l := (key.drop 16).take 16 ++ [0]) (by rw [List.length_append, hl]; rfl))
 refine ⟨h1, h2.trans ?_⟩
 rw [iB_snoc]
 have h3 := leN_lt ((key.drop 16).take 16)
 rw [hl, show (256 ^ 16 : Nat) = 340282366920938463463374607431768211456 from by decide +kernel] at h3
 unfold two130 pS
 exact Int.emod_eq_of_lt (by omega) (by omega)
theorem outL_val {key m : List UInt8} (hk : key.length = 32) : Lim 67108863 (outL key m) ∧ gV 67108864 (outL key m) = (pNum key m + pS key) % two130 := by
 obtain ⟨f1, f2⟩ := fL_val key m ((m.length + 15) / 16)
 obtain ⟨s1, s2⟩ := sL_val hk
 obtain ⟨r1, r2⟩ := redL_val f1.lim.len (fun i => (f1.lim.getD (by omega) i).1) f1.below
 obtain ⟨a1, a2⟩ := addL_val r1 s1
 obtain ⟨o1, o2⟩ := setL_val a1.len
 refine ⟨o1, o2.trans ?_⟩
 rw [a2, r2, f2, s2]
 rfl
theorem take16 (X : Nat) : (bytesN 17 X).take 16 = bytesN 16 X := by
 have e : bytesN 17 X = bytesN 16 X ++ bytesN 1 (X / 256 ^ 16) := bytesN_append 16 1 X
 rw [e, List.take_append_of_le_length (by rw [bytesN_length]; omega), List.take_of_length_le (by rw [bytesN_length]; omega)]
theorem mod16 (N K : Nat) (hK : K = 4 * 256 ^ 16) : bytesN 16 (N % K) = bytesN 16 N := by
 rw [← bytesN_mod 16 (N % K), ← bytesN_mod 16 N, hK]
 congr 1
 generalize (256 : Nat) ^ 16 = B
 exact Nat.mod_mul_left_mod _ _ _
theorem tag_bytes {key m : List UInt8} (hk : key.length = 32) : ∃ l : List UInt8, l.length = 17 ∧ blkL (outL key m) = iB l ∧ l.take 16 = polyTag key m := by
 obtain ⟨o1, o2⟩ := outL_val (m := m) hk
 obtain ⟨b1, b2⟩ := blkL_val o1
 have hp := (pAcc_range (pR key) m ((m.length + 15) / 16)).1
 have hnum : 0 ≤ pNum key m := hp
 obtain ⟨N, hN⟩ : ∃ N : Nat, (pNum key m + pS key) = (N : Int) := ⟨(pNum key m + pS key).toNat, by omega⟩
 rw [hN] at o2
 have e0 : ((1361129467683753853853498429727072845824 : Nat) : Int) = two130 := by decide +kernel
 have e : blkL (outL key m) = dig 17 (N % 1361129467683753853853498429727072845824) := dig_of b1.1 (fun i hi => by have := b1.2 i; omega) (by
  rw [b2, o2, Int.natCast_emod, e0])
 refine ⟨bytesN 17 (N % 1361129467683753853853498429727072845824), bytesN_length _ _, e, ?_⟩
 unfold polyTag
 rw [hN, Int.toNat_natCast, take16]
 exact mod16 N _ (by decide +kernel)
theorem Tryd.arr86 : (Tryd.prog.info? 86).map (·.size) = some 5 := by kernel_rfl
theorem lim_size {l : List Int} (h : l.length = 5) : (Tryd.prog.info? 86).map (·.size) = some (ints .u64 l).length := by rw [ints_length, h]; exact Tryd.arr86
theorem digit_q {w : World} {S i : Nat} {l : List Int} {t : TypeId} (h : Blk w S (ints .u64 l) t) (hi : i < l.length) : w.cell? ⟨S, i, none⟩ = some (.int .u64 (l.getD i 0)) := by
 rw [h.cell, ints_get hi]
theorem digit_b {w : World} {S i : Nat} {l : List Int} {t : TypeId} (h : Blk w S (ints .u8 l) t) (hi : i < l.length) : w.cell? ⟨S, i, none⟩ = some (.int .u8 (l.getD i 0)) := by
 rw [h.cell, ints_get hi]
theorem mask26 (a : Int) (h0 : 0 ≤ a) (h1 : a ≤ 18446744073709551615) : bits .and .u64 a 67108863 = a % 67108864 := by
 obtain ⟨n, rfl⟩ : ∃ n : Nat, a = (n : Int) := ⟨a.toNat, by omega⟩
 have h := bits_and_u64_nat n 67108863 (by omega) (by omega)
 have e : n &&& 67108863 = n % 67108864 := Nat.and_two_pow_sub_one_eq_mod n 26
 rw [e] at h
 exact h
set_option maxRecDepth 100000 in
set_option maxHeartbeats 4000000 in
theorem pcarried_any (a b c d e : Int) (ha : 0 ≤ a ∧ a ≤ 378302368699121664) (hb : 0 ≤ b ∧ b ≤ 378302368699121664) (hc : 0 ≤ c ∧ c ≤ 378302368699121664) (hd : 0 ≤ d ∧ d ≤ 378302368699121664) (he : 0 ≤ e ∧ e ≤ 90071992547409920) (w : World) :
  Calls Tryd.prog 83 #[.agg (ints .u64 [a, b, c, d, e]).toArray] w fun x w' => x = .returned (.agg (ints .u64 (carL [a, b, c, d, e])).toArray) ∧ Below w.heap.size w w' := by
 obtain ⟨b1, hb1⟩ : ∃ x, x = b + a / 67108864 := ⟨_, rfl⟩
 obtain ⟨c1, hc1⟩ : ∃ x, x = c + b1 / 67108864 := ⟨_, rfl⟩
 obtain ⟨d1, hd1⟩ : ∃ x, x = d + c1 / 67108864 := ⟨_, rfl⟩
 obtain ⟨e1, he1⟩ : ∃ x, x = e + d1 / 67108864 := ⟨_, rfl⟩
 obtain ⟨l, hl⟩ : ∃ x, x = a % 67108864 + 5 * (e1 / 67108864) := ⟨_, rfl⟩
 have HO : Hid (carL [a, b, c, d, e] = [l % 67108864, b1 % 67108864 + l / 67108864, c1 % 67108864, d1 % 67108864, e1 % 67108864]) := Lib.hid (by subst hl he1 hd1 hc1 hb1; rfl)
 have b2 : 0 ≤ b1 ∧ b1 ≤ 378302374400000000 := by omega
 have c2 : 0 ≤ c1 ∧ c1 ≤ 378302374400000000 := by omega
 have d2 : 0 ≤ d1 ∧ d1 ≤ 378302374400000000 := by omega
 have e2 : 0 ≤ e1 ∧ e1 ≤ 90071998300000000 := by omega
 have l2 : 0 ≤ l ∧ l ≤ 6777996000 := by omega
 rw [HO.out]
 have W1 : Hid (b + a / 67108864 = b1) := Lib.hid hb1.symm
 have W2 : Hid (c + b1 / 67108864 = c1) := Lib.hid hc1.symm
 have W3 : Hid (d + c1 / 67108864 = d1) := Lib.hid hd1.symm
 have W4 : Hid (e + d1 / 67108864 = e1) := Lib.hid he1.symm
 have W5 : Hid (a % 67108864 + 5 * (e1 / 67108864) = l) := Lib.hid hl.symm
 have HB := Lib.hid (boxes2 w (ints .u64 [a, b, c, d, e]) (ints .u64 [0, 0, 0, 0, 0]) 86 86)
 clear hb1 hc1 hd1 he1 hl HO
 go_enter Tryd.func83, Tryd.ntmps83
 go_upto_region 1 with (fail)
 obtain ⟨H1, H2, HE⟩ := HB.out
 change Code.wp _ _ _ _ ((w.alloc (.cells (ints .u64 [a, b, c, d, e]).toArray 86)).alloc (.cells (ints .u64 [0, 0, 0, 0, 0]).toArray 86))
 generalize (w.alloc (.cells (ints .u64 [a, b, c, d, e]).toArray 86)).alloc (.cells (ints .u64 [0, 0, 0, 0, 0]).toArray 86) = wa at *
 obtain ⟨A, hA⟩ : ∃ A, A = w.heap.size := ⟨_, rfl⟩
 have HAW : Hid (w.heap.size ≤ A) := Lib.hid (by omega)
 rw [← hA] at H1 H2 ⊢
 have H1 := Lib.hid H1
 have H2 := Lib.hid H2
 have HE : Hid (Ext w wa) := Lib.hid HE
 clear hA HB
 have q0 := H1.out.cell 0
 have q1 := H1.out.cell 1
 have f1 := H1.out.free 1
 simp only [ints, List.map_cons, List.map_nil, List.getElem?_cons_zero, List.getElem?_cons_succ] at q0 q1
 go_upto_region 2 with (fail)
 rw [W1.out]
 have H1 : Hid (Blk (wa.setCell ⟨A, 1, none⟩ (.int .u64 b1)) A (ints .u64 [a, b1, c, d, e]) 86) := Lib.hid (H1.out.seti 1 _)
 have H2 := Lib.hid (H2.out.far (a := ⟨A, 1, none⟩) (by simp) (.int .u64 b1))
 have HE : Hid (Ext w (wa.setCell ⟨A, 1, none⟩ (.int .u64 b1))) := Lib.hid (Below.setCell HE.out (by have := HAW.out; simp; omega) _)
 generalize wa.setCell ⟨A, 1, none⟩ (.int .u64 b1) = wa1 at *
 clear q0 q1 f1
 have q0 := H1.out.cell 1
 have q1 := H1.out.cell 2
 have f1 := H1.out.free 2
 simp only [ints, List.map_cons, List.map_nil, List.getElem?_cons_zero, List.getElem?_cons_succ] at q0 q1
 go_upto_region 3 with (fail)
 rw [W2.out]
 have H1 : Hid (Blk (wa1.setCell ⟨A, 2, none⟩ (.int .u64 c1)) A (ints .u64 [a, b1, c1, d, e]) 86) := Lib.hid (H1.out.seti 2 _)
 have H2 := Lib.hid (H2.out.far (a := ⟨A, 2, none⟩) (by simp) (.int .u64 c1))
 have HE : Hid (Ext w (wa1.setCell ⟨A, 2, none⟩ (.int .u64 c1))) := Lib.hid (Below.setCell HE.out (by have := HAW.out; simp; omega) _)
 generalize wa1.setCell ⟨A, 2, none⟩ (.int .u64 c1) = wa2 at *
 clear q0 q1 f1
 have q0 := H1.out.cell 2
 have q1 := H1.out.cell 3
 have f1 := H1.out.free 3
 simp only [ints, List.map_cons, List.map_nil, List.getElem?_cons_zero, List.getElem?_cons_succ] at q0 q1
 go_upto_region 4 with (fail)
 rw [W3.out]
 have H1 : Hid (Blk (wa2.setCell ⟨A, 3, none⟩ (.int .u64 d1)) A (ints .u64 [a, b1, c1, d1, e]) 86) := Lib.hid (H1.out.seti 3 _)
 have H2 := Lib.hid (H2.out.far (a := ⟨A, 3, none⟩) (by simp) (.int .u64 d1))
 have HE : Hid (Ext w (wa2.setCell ⟨A, 3, none⟩ (.int .u64 d1))) := Lib.hid (Below.setCell HE.out (by have := HAW.out; simp; omega) _)
 generalize wa2.setCell ⟨A, 3, none⟩ (.int .u64 d1) = wa3 at *
 clear q0 q1 f1
 have q0 := H1.out.cell 3
 have q1 := H1.out.cell 4
 have f1 := H1.out.free 4
 simp only [ints, List.map_cons, List.map_nil, List.getElem?_cons_zero, List.getElem?_cons_succ] at q0 q1
 go_upto_region 5 with (fail)
 rw [W4.out]
 have H1 : Hid (Blk (wa3.setCell ⟨A, 4, none⟩ (.int .u64 e1)) A (ints .u64 [a, b1, c1, d1, e1]) 86) := Lib.hid (H1.out.seti 4 _)
 have H2 := Lib.hid (H2.out.far (a := ⟨A, 4, none⟩) (by simp) (.int .u64 e1))
 have HE : Hid (Ext w (wa3.setCell ⟨A, 4, none⟩ (.int .u64 e1))) := Lib.hid (Below.setCell HE.out (by have := HAW.out; simp; omega) _)
 generalize wa3.setCell ⟨A, 4, none⟩ (.int .u64 e1) = wa4 at *
 clear q0 q1 f1
 have q0 := H1.out.cell 0
 have q1 := H1.out.cell 1
 have q2 := H1.out.cell 2
 have q3 := H1.out.cell 3
 have q4 := H1.out.cell 4
 have m0 := mask26 a (by omega) (by omega)
 have m1 := mask26 b1 (by omega) (by omega)
 have m2 := mask26 c1 (by omega) (by omega)
 have m3 := mask26 d1 (by omega) (by omega)
 have m4 := mask26 e1 (by omega) (by omega)
 have m5 := mask26 l (by omega) (by omega)
 simp only [ints, List.map_cons, List.map_nil, List.getElem?_cons_zero, List.getElem?_cons_succ] at q0 q1 q2 q3 q4
 go_upto_region 6 with (fail)
 rw [W5.out]
 go_wp2_with (refine wpList_store_blk rfl _ _ _ rfl (A + 1) (ints .u64 [l % 67108864, b1 % 67108864 + l / 67108864, c1 % 67108864, d1 % 67108864, e1 % 67108864]) rfl rfl _ _ H2.out rfl (lim_size rfl) (ints_one _ _) ?_; intro w5 hb5 hg5)
 refine bodyPost_ret (result_blk rfl _ (A + 1) _ _ _ _ rfl hb5 Tryd.underlying86 (lim_size rfl)) rfl ?_
 exact ⟨rfl, ext_grown HE.out hg5 (by have := HAW.out; omega)⟩
theorem setL_len {x : List Int} (hx : x.length = 5) : (setL x).length = 5 := by unfold setL; rw [zRun_length, hx]
set_option maxRecDepth 100000 in
set_option maxHeartbeats 8000000 in
theorem pplus_any (x y : List Int) (w : World) (hx : Lim 1152921504606846976 x) (hy : Lim 1152921504606846976 y) :
  Calls Tryd.prog 53 #[.agg (ints .u64 x).toArray, .agg (ints .u64 y).toArray] w fun e w' => e = .returned (.agg (ints .u64 (addL x y)).toArray) ∧ Below w.heap.size w w' := by
 have HX := Lib.hid hx
 have HY := Lib.hid hy
 have HB := Lib.hid (boxes3 w (ints .u64 x) (ints .u64 y) (ints .u64 (List.replicate 5 0)) 86 86 86)
 clear hx hy
 go_enter Tryd.func53, Tryd.ntmps53
 go_upto_region 1 with (fail)
 obtain ⟨H1, H2, H3, HE⟩ := HB.out
 change Code.wp _ _ _ _ (((w.alloc (.cells (ints .u64 x).toArray 86)).alloc (.cells (ints .u64 y).toArray 86)).alloc (.cells (ints .u64 (List.replicate 5 0)).toArray 86))
 generalize ((w.alloc (.cells (ints .u64 x).toArray 86)).alloc (.cells (ints .u64 y).toArray 86)).alloc (.cells (ints .u64 (List.replicate 5 0)).toArray 86) = wa at *
 obtain ⟨A, hA⟩ : ∃ A, A = w.heap.size := ⟨_, rfl⟩
 have HAW : Hid (w.heap.size ≤ A) := Lib.hid (by omega)
 rw [← hA] at H1 H2 H3 ⊢
 have H1 : Hid (Blk wa A (ints .u64 (sA x y 0)) 86) := Lib.hid H1
 have H2 := Lib.hid H2
 have H3 := Lib.hid H3
 have HE : Hid (Ext w wa) := Lib.hid HE
 clear hA HB
 go_wp2_with fail
 go_loopw [6] (fun iv wr => ∃ (k : Nat), k ≤ 5 ∧ iv = .int .i64 (k : Int) ∧ Blk wr A (ints .u64 (sA x y k)) 86 ∧ Blk wr (A + 1) (ints .u64 y) 86 ∧ Blk wr (A + 1 + 1) (ints .u64 (List.replicate 5 0)) 86 ∧ Ext w wr) (fun iv _ => 5 - (intOf iv).toNat)
 case atStart => exact ⟨0, by omega, rfl, H1.out, H2.out, H3.out, HE.out⟩
 case round =>
  clear H1 H2 H3 HE
  obtain ⟨k, hk, rfl, hb1, hb2, hb3, hbel⟩ := hrel
  have k0 : (0 : Int) ≤ (k : Int) := Int.natCast_nonneg _
  have H1 := Lib.hid hb1
  have H2 := Lib.hid hb2
  have H3 := Lib.hid hb3
  have HE := Lib.hid hbel
  by_cases hlk : k < 5
  ·have k1 : (k : Int) < 5 := by omega
   have q1 := digit_q hb1 (i := k) (by rw [sA_length, HX.out.len]; exact hlk)
   have q2 := digit_q hb2 (i := k) (by rw [HY.out.len]; exact hlk)
   have f1 := hb1.free k
   have hxa := HX.out.getD (by omega) k
   have hya := HY.out.getD (by omega) k
   rw [sA_getD x y k (by rw [HX.out.len]; exact hk) k, if_neg (Nat.lt_irrefl _)] at q1
   have HS : Hid (sA x y (k + 1) = (sA x y k).set k (x.getD k 0 + y.getD k 0)) := Lib.hid (by rw [sA, sA_getD x y k (by rw [HX.out.len]; exact hk) k, if_neg (Nat.lt_irrefl _)])
   clear hb1 hb2 hb3 hbel
   generalize x.getD k 0 = p at *
   generalize y.getD k 0 = q at *
   obtain ⟨p0, p1⟩ := hxa
   obtain ⟨r0, r1⟩ := hya
   go_wp2_with fail
   go_region
   go_wp2_with fail
   go_roundw
   case rel => exact ⟨k + 1, by omega, by go_num, by rw [HS.out]; exact (H1.out.seti k _).drewN 1, (H2.out.far (by simp) _).drewN 1, (H3.out.far (by simp; omega) _).drewN 1, Ext.trans (Below.setCell HE.out (by have := HAW.out; simp; omega) _) (Ext.drew _)⟩
   case measure => simp [intOf]; omega
  ·have hk5 : k = 5 := by omega
   subst hk5
   clear hb1 hb2 hb3 hbel
   have HL : Hid ((sA x y 5).length = 5) := Lib.hid (by rw [sA_length, HX.out.len])
   have HR : Hid (addL x y = sA x y 5) := Lib.hid rfl
   generalize sA x y 5 = s at *
   have HI : Hid ((Tryd.prog.info? 86).map (·.size) = some (ints .u64 s).length) := Lib.hid (lim_size HL.out)
   have HLz : Hid ((ints .u64 s).length = (ints .u64 (List.replicate 5 0)).length) := Lib.hid (by rw [ints_length, HL.out]; rfl)
   go_wp2_with (first | (refine wpList_load_blk rfl _ _ rfl A rfl _ _ _ _ H1.out Tryd.underlying86 HI.out ?_) | (refine wpList_store_blk rfl _ _ _ rfl (A + 1 + 1) (ints .u64 s) rfl rfl _ _ H3.out HLz.out HI.out (ints_one _ _) ?_; intro w5 hb5 hg5))
   refine bodyPost_ret (result_blk rfl _ (A + 1 + 1) _ _ _ _ rfl hb5 Tryd.underlying86 HI.out) rfl ?_
   exact ⟨by rw [HR.out], ext_grown HE.out hg5 (by have := HAW.out; omega)⟩
set_option maxRecDepth 100000 in
set_option maxHeartbeats 8000000 in
theorem psettled_any (x : List Int) (w : World) (hx : Lim 1152921504606846976 x) :
  Calls Tryd.prog 52 #[.agg (ints .u64 x).toArray] w fun e w' => e = .returned (.agg (ints .u64 (setL x)).toArray) ∧ Below w.heap.size w w' := by
 have HX := Lib.hid hx
 have HB := Lib.hid (boxes2 w (ints .u64 x) (ints .u64 (List.replicate 5 0)) 86 86)
 clear hx
 go_enter Tryd.func52, Tryd.ntmps52
 go_upto_region 1 with (fail)
 obtain ⟨H1, H2, HE⟩ := HB.out
 change Code.wp _ _ _ _ ((w.alloc (.cells (ints .u64 x).toArray 86)).alloc (.cells (ints .u64 (List.replicate 5 0)).toArray 86))
 generalize (w.alloc (.cells (ints .u64 x).toArray 86)).alloc (.cells (ints .u64 (List.replicate 5 0)).toArray 86) = wa at *
 obtain ⟨A, hA⟩ : ∃ A, A = w.heap.size := ⟨_, rfl⟩
 have HAW : Hid (w.heap.size ≤ A) := Lib.hid (by omega)
 rw [← hA] at H1 H2 ⊢
 have H1 : Hid (Blk wa A (ints .u64 (zRun x 0).1) 86) := Lib.hid H1
 have H2 := Lib.hid H2
 have HE : Hid (Ext w wa) := Lib.hid HE
 clear hA HB
 go_wp2_with fail
 go_loopw [3, 5] (fun cv iv wr => ∃ (k : Nat), k ≤ 5 ∧ cv = .int .u64 (zRun x k).2 ∧ iv = .int .i64 (k : Int) ∧ Blk wr A (ints .u64 (zRun x k).1) 86 ∧ Blk wr (A + 1) (ints .u64 (List.replicate 5 0)) 86 ∧ Ext w wr) (fun _ iv _ => 5 - (intOf iv).toNat)
 case atStart => exact ⟨0, by omega, rfl, rfl, H1.out, H2.out, HE.out⟩
 case round =>
  clear H1 H2 HE
  obtain ⟨k, hk, rfl, rfl, hb1, hb2, hbel⟩ := hrel
  have k0 : (0 : Int) ≤ (k : Int) := Int.natCast_nonneg _
  have H1 := Lib.hid hb1
  have H2 := Lib.hid hb2
  have HE := Lib.hid hbel
  by_cases hlk : k < 5
  ·have k1 : (k : Int) < 5 := by omega
   have q1 := digit_q hb1 (i := k) (by rw [zRun_length, HX.out.len]; exact hlk)
   have f1 := hb1.free k
   have hxa := HX.out.getD (by omega) k
   have hca := zRun_carry (M := 1152921504606846976) (by omega) x (HX.out.getD (by omega)) k
   rw [zRun_far x k k (Nat.le_refl _)] at q1
   have HS : Hid (zRun x (k + 1) = ((zRun x k).1.set k (((zRun x k).2 + x.getD k 0) % 67108864), ((zRun x k).2 + x.getD k 0) / 67108864)) := Lib.hid (by rw [zRun, zRun_far x k k (Nat.le_refl _)])
   clear hb1 hb2 hbel
   generalize x.getD k 0 = p at *
   generalize (zRun x k).2 = q at *
   obtain ⟨p0, p1⟩ := hxa
   obtain ⟨r0, r1⟩ := hca
   have m1 := mask26 (q + p) (by omega) (by omega)
   go_wp2_with fail
   go_roundw
   case rel => exact ⟨k + 1, by omega, by rw [HS.out], by go_num, by rw [HS.out]; exact H1.out.seti k _, H2.out.far (by simp) _, Below.setCell HE.out (by have := HAW.out; simp; omega) _⟩
   case measure => simp [intOf]; omega
  ·have hk5 : k = 5 := by omega
   subst hk5
   clear hb1 hb2 hbel
   have HL : Hid ((zRun x 5).1.length = 5) := Lib.hid (by rw [zRun_length, HX.out.len])
   have HR : Hid (setL x = (zRun x 5).1) := Lib.hid rfl
   generalize (zRun x 5).1 = s at *
   have HI : Hid ((Tryd.prog.info? 86).map (·.size) = some (ints .u64 s).length) := Lib.hid (lim_size HL.out)
   have HLz : Hid ((ints .u64 s).length = (ints .u64 (List.replicate 5 0)).length) := Lib.hid (by rw [ints_length, HL.out]; rfl)
   go_wp2_with (first | (refine wpList_load_blk rfl _ _ rfl A rfl _ _ _ _ H1.out Tryd.underlying86 HI.out ?_) | (refine wpList_store_blk rfl _ _ _ rfl (A + 1) (ints .u64 s) rfl rfl _ _ H2.out HLz.out HI.out (ints_one _ _) ?_; intro w5 hb5 hg5))
   refine bodyPost_ret (result_blk rfl _ (A + 1) _ _ _ _ rfl hb5 Tryd.underlying86 HI.out) rfl ?_
   exact ⟨by rw [HR.out], ext_grown HE.out hg5 (by have := HAW.out; omega)⟩
theorem Tryd.arr85 : (Tryd.prog.info? 85).map (·.size) = some 17 := by kernel_rfl
theorem blk_size17 {l : List Int} (h : l.length = 17) : (Tryd.prog.info? 85).map (·.size) = some (ints .u8 l).length := by rw [ints_length, h]; exact Tryd.arr85
theorem or4q {y0 y1 y2 y3 : Int} (h0 : 0 ≤ y0 ∧ y0 ≤ 255) (h1 : 0 ≤ y1 ∧ y1 ≤ 255) (h2 : 0 ≤ y2 ∧ y2 ≤ 255) (h3 : 0 ≤ y3 ∧ y3 ≤ 255) :
  bits .or .u64 (bits .or .u64 (bits .or .u64 y0 (y1 * 256)) (y2 * 65536)) (y3 * 16777216) = y0 + 256 * y1 + 65536 * y2 + 16777216 * y3 := by
 obtain ⟨x0, rfl⟩ : ∃ n : Nat, y0 = (n : Int) := ⟨y0.toNat, by omega⟩
 obtain ⟨x1, rfl⟩ : ∃ n : Nat, y1 = (n : Int) := ⟨y1.toNat, by omega⟩
 obtain ⟨x2, rfl⟩ : ∃ n : Nat, y2 = (n : Int) := ⟨y2.toNat, by omega⟩
 obtain ⟨x3, rfl⟩ : ∃ n : Nat, y3 = (n : Int) := ⟨y3.toNat, by omega⟩
 have a1 : (x1 : Int) * 256 = ((256 * x1 : Nat) : Int) := by omega
 have a2 : (x2 : Int) * 65536 = ((65536 * x2 : Nat) : Int) := by omega
 have a3 : (x3 : Int) * 16777216 = ((16777216 * x3 : Nat) : Int) := by omega
 have b1 : x0 ||| 256 * x1 = x0 + 256 * x1 := (Nat.or_comm _ _).trans ((or_sum 8 x0 x1 (by omega)).trans (Nat.add_comm _ _))
 have b2 : x0 + 256 * x1 ||| 65536 * x2 = x0 + 256 * x1 + 65536 * x2 := (Nat.or_comm _ _).trans ((or_sum 16 (x0 + 256 * x1) x2 (by omega)).trans (Nat.add_comm _ _))
 have b3 : x0 + 256 * x1 + 65536 * x2 ||| 16777216 * x3 = x0 + 256 * x1 + 65536 * x2 + 16777216 * x3 := (Nat.or_comm _ _).trans ((or_sum 24 (x0 + 256 * x1 + 65536 * x2) x3 (by omega)).trans (Nat.add_comm _ _))
 rw [a1, a2, a3, or64 _ _ (by omega) (by omega), b1, or64 _ _ (by omega) (by omega), b2, or64 _ _ (by omega) (by omega), b3]
 omega
set_option maxHeartbeats 2000000 in
/-- A word is read off four bytes of a block. -/
theorem pword_any (c off len cap : Nat) (zs : List Int) (t : TypeId) (w : World) (hb : Blk w c (ints .u8 zs) t) (hz : D17 zs) (hl : off + 4 ≤ 17) (h4 : 4 ≤ len) :
  Calls Tryd.prog 73 #[.slice (some ⟨c, off, none⟩) len cap] w fun e w' => e = .returned (.int .u64 (w4 zs off)) ∧ w' = w.drew := by
 have cc : ∀ j, j ≤ 3 → w.cell? ⟨c, off + j, none⟩ = some (.int .u8 (zs.getD (off + j) 0)) := fun j hj => digit_b hb (by have := hz.1; omega)
 have c0 := cc 0 (by omega)
 have c1 := cc 1 (by omega)
 have c2 := cc 2 (by omega)
 have c3 := cc 3 (by omega)
 simp only [Nat.add_zero] at c0
 have d0 := hz.2 off
 have d1 := hz.2 (off + 1)
 have d2 := hz.2 (off + 2)
 have d3 := hz.2 (off + 3)
 have HBE := Lib.hid (or4q d0 d1 d2 d3)
 have HW : Hid (w4 zs off = zs.getD off 0 + 256 * zs.getD (off + 1) 0 + 65536 * zs.getD (off + 2) 0 + 16777216 * zs.getD (off + 3) 0) := Lib.hid rfl
 generalize zs.getD off 0 = x0 at *
 generalize zs.getD (off + 1) 0 = x1 at *
 generalize zs.getD (off + 2) 0 = x2 at *
 generalize zs.getD (off + 3) 0 = x3 at *
 obtain ⟨d00, d01⟩ := d0
 obtain ⟨d10, d11⟩ := d1
 obtain ⟨d20, d21⟩ := d2
 obtain ⟨d30, d31⟩ := d3
 clear cc hb hl hz
 have i0 : (0 : Int) < (len : Int) ∧ (1 : Int) < (len : Int) ∧ (2 : Int) < (len : Int) ∧ (3 : Int) < (len : Int) := by omega
 obtain ⟨i0, i1, i2, i3⟩ := i0
 go_enter Tryd.func73, Tryd.ntmps73
 go_wp2_with fail
 go_region
 go_wp2_with fail
 go_ret
 exact ⟨by rw [HW.out, ← HBE.out]; rfl, rfl⟩
set_option maxRecDepth 100000 in
set_option maxHeartbeats 8000000 in
theorem plimbs_any (zs : List Int) (w : World) (hz : D17 zs) :
  Calls Tryd.prog 49 #[.agg (ints .u8 zs).toArray] w fun e w' => e = .returned (.agg (ints .u64 (limL zs)).toArray) ∧ Below w.heap.size w w' := by
 have HZ := Lib.hid hz
 have HB := Lib.hid (boxes3 w (ints .u8 zs) (ints .u64 (List.replicate 5 0)) (ints .u64 (List.replicate 5 0)) 85 86 86)
 clear hz
 go_enter Tryd.func49, Tryd.ntmps49
 go_upto_region 2 with (fail)
 obtain ⟨H1, H2, H3, HE⟩ := HB.out
 change Code.wp _ _ _ _ (((w.alloc (.cells (ints .u8 zs).toArray 85)).alloc (.cells (ints .u64 (List.replicate 5 0)).toArray 86)).alloc (.cells (ints .u64 (List.replicate 5 0)).toArray 86))
 generalize ((w.alloc (.cells (ints .u8 zs).toArray 85)).alloc (.cells (ints .u64 (List.replicate 5 0)).toArray 86)).alloc (.cells (ints .u64 (List.replicate 5 0)).toArray 86) = wa at *
 obtain ⟨A, hA⟩ : ∃ A, A = w.heap.size := ⟨_, rfl⟩
 have HAW : Hid (w.heap.size ≤ A) := Lib.hid (by omega)
 rw [← hA] at H1 H2 H3 ⊢
 have H1 := Lib.hid H1
 have H2 := Lib.hid H2
 have H3 : Hid (Blk wa (A + 1 + 1) (ints .u64 (lO zs 0)) 86) := Lib.hid H3
 have HE : Hid (Ext w wa) := Lib.hid HE
 clear hA HB
 go_wp2_with fail
 go_loopw [6] (fun iv wr => ∃ (k : Nat), k ≤ 5 ∧ iv = .int .i64 (k : Int) ∧ Blk wr A (ints .u8 zs) 85 ∧ Blk wr (A + 1) (ints .u64 (List.replicate 5 0)) 86 ∧ Blk wr (A + 1 + 1) (ints .u64 (lO zs k)) 86 ∧ Ext w wr) (fun iv _ => 5 - (intOf iv).toNat)
 case atStart => exact ⟨0, by omega, rfl, H1.out, H2.out, H3.out, HE.out⟩
 case round =>
  clear H1 H2 H3 HE
  obtain ⟨k, hk, rfl, hb1, hb2, hb3, hbel⟩ := hrel
  have k0 : (0 : Int) ≤ (k : Int) := Int.natCast_nonneg _
  have H1 := Lib.hid hb1
  have H2 := Lib.hid hb2
  have H3 := Lib.hid hb3
  have HE := Lib.hid hbel
  by_cases hlk : k < 5
  ·have k1 : (k : Int) < 5 := by omega
   obtain ⟨d, hd⟩ : ∃ d, d = 26 * k / 8 := ⟨_, rfl⟩
   obtain ⟨s, hs⟩ : ∃ s, s = 26 * k % 8 := ⟨_, rfl⟩
   have d1 : 26 * (k : Int) / 8 = (d : Int) := by omega
   have d2 : Int.tdiv (26 * (k : Int)) 8 = (d : Int) := by rw [Int.tdiv_eq_ediv_of_nonneg (by omega)]; exact d1
   have s1 : 26 * (k : Int) % 8 = (s : Int) := by omega
   have s2 : Int.tmod (26 * (k : Int)) 8 = (s : Int) := by rw [Int.tmod_eq_emod_of_nonneg (by omega)]; exact s1
   have s3 : (s : Int) < 64 := by omega
   have s4 : (0 : Int) ≤ (s : Int) := by omega
   have hcut := cut_from Tryd.underlying85 Tryd.sizeOf5 wr A d (by omega)
   have HW := Lib.hid (pword_any A d (17 - d) (17 - d) zs 85 wr hb1 HZ.out (by omega) (by omega))
   have HS : Hid (lO zs (k + 1) = (lO zs k).set k (w4 zs d / 2 ^ s % 67108864)) := Lib.hid (by rw [lO, hd, hs])
   have hwr : 0 ≤ w4 zs d ∧ w4 zs d ≤ 4294967295 := by
    have h0 := HZ.out.2 d
    have h1 := HZ.out.2 (d + 1)
    have h2 := HZ.out.2 (d + 2)
    have h3 := HZ.out.2 (d + 3)
    unfold w4
    omega
   have hdv : 0 ≤ w4 zs d / 2 ^ s ∧ w4 zs d / 2 ^ s ≤ 4294967295 := by
    have hp : (0 : Int) < 2 ^ s := Int.pow_pos (by omega)
    exact ⟨Int.ediv_nonneg hwr.1 (by omega), Int.le_trans (Int.ediv_le_self _ hwr.1) hwr.2⟩
   have m1 := mask26 (w4 zs d / 2 ^ s) hdv.1 (by omega)
   have f1 := hb3.free k
   have q3 := digit_q hb3 (i := k) (by rw [lO_length]; exact hlk)
   generalize (lO zs k).getD k 0 = old at q3
   clear hb1 hb2 hb3 hbel hd hs
   generalize w4 zs d = p at *
   obtain ⟨p0, p1⟩ := hwr
   go_wp2_with fail
   refine HW.out.mono ?_
   rintro e w5 ⟨rfl, rfl⟩
   go_wp2_with fail
   go_roundw
   case rel => exact ⟨k + 1, by omega, by go_num, (H1.out.drewN 1).far (by simp; omega) _, (H2.out.drewN 1).far (by simp) _, by rw [HS.out]; exact (H3.out.drewN 1).seti k _, Below.setCell (HE.out.trans (Ext.drew _)) (by have := HAW.out; simp; omega) _⟩
   case measure => simp [intOf]; omega
  ·have hk5 : k = 5 := by omega
   subst hk5
   clear hb1 hb2 hb3 hbel
   have HL : Hid ((lO zs 5).length = 5) := Lib.hid (lO_length zs 5)
   have HR : Hid (limL zs = lO zs 5) := Lib.hid rfl
   generalize lO zs 5 = s at *
   have HI : Hid ((Tryd.prog.info? 86).map (·.size) = some (ints .u64 s).length) := Lib.hid (lim_size HL.out)
   have HLz : Hid ((ints .u64 s).length = (ints .u64 (List.replicate 5 0)).length) := Lib.hid (by rw [ints_length, HL.out]; rfl)
   go_wp2_with (first | (refine wpList_load_blk rfl _ _ rfl (A + 1 + 1) rfl _ _ _ _ H3.out Tryd.underlying86 HI.out ?_) | (refine wpList_store_blk rfl _ _ _ rfl (A + 1) (ints .u64 s) rfl rfl _ _ H2.out HLz.out HI.out (ints_one _ _) ?_; intro w5 hb5 hg5))
   refine bodyPost_ret (result_blk rfl _ (A + 1) _ _ _ _ rfl hb5 Tryd.underlying86 HI.out) rfl ?_
   exact ⟨by rw [HR.out], ext_grown HE.out hg5 (by have := HAW.out; omega)⟩
theorem carL_len (a b c d e : Int) : (carL [a, b, c, d, e]).length = 5 := rfl
set_option maxRecDepth 100000 in
set_option maxHeartbeats 16000000 in
theorem ptimes_any (a b c d e f g h i j : Int) (ba : 0 ≤ a ∧ a ≤ 268435455) (bb : 0 ≤ b ∧ b ≤ 268435455) (bc : 0 ≤ c ∧ c ≤ 268435455) (bd : 0 ≤ d ∧ d ≤ 268435455) (be : 0 ≤ e ∧ e ≤ 268435455)
  (bf : 0 ≤ f ∧ f ≤ 67108863) (bg : 0 ≤ g ∧ g ≤ 67108863) (bh : 0 ≤ h ∧ h ≤ 67108863) (bi : 0 ≤ i ∧ i ≤ 67108863) (bj : 0 ≤ j ∧ j ≤ 67108863) (w : World) :
  Calls Tryd.prog 72 #[.agg (ints .u64 [a, b, c, d, e]).toArray, .agg (ints .u64 [f, g, h, i, j]).toArray] w fun x w' => x = .returned (.agg (ints .u64 (timL [a, b, c, d, e] [f, g, h, i, j])).toArray) ∧ Below w.heap.size w w' := by
 obtain ⟨v2, hv2⟩ : ∃ v, v = 5 * g := ⟨_, rfl⟩
 have bv2 : 0 ≤ v2 ∧ v2 ≤ 335544315 := by omega
 have Wv2 : Hid (IntKind.u64.wrap (5 * g) = v2) := Lib.hid (by rw [← hv2, IntKind.wrap_u64]; omega)
 obtain ⟨v5, hv5⟩ : ∃ v, v = 5 * h := ⟨_, rfl⟩
 have bv5 : 0 ≤ v5 ∧ v5 ≤ 335544315 := by omega
 have Wv5 : Hid (IntKind.u64.wrap (5 * h) = v5) := Lib.hid (by rw [← hv5, IntKind.wrap_u64]; omega)
 obtain ⟨v8, hv8⟩ : ∃ v, v = 5 * i := ⟨_, rfl⟩
 have bv8 : 0 ≤ v8 ∧ v8 ≤ 335544315 := by omega
 have Wv8 : Hid (IntKind.u64.wrap (5 * i) = v8) := Lib.hid (by rw [← hv8, IntKind.wrap_u64]; omega)
 obtain ⟨v11, hv11⟩ : ∃ v, v = 5 * j := ⟨_, rfl⟩
 have bv11 : 0 ≤ v11 ∧ v11 ≤ 335544315 := by omega
 have Wv11 : Hid (IntKind.u64.wrap (5 * j) = v11) := Lib.hid (by rw [← hv11, IntKind.wrap_u64]; omega)
 obtain ⟨v20, hv20⟩ : ∃ v, v = a * f := ⟨_, rfl⟩
 have bv20 : 0 ≤ v20 ∧ v20 ≤ 18014398173937665 := by rw [hv20]; have := mulB ba bf; omega
 have Wv20 : Hid (IntKind.u64.wrap (a * f) = v20) := Lib.hid (by rw [← hv20, IntKind.wrap_u64]; omega)
 obtain ⟨v24, hv24⟩ : ∃ v, v = b * v11 := ⟨_, rfl⟩
 have bv24 : 0 ≤ v24 ∧ v24 ≤ 90071990869688325 := by rw [hv24]; have := mulB bb bv11; omega
 have Wv24 : Hid (IntKind.u64.wrap (b * v11) = v24) := Lib.hid (by rw [← hv24, IntKind.wrap_u64]; omega)
 obtain ⟨v25, hv25⟩ : ∃ v, v = v20 + v24 := ⟨_, rfl⟩
 have bv25 : 0 ≤ v25 ∧ v25 ≤ 108086389043625990 := by omega
 have Wv25 : Hid (IntKind.u64.wrap (v20 + v24) = v25) := Lib.hid (by rw [← hv25, IntKind.wrap_u64]; omega)
 obtain ⟨v29, hv29⟩ : ∃ v, v = c * v8 := ⟨_, rfl⟩
 have bv29 : 0 ≤ v29 ∧ v29 ≤ 90071990869688325 := by rw [hv29]; have := mulB bc bv8; omega
 have Wv29 : Hid (IntKind.u64.wrap (c * v8) = v29) := Lib.hid (by rw [← hv29, IntKind.wrap_u64]; omega)
 obtain ⟨v30, hv30⟩ : ∃ v, v = v25 + v29 := ⟨_, rfl⟩
 have bv30 : 0 ≤ v30 ∧ v30 ≤ 198158379913314315 := by omega
 have Wv30 : Hid (IntKind.u64.wrap (v25 + v29) = v30) := Lib.hid (by rw [← hv30, IntKind.wrap_u64]; omega)
 obtain ⟨v34, hv34⟩ : ∃ v, v = d * v5 := ⟨_, rfl⟩
 have bv34 : 0 ≤ v34 ∧ v34 ≤ 90071990869688325 := by rw [hv34]; have := mulB bd bv5; omega
 have Wv34 : Hid (IntKind.u64.wrap (d * v5) = v34) := Lib.hid (by rw [← hv34, IntKind.wrap_u64]; omega)
 obtain ⟨v35, hv35⟩ : ∃ v, v = v30 + v34 := ⟨_, rfl⟩
 have bv35 : 0 ≤ v35 ∧ v35 ≤ 288230370783002640 := by omega
 have Wv35 : Hid (IntKind.u64.wrap (v30 + v34) = v35) := Lib.hid (by rw [← hv35, IntKind.wrap_u64]; omega)
 obtain ⟨v39, hv39⟩ : ∃ v, v = e * v2 := ⟨_, rfl⟩
 have bv39 : 0 ≤ v39 ∧ v39 ≤ 90071990869688325 := by rw [hv39]; have := mulB be bv2; omega
 have Wv39 : Hid (IntKind.u64.wrap (e * v2) = v39) := Lib.hid (by rw [← hv39, IntKind.wrap_u64]; omega)
 obtain ⟨v40, hv40⟩ : ∃ v, v = v35 + v39 := ⟨_, rfl⟩
 have bv40 : 0 ≤ v40 ∧ v40 ≤ 378302361652690965 := by omega
 have Wv40 : Hid (IntKind.u64.wrap (v35 + v39) = v40) := Lib.hid (by rw [← hv40, IntKind.wrap_u64]; omega)
 obtain ⟨v45, hv45⟩ : ∃ v, v = a * g := ⟨_, rfl⟩
 have bv45 : 0 ≤ v45 ∧ v45 ≤ 18014398173937665 := by rw [hv45]; have := mulB ba bg; omega
 have Wv45 : Hid (IntKind.u64.wrap (a * g) = v45) := Lib.hid (by rw [← hv45, IntKind.wrap_u64]; omega)
 obtain ⟨v50, hv50⟩ : ∃ v, v = b * f := ⟨_, rfl⟩
 have bv50 : 0 ≤ v50 ∧ v50 ≤ 18014398173937665 := by rw [hv50]; have := mulB bb bf; omega
 have Wv50 : Hid (IntKind.u64.wrap (b * f) = v50) := Lib.hid (by rw [← hv50, IntKind.wrap_u64]; omega)
 obtain ⟨v51, hv51⟩ : ∃ v, v = v45 + v50 := ⟨_, rfl⟩
 have bv51 : 0 ≤ v51 ∧ v51 ≤ 36028796347875330 := by omega
 have Wv51 : Hid (IntKind.u64.wrap (v45 + v50) = v51) := Lib.hid (by rw [← hv51, IntKind.wrap_u64]; omega)
 obtain ⟨v55, hv55⟩ : ∃ v, v = c * v11 := ⟨_, rfl⟩
 have bv55 : 0 ≤ v55 ∧ v55 ≤ 90071990869688325 := by rw [hv55]; have := mulB bc bv11; omega
 have Wv55 : Hid (IntKind.u64.wrap (c * v11) = v55) := Lib.hid (by rw [← hv55, IntKind.wrap_u64]; omega)
 obtain ⟨v56, hv56⟩ : ∃ v, v = v51 + v55 := ⟨_, rfl⟩
 have bv56 : 0 ≤ v56 ∧ v56 ≤ 126100787217563655 := by omega
 have Wv56 : Hid (IntKind.u64.wrap (v51 + v55) = v56) := Lib.hid (by rw [← hv56, IntKind.wrap_u64]; omega)
 obtain ⟨v60, hv60⟩ : ∃ v, v = d * v8 := ⟨_, rfl⟩
 have bv60 : 0 ≤ v60 ∧ v60 ≤ 90071990869688325 := by rw [hv60]; have := mulB bd bv8; omega
 have Wv60 : Hid (IntKind.u64.wrap (d * v8) = v60) := Lib.hid (by rw [← hv60, IntKind.wrap_u64]; omega)
 obtain ⟨v61, hv61⟩ : ∃ v, v = v56 + v60 := ⟨_, rfl⟩
 have bv61 : 0 ≤ v61 ∧ v61 ≤ 216172778087251980 := by omega
 have Wv61 : Hid (IntKind.u64.wrap (v56 + v60) = v61) := Lib.hid (by rw [← hv61, IntKind.wrap_u64]; omega)
 obtain ⟨v65, hv65⟩ : ∃ v, v = e * v5 := ⟨_, rfl⟩
 have bv65 : 0 ≤ v65 ∧ v65 ≤ 90071990869688325 := by rw [hv65]; have := mulB be bv5; omega
 have Wv65 : Hid (IntKind.u64.wrap (e * v5) = v65) := Lib.hid (by rw [← hv65, IntKind.wrap_u64]; omega)
 obtain ⟨v66, hv66⟩ : ∃ v, v = v61 + v65 := ⟨_, rfl⟩
 have bv66 : 0 ≤ v66 ∧ v66 ≤ 306244768956940305 := by omega
 have Wv66 : Hid (IntKind.u64.wrap (v61 + v65) = v66) := Lib.hid (by rw [← hv66, IntKind.wrap_u64]; omega)
 obtain ⟨v71, hv71⟩ : ∃ v, v = a * h := ⟨_, rfl⟩
 have bv71 : 0 ≤ v71 ∧ v71 ≤ 18014398173937665 := by rw [hv71]; have := mulB ba bh; omega
 have Wv71 : Hid (IntKind.u64.wrap (a * h) = v71) := Lib.hid (by rw [← hv71, IntKind.wrap_u64]; omega)
 obtain ⟨v76, hv76⟩ : ∃ v, v = b * g := ⟨_, rfl⟩
 have bv76 : 0 ≤ v76 ∧ v76 ≤ 18014398173937665 := by rw [hv76]; have := mulB bb bg; omega
 have Wv76 : Hid (IntKind.u64.wrap (b * g) = v76) := Lib.hid (by rw [← hv76, IntKind.wrap_u64]; omega)
 obtain ⟨v77, hv77⟩ : ∃ v, v = v71 + v76 := ⟨_, rfl⟩
 have bv77 : 0 ≤ v77 ∧ v77 ≤ 36028796347875330 := by omega
 have Wv77 : Hid (IntKind.u64.wrap (v71 + v76) = v77) := Lib.hid (by rw [← hv77, IntKind.wrap_u64]; omega)
 obtain ⟨v82, hv82⟩ : ∃ v, v = c * f := ⟨_, rfl⟩
 have bv82 : 0 ≤ v82 ∧ v82 ≤ 18014398173937665 := by rw [hv82]; have := mulB bc bf; omega
 have Wv82 : Hid (IntKind.u64.wrap (c * f) = v82) := Lib.hid (by rw [← hv82, IntKind.wrap_u64]; omega)
 obtain ⟨v83, hv83⟩ : ∃ v, v = v77 + v82 := ⟨_, rfl⟩
 have bv83 : 0 ≤ v83 ∧ v83 ≤ 54043194521812995 := by omega
 have Wv83 : Hid (IntKind.u64.wrap (v77 + v82) = v83) := Lib.hid (by rw [← hv83, IntKind.wrap_u64]; omega)
 obtain ⟨v87, hv87⟩ : ∃ v, v = d * v11 := ⟨_, rfl⟩
 have bv87 : 0 ≤ v87 ∧ v87 ≤ 90071990869688325 := by rw [hv87]; have := mulB bd bv11; omega
 have Wv87 : Hid (IntKind.u64.wrap (d * v11) = v87) := Lib.hid (by rw [← hv87, IntKind.wrap_u64]; omega)
 obtain ⟨v88, hv88⟩ : ∃ v, v = v83 + v87 := ⟨_, rfl⟩
 have bv88 : 0 ≤ v88 ∧ v88 ≤ 144115185391501320 := by omega
 have Wv88 : Hid (IntKind.u64.wrap (v83 + v87) = v88) := Lib.hid (by rw [← hv88, IntKind.wrap_u64]; omega)
 obtain ⟨v92, hv92⟩ : ∃ v, v = e * v8 := ⟨_, rfl⟩
 have bv92 : 0 ≤ v92 ∧ v92 ≤ 90071990869688325 := by rw [hv92]; have := mulB be bv8; omega
 have Wv92 : Hid (IntKind.u64.wrap (e * v8) = v92) := Lib.hid (by rw [← hv92, IntKind.wrap_u64]; omega)
 obtain ⟨v93, hv93⟩ : ∃ v, v = v88 + v92 := ⟨_, rfl⟩
 have bv93 : 0 ≤ v93 ∧ v93 ≤ 234187176261189645 := by omega
 have Wv93 : Hid (IntKind.u64.wrap (v88 + v92) = v93) := Lib.hid (by rw [← hv93, IntKind.wrap_u64]; omega)
 obtain ⟨v98, hv98⟩ : ∃ v, v = a * i := ⟨_, rfl⟩
 have bv98 : 0 ≤ v98 ∧ v98 ≤ 18014398173937665 := by rw [hv98]; have := mulB ba bi; omega
 have Wv98 : Hid (IntKind.u64.wrap (a * i) = v98) := Lib.hid (by rw [← hv98, IntKind.wrap_u64]; omega)
 obtain ⟨v103, hv103⟩ : ∃ v, v = b * h := ⟨_, rfl⟩
 have bv103 : 0 ≤ v103 ∧ v103 ≤ 18014398173937665 := by rw [hv103]; have := mulB bb bh; omega
 have Wv103 : Hid (IntKind.u64.wrap (b * h) = v103) := Lib.hid (by rw [← hv103, IntKind.wrap_u64]; omega)
 obtain ⟨v104, hv104⟩ : ∃ v, v = v98 + v103 := ⟨_, rfl⟩
 have bv104 : 0 ≤ v104 ∧ v104 ≤ 36028796347875330 := by omega
 have Wv104 : Hid (IntKind.u64.wrap (v98 + v103) = v104) := Lib.hid (by rw [← hv104, IntKind.wrap_u64]; omega)
 obtain ⟨v109, hv109⟩ : ∃ v, v = c * g := ⟨_, rfl⟩
 have bv109 : 0 ≤ v109 ∧ v109 ≤ 18014398173937665 := by rw [hv109]; have := mulB bc bg; omega
 have Wv109 : Hid (IntKind.u64.wrap (c * g) = v109) := Lib.hid (by rw [← hv109, IntKind.wrap_u64]; omega)
 obtain ⟨v110, hv110⟩ : ∃ v, v = v104 + v109 := ⟨_, rfl⟩
 have bv110 : 0 ≤ v110 ∧ v110 ≤ 54043194521812995 := by omega
 have Wv110 : Hid (IntKind.u64.wrap (v104 + v109) = v110) := Lib.hid (by rw [← hv110, IntKind.wrap_u64]; omega)
 obtain ⟨v115, hv115⟩ : ∃ v, v = d * f := ⟨_, rfl⟩
 have bv115 : 0 ≤ v115 ∧ v115 ≤ 18014398173937665 := by rw [hv115]; have := mulB bd bf; omega
 have Wv115 : Hid (IntKind.u64.wrap (d * f) = v115) := Lib.hid (by rw [← hv115, IntKind.wrap_u64]; omega)
 obtain ⟨v116, hv116⟩ : ∃ v, v = v110 + v115 := ⟨_, rfl⟩
 have bv116 : 0 ≤ v116 ∧ v116 ≤ 72057592695750660 := by omega
 have Wv116 : Hid (IntKind.u64.wrap (v110 + v115) = v116) := Lib.hid (by rw [← hv116, IntKind.wrap_u64]; omega)
 obtain ⟨v120, hv120⟩ : ∃ v, v = e * v11 := ⟨_, rfl⟩
 have bv120 : 0 ≤ v120 ∧ v120 ≤ 90071990869688325 := by rw [hv120]; have := mulB be bv11; omega
 have Wv120 : Hid (IntKind.u64.wrap (e * v11) = v120) := Lib.hid (by rw [← hv120, IntKind.wrap_u64]; omega)
 obtain ⟨v121, hv121⟩ : ∃ v, v = v116 + v120 := ⟨_, rfl⟩
 have bv121 : 0 ≤ v121 ∧ v121 ≤ 162129583565438985 := by omega
 have Wv121 : Hid (IntKind.u64.wrap (v116 + v120) = v121) := Lib.hid (by rw [← hv121, IntKind.wrap_u64]; omega)
 obtain ⟨v126, hv126⟩ : ∃ v, v = a * j := ⟨_, rfl⟩
 have bv126 : 0 ≤ v126 ∧ v126 ≤ 18014398173937665 := by rw [hv126]; have := mulB ba bj; omega
 have Wv126 : Hid (IntKind.u64.wrap (a * j) = v126) := Lib.hid (by rw [← hv126, IntKind.wrap_u64]; omega)
 obtain ⟨v131, hv131⟩ : ∃ v, v = b * i := ⟨_, rfl⟩
 have bv131 : 0 ≤ v131 ∧ v131 ≤ 18014398173937665 := by rw [hv131]; have := mulB bb bi; omega
 have Wv131 : Hid (IntKind.u64.wrap (b * i) = v131) := Lib.hid (by rw [← hv131, IntKind.wrap_u64]; omega)
 obtain ⟨v132, hv132⟩ : ∃ v, v = v126 + v131 := ⟨_, rfl⟩
 have bv132 : 0 ≤ v132 ∧ v132 ≤ 36028796347875330 := by omega
 have Wv132 : Hid (IntKind.u64.wrap (v126 + v131) = v132) := Lib.hid (by rw [← hv132, IntKind.wrap_u64]; omega)
 obtain ⟨v137, hv137⟩ : ∃ v, v = c * h := ⟨_, rfl⟩
 have bv137 : 0 ≤ v137 ∧ v137 ≤ 18014398173937665 := by rw [hv137]; have := mulB bc bh; omega
 have Wv137 : Hid (IntKind.u64.wrap (c * h) = v137) := Lib.hid (by rw [← hv137, IntKind.wrap_u64]; omega)
 obtain ⟨v138, hv138⟩ : ∃ v, v = v132 + v137 := ⟨_, rfl⟩
 have bv138 : 0 ≤ v138 ∧ v138 ≤ 54043194521812995 := by omega
 have Wv138 : Hid (IntKind.u64.wrap (v132 + v137) = v138) := Lib.hid (by rw [← hv138, IntKind.wrap_u64]; omega)
 obtain ⟨v143, hv143⟩ : ∃ v, v = d * g := ⟨_, rfl⟩
 have bv143 : 0 ≤ v143 ∧ v143 ≤ 18014398173937665 := by rw [hv143]; have := mulB bd bg; omega
 have Wv143 : Hid (IntKind.u64.wrap (d * g) = v143) := Lib.hid (by rw [← hv143, IntKind.wrap_u64]; omega)
 obtain ⟨v144, hv144⟩ : ∃ v, v = v138 + v143 := ⟨_, rfl⟩
 have bv144 : 0 ≤ v144 ∧ v144 ≤ 72057592695750660 := by omega
 have Wv144 : Hid (IntKind.u64.wrap (v138 + v143) = v144) := Lib.hid (by rw [← hv144, IntKind.wrap_u64]; omega)
 obtain ⟨v149, hv149⟩ : ∃ v, v = e * f := ⟨_, rfl⟩
 have bv149 : 0 ≤ v149 ∧ v149 ≤ 18014398173937665 := by rw [hv149]; have := mulB be bf; omega
 have Wv149 : Hid (IntKind.u64.wrap (e * f) = v149) := Lib.hid (by rw [← hv149, IntKind.wrap_u64]; omega)
 obtain ⟨v150, hv150⟩ : ∃ v, v = v144 + v149 := ⟨_, rfl⟩
 have bv150 : 0 ≤ v150 ∧ v150 ≤ 90071990869688325 := by omega
 have Wv150 : Hid (IntKind.u64.wrap (v144 + v149) = v150) := Lib.hid (by rw [← hv150, IntKind.wrap_u64]; omega)
 have HT : Hid (timL [a, b, c, d, e] [f, g, h, i, j] = carL [v40, v66, v93, v121, v150]) := Lib.hid (by subst hv150 hv149 hv144 hv143 hv138 hv137 hv132 hv131 hv126 hv121 hv120 hv116 hv115 hv110 hv109 hv104 hv103 hv98 hv93 hv92 hv88 hv87 hv83 hv82 hv77 hv76 hv71 hv66 hv65 hv61 hv60 hv56 hv55 hv51 hv50 hv45 hv40 hv39 hv35 hv34 hv30 hv29 hv25 hv24 hv20 hv11 hv8 hv5 hv2; rfl)
 have HC := Lib.hid (pcarried_any v40 v66 v93 v121 v150 (by omega) (by omega) (by omega) (by omega) (by omega))
 have HLn := Lib.hid (carL_len v40 v66 v93 v121 v150)
 rw [HT.out]
 generalize carL [v40, v66, v93, v121, v150] = C at *
 have HB := Lib.hid (boxes3 w (ints .u64 [a, b, c, d, e]) (ints .u64 [f, g, h, i, j]) (ints .u64 [0, 0, 0, 0, 0]) 86 86 86)
 clear ba bb bc bd be bf bg bh bi bj HT hv2 bv2 hv5 bv5 hv8 bv8 hv11 bv11 hv20 bv20 hv24 bv24 hv25 bv25 hv29 bv29 hv30 bv30 hv34 bv34 hv35 bv35 hv39 bv39 hv40 bv40 hv45 bv45 hv50 bv50 hv51 bv51 hv55 bv55 hv56 bv56 hv60 bv60 hv61 bv61 hv65 bv65 hv66 bv66 hv71 bv71 hv76 bv76 hv77 bv77 hv82 bv82 hv83 bv83 hv87 bv87 hv88 bv88 hv92 bv92 hv93 bv93 hv98 bv98 hv103 bv103 hv104 bv104 hv109 bv109 hv110 bv110 hv115 bv115 hv116 bv116 hv120 bv120 hv121 bv121 hv126 bv126 hv131 bv131 hv132 bv132 hv137 bv137 hv138 bv138 hv143 bv143 hv144 bv144 hv149 bv149 hv150 bv150
 go_enter Tryd.func72, Tryd.ntmps72
 go_upto_region 1 with (fail)
 obtain ⟨H1, H2, H3, HE⟩ := HB.out
 change Code.wp _ _ _ _ (((w.alloc (.cells (ints .u64 [a, b, c, d, e]).toArray 86)).alloc (.cells (ints .u64 [f, g, h, i, j]).toArray 86)).alloc (.cells (ints .u64 [0, 0, 0, 0, 0]).toArray 86))
 generalize ((w.alloc (.cells (ints .u64 [a, b, c, d, e]).toArray 86)).alloc (.cells (ints .u64 [f, g, h, i, j]).toArray 86)).alloc (.cells (ints .u64 [0, 0, 0, 0, 0]).toArray 86) = wa at *
 obtain ⟨A, hA⟩ : ∃ A, A = w.heap.size := ⟨_, rfl⟩
 have HAW : Hid (w.heap.size ≤ A) := Lib.hid (by omega)
 rw [← hA] at H1 H2 H3 ⊢
 have H1 := Lib.hid H1
 have H2 := Lib.hid H2
 have H3 := Lib.hid H3
 have HE : Hid (Ext w wa) := Lib.hid HE
 clear hA HB
 refine wp_region_from 16 0 16 rfl (by kernel_rfl) (by kernel_rfl) (fun d v c a w h => by cases d <;> exact h) (by kernel_rfl) ?_
 refine det_index _ _ _ _ (A + 1) 5 1 (by rfl) rfl rfl rfl Tryd.underlying86 (by omega) (Tryd.sizeOf69) ?_
 simp only [Act.put, nrm]
 refine det_cell _ _ (A + 1) 1 (.int .u64 g) (by rfl) rfl rfl (fun w hw => (ext_blk H2.out hw).cell 1) (Tryd.isAgg69) ?_
 simp only [Act.put, nrm]
 refine det_mul _ _ _ _ _ _ _ v2 (by rfl) rfl rfl rfl Wv2.out ?_
 simp only [Act.put, nrm]
 refine det_index _ _ _ _ (A + 1) 5 2 (by rfl) rfl rfl rfl Tryd.underlying86 (by omega) (Tryd.sizeOf69) ?_
 simp only [Act.put, nrm]
 refine det_cell _ _ (A + 1) 2 (.int .u64 h) (by rfl) rfl rfl (fun w hw => (ext_blk H2.out hw).cell 2) (Tryd.isAgg69) ?_
 simp only [Act.put, nrm]
 refine det_mul _ _ _ _ _ _ _ v5 (by rfl) rfl rfl rfl Wv5.out ?_
 simp only [Act.put, nrm]
 refine det_index _ _ _ _ (A + 1) 5 3 (by rfl) rfl rfl rfl Tryd.underlying86 (by omega) (Tryd.sizeOf69) ?_
 simp only [Act.put, nrm]
 refine det_cell _ _ (A + 1) 3 (.int .u64 i) (by rfl) rfl rfl (fun w hw => (ext_blk H2.out hw).cell 3) (Tryd.isAgg69) ?_
 simp only [Act.put, nrm]
 refine det_mul _ _ _ _ _ _ _ v8 (by rfl) rfl rfl rfl Wv8.out ?_
 simp only [Act.put, nrm]
 refine det_index _ _ _ _ (A + 1) 5 4 (by rfl) rfl rfl rfl Tryd.underlying86 (by omega) (Tryd.sizeOf69) ?_
 simp only [Act.put, nrm]
 refine det_cell _ _ (A + 1) 4 (.int .u64 j) (by rfl) rfl rfl (fun w hw => (ext_blk H2.out hw).cell 4) (Tryd.isAgg69) ?_
 simp only [Act.put, nrm]
 refine det_mul _ _ _ _ _ _ _ v11 (by rfl) rfl rfl rfl Wv11.out ?_
 simp only [Act.put, nrm]
 refine det_assign _ (.int .u64 v2) (by rfl) rfl rfl ?_
 simp only [Act.put, nrm]
 refine det_assign _ (.int .u64 v5) (by rfl) rfl rfl ?_
 simp only [Act.put, nrm]
 refine det_assign _ (.int .u64 v8) (by rfl) rfl rfl ?_
 simp only [Act.put, nrm]
 refine det_assign _ (.int .u64 v11) (by rfl) rfl rfl ?_
 simp only [Act.put, nrm]
 refine det_nil (end_none (by kernel_rfl) (fun w1 hw1 => ?_))
 have H1 := Lib.hid (ext_blk H1.out hw1)
 have H2 := Lib.hid (ext_blk H2.out hw1)
 have H3 := Lib.hid (ext_blk H3.out hw1)
 have HE := Lib.hid (HE.out.trans hw1)
 clear hw1
 have qx0 := H1.out.cell 0
 have qy0 := H2.out.cell 0
 have qx1 := H1.out.cell 1
 have qy1 := H2.out.cell 1
 have qx2 := H1.out.cell 2
 have qy2 := H2.out.cell 2
 have qx3 := H1.out.cell 3
 have qy3 := H2.out.cell 3
 have qx4 := H1.out.cell 4
 have qy4 := H2.out.cell 4
 simp only [ints, List.map_cons, List.map_nil, List.getElem?_cons_zero, List.getElem?_cons_succ] at qx0 qy0 qx1 qy1 qx2 qy2 qx3 qy3 qx4 qy4
 have Tv20 := Wv20.out
 have Uv20 := Tv20
 rw [IntKind.wrap_u64] at Uv20
 have Tv24 := Wv24.out
 have Uv24 := Tv24
 rw [IntKind.wrap_u64] at Uv24
 have Tv25 := Wv25.out
 have Uv25 := Tv25
 rw [IntKind.wrap_u64] at Uv25
 have Tv29 := Wv29.out
 have Uv29 := Tv29
 rw [IntKind.wrap_u64] at Uv29
 have Tv30 := Wv30.out
 have Uv30 := Tv30
 rw [IntKind.wrap_u64] at Uv30
 have Tv34 := Wv34.out
 have Uv34 := Tv34
 rw [IntKind.wrap_u64] at Uv34
 have Tv35 := Wv35.out
 have Uv35 := Tv35
 rw [IntKind.wrap_u64] at Uv35
 have Tv39 := Wv39.out
 have Uv39 := Tv39
 rw [IntKind.wrap_u64] at Uv39
 have Tv40 := Wv40.out
 have Uv40 := Tv40
 rw [IntKind.wrap_u64] at Uv40
 have Tv45 := Wv45.out
 have Uv45 := Tv45
 rw [IntKind.wrap_u64] at Uv45
 have Tv50 := Wv50.out
 have Uv50 := Tv50
 rw [IntKind.wrap_u64] at Uv50
 have Tv51 := Wv51.out
 have Uv51 := Tv51
 rw [IntKind.wrap_u64] at Uv51
 have Tv55 := Wv55.out
 have Uv55 := Tv55
 rw [IntKind.wrap_u64] at Uv55
 have Tv56 := Wv56.out
 have Uv56 := Tv56
 rw [IntKind.wrap_u64] at Uv56
 have Tv60 := Wv60.out
 have Uv60 := Tv60
 rw [IntKind.wrap_u64] at Uv60
 have Tv61 := Wv61.out
 have Uv61 := Tv61
 rw [IntKind.wrap_u64] at Uv61
 have Tv65 := Wv65.out
 have Uv65 := Tv65
 rw [IntKind.wrap_u64] at Uv65
 have Tv66 := Wv66.out
 have Uv66 := Tv66
 rw [IntKind.wrap_u64] at Uv66
 have Tv71 := Wv71.out
 have Uv71 := Tv71
 rw [IntKind.wrap_u64] at Uv71
 have Tv76 := Wv76.out
 have Uv76 := Tv76
 rw [IntKind.wrap_u64] at Uv76
 have Tv77 := Wv77.out
 have Uv77 := Tv77
 rw [IntKind.wrap_u64] at Uv77
 have Tv82 := Wv82.out
 have Uv82 := Tv82
 rw [IntKind.wrap_u64] at Uv82
 have Tv83 := Wv83.out
 have Uv83 := Tv83
 rw [IntKind.wrap_u64] at Uv83
 have Tv87 := Wv87.out
 have Uv87 := Tv87
 rw [IntKind.wrap_u64] at Uv87
 have Tv88 := Wv88.out
 have Uv88 := Tv88
 rw [IntKind.wrap_u64] at Uv88
 have Tv92 := Wv92.out
 have Uv92 := Tv92
 rw [IntKind.wrap_u64] at Uv92
 have Tv93 := Wv93.out
 have Uv93 := Tv93
 rw [IntKind.wrap_u64] at Uv93
 have Tv98 := Wv98.out
 have Uv98 := Tv98
 rw [IntKind.wrap_u64] at Uv98
 have Tv103 := Wv103.out
 have Uv103 := Tv103
 rw [IntKind.wrap_u64] at Uv103
 have Tv104 := Wv104.out
 have Uv104 := Tv104
 rw [IntKind.wrap_u64] at Uv104
 have Tv109 := Wv109.out
 have Uv109 := Tv109
 rw [IntKind.wrap_u64] at Uv109
 have Tv110 := Wv110.out
 have Uv110 := Tv110
 rw [IntKind.wrap_u64] at Uv110
 have Tv115 := Wv115.out
 have Uv115 := Tv115
 rw [IntKind.wrap_u64] at Uv115
 have Tv116 := Wv116.out
 have Uv116 := Tv116
 rw [IntKind.wrap_u64] at Uv116
 have Tv120 := Wv120.out
 have Uv120 := Tv120
 rw [IntKind.wrap_u64] at Uv120
 have Tv121 := Wv121.out
 have Uv121 := Tv121
 rw [IntKind.wrap_u64] at Uv121
 have Tv126 := Wv126.out
 have Uv126 := Tv126
 rw [IntKind.wrap_u64] at Uv126
 have Tv131 := Wv131.out
 have Uv131 := Tv131
 rw [IntKind.wrap_u64] at Uv131
 have Tv132 := Wv132.out
 have Uv132 := Tv132
 rw [IntKind.wrap_u64] at Uv132
 have Tv137 := Wv137.out
 have Uv137 := Tv137
 rw [IntKind.wrap_u64] at Uv137
 have Tv138 := Wv138.out
 have Uv138 := Tv138
 rw [IntKind.wrap_u64] at Uv138
 have Tv143 := Wv143.out
 have Uv143 := Tv143
 rw [IntKind.wrap_u64] at Uv143
 have Tv144 := Wv144.out
 have Uv144 := Tv144
 rw [IntKind.wrap_u64] at Uv144
 have Tv149 := Wv149.out
 have Uv149 := Tv149
 rw [IntKind.wrap_u64] at Uv149
 have Tv150 := Wv150.out
 have Uv150 := Tv150
 rw [IntKind.wrap_u64] at Uv150
 go_wp2_with fail
 refine (HC.out _).mono ?_
 rintro x w2 ⟨rfl, hb⟩
 have H3 := Lib.hid (ext_blk H3.out hb)
 have HE := Lib.hid (HE.out.trans hb)
 clear hb
 have HI : Hid ((Tryd.prog.info? 86).map (·.size) = some (ints .u64 C).length) := Lib.hid (lim_size HLn.out)
 have HLz : Hid ((ints .u64 C).length = (ints .u64 [0, 0, 0, 0, 0]).length) := Lib.hid (by rw [ints_length, HLn.out]; rfl)
 go_wp2_with (refine wpList_store_blk rfl _ _ _ rfl (A + 1 + 1) (ints .u64 C) rfl rfl _ _ H3.out HLz.out HI.out (ints_one _ _) ?_; intro w5 hb5 hg5)
 refine bodyPost_ret (result_blk rfl _ (A + 1 + 1) _ _ _ _ rfl hb5 Tryd.underlying86 HI.out) rfl ?_
 exact ⟨rfl, ext_grown HE.out hg5 (by have := HAW.out; omega)⟩
theorem cut_end {P : Program} {t : TypeId} {n : Nat} {e : TypeId} (ht : P.underlying t = some (.array n e)) (h : ∀ w, (sizeOf e).run P w = .ok 1 w) (w : World) (A p : Nat) (hp : p ≤ n) :
  ∃ o, o + (n - p) ≤ n ∧ (p < n → o = p) ∧ (Instr.sliceAt t (.pointer (some ⟨A, 0, none⟩)) (some (.int .i64 (p : Int))) none none).run P w = .ok (.slice (some ⟨A, o, none⟩) (n - p) (n - p)) w := by
 have e1 : P.arrayLen t = n := by unfold Program.arrayLen; rw [ht]
 have e2 : P.elem t = e := by unfold Program.elem; rw [ht]
 have hr := run_sliceAt_array_l w t ⟨A, 0, none⟩ (by rw [e1, e2]; exact ht) .i64 (p : Int) (by omega) (by rw [e1]; omega)
 rw [e2, h, e1] at hr
 by_cases hpn : n = p
 ·refine ⟨0, by omega, by omega, ?_⟩
  rw [hr]
  simp [slicedAt, hpn]
 ·refine ⟨p, by omega, fun _ => rfl, ?_⟩
  rw [hr]
  simp [slicedAt, Addr.add, hpn]
  exact fun h => h.symm
theorem laid_one (c l : List UInt8) (f o : Nat) (hf : c.length = f) (h16 : f ≤ 16) (hl : l.length = 17) (ho : f + 1 < 17 → o = f + 1) :
  laid (((c ++ l.drop f).map bval).set f (.int .u8 1)) o (List.replicate (16 - f) (.int .u8 0)) = (onB c).map bval := by
 have e0 : (Value.int .u8 1) = bval 1 := rfl
 have e1 : (c ++ l.drop f).set f 1 = c ++ [1] ++ l.drop (f + 1) := by
  rw [List.set_append_right _ _ (by omega), hf, Nat.sub_self, List.append_assoc]
  congr 1
  rw [List.drop_eq_getElem_cons (by omega), List.set_cons_zero]
  rfl
 have e2 : (List.replicate (16 - f) (Value.int .u8 0)) = (List.replicate (16 - f) (0 : UInt8)).map bval := by rw [List.map_replicate]; rfl
 rw [e0, ← List.map_set, e1, e2]
 unfold onB
 rw [hf]
 by_cases h : f + 1 < 17
 ·rw [ho h, List.map_append]
  have h3 : f + 1 = ((c ++ [1]).map bval).length := by simp; omega
  have h4 := laid_append ((List.replicate (16 - f) (0 : UInt8)).map bval) ((c ++ [1]).map bval) ((l.drop (f + 1)).map bval) (by simp; omega)
  rw [← h3] at h4
  rw [h4, ← List.map_append]
  simp
 ·have h3 : f = 16 := by omega
  subst h3
  simp [laid, hl]
theorem fL_near {R : List Int} (hR : Lim 67108863 R) (m : List UInt8) : ∀ n, Near (fL R m n)
 | 0 => Near.zero
 | n + 1 => by
  have a := addL_val (fL_near hR m n).lim (blk_lim m n).1
  exact (timL_val (a.1.up (by omega)) hR).1
theorem ptimesL_any {x y : List Int} (hx : Lim 268435455 x) (hy : Lim 67108863 y) (w : World) :
  Calls Tryd.prog 72 #[.agg (ints .u64 x).toArray, .agg (ints .u64 y).toArray] w fun e w' => e = .returned (.agg (ints .u64 (timL x y)).toArray) ∧ Below w.heap.size w w' := by
 obtain ⟨a, b, c, d, e, rfl, h1, h2, h3, h4, h5⟩ := hx
 obtain ⟨f, g, h, i, j, rfl, k1, k2, k3, k4, k5⟩ := hy
 exact ptimes_any a b c d e f g h i j h1 h2 h3 h4 h5 k1 k2 k3 k4 k5 w
theorem rowB_any {w : World} {v : Value} {ls : List (List UInt8)} (h : RowB w v ls) : ∃ a cap, v = .slice a ls.length cap := by
 obtain ⟨a, cap, rfl, _⟩ := rowB_form h
 exact ⟨a, cap, rfl⟩
structure PlySt (w0 w : World) (A B : Nat) (R : List Int) (m : List UInt8) (n : Nat) (c l : List UInt8) : Prop where
 all : l.length = 17
 piece : c = (m.drop (16 * n)).take 16
 few : n ≤ (m.length + 15) / 16
 msg : MsgSt w0 w A ((m.drop (16 * n)).drop 16)
 blkR : Blk w (A + 1) (ints .u64 R) 86
 blkZ : Blk w (A + 1 + 1) (ints .u64 (List.replicate 5 0)) 86
 blkS : Blk w (A + 1 + 1 + 1) (ints .u64 (fL R m n)) 86
 blkX : Blk w B ((c ++ l.drop c.length).map bval) 85
set_option maxRecDepth 100000 in
set_option maxHeartbeats 8000000 in
theorem pfolded_any (v : Value) (ls : List (List UInt8)) (R : List Int) (w0 w : World) (hv : RowB w0 v ls) (he0 : Ext w0 w) (hR : Lim 67108863 R) (hm : ls.flatten.length ≤ 1099511627776) :
  Calls Tryd.prog 47 #[.agg #[.slice none 0 0, v], .agg (ints .u64 R).toArray] w fun e w' => e = .returned (.agg (ints .u64 (fL R ls.flatten ((ls.flatten.length + 15) / 16))).toArray) ∧ Below w.heap.size w w' := by
 obtain ⟨a, cap, rfl⟩ := rowB_any hv
 obtain ⟨m, hmm⟩ : ∃ m, m = ls.flatten := ⟨_, rfl⟩
 rw [← hmm] at hm ⊢
 have HMD := Lib.hid hmm
 have HRB := Lib.hid hv
 have HE0 := Lib.hid he0
 have HR := Lib.hid hR
 have HML := Lib.hid hm
 have HB := Lib.hid (boxes4 w [.slice none 0 0, .slice a ls.length cap] (ints .u64 R) (ints .u64 (List.replicate 5 0)) (ints .u64 (List.replicate 5 0)) 89 86 86 86)
 clear hmm hv he0 hR hm
 go_enter Tryd.func47, Tryd.ntmps47
 go_upto_region 2 with (fail)
 obtain ⟨H1, H2, H3, H4, HE⟩ := HB.out
 change Code.wp _ _ _ _ ((((w.alloc (.cells #[.slice none 0 0, .slice a ls.length cap] 89)).alloc (.cells (ints .u64 R).toArray 86)).alloc (.cells (ints .u64 (List.replicate 5 0)).toArray 86)).alloc (.cells (ints .u64 (List.replicate 5 0)).toArray 86))
 change Blk ((((w.alloc (.cells #[.slice none 0 0, .slice a ls.length cap] 89)).alloc (.cells (ints .u64 R).toArray 86)).alloc (.cells (ints .u64 (List.replicate 5 0)).toArray 86)).alloc (.cells (ints .u64 (List.replicate 5 0)).toArray 86)) w.heap.size [.slice none 0 0, .slice a ls.length cap] 89 at H1
 generalize (((w.alloc (.cells #[.slice none 0 0, .slice a ls.length cap] 89)).alloc (.cells (ints .u64 R).toArray 86)).alloc (.cells (ints .u64 (List.replicate 5 0)).toArray 86)).alloc (.cells (ints .u64 (List.replicate 5 0)).toArray 86) = wa at *
 obtain ⟨A, hA⟩ : ∃ A, A = w.heap.size := ⟨_, rfl⟩
 have HAW : Hid (w.heap.size ≤ A) := Lib.hid (by omega)
 have HAW0 : Hid (w0.heap.size ≤ A) := Lib.hid (by rw [hA]; exact HE0.out.size)
 rw [← hA] at H1 H2 H3 H4 ⊢
 have HM : Hid (MsgSt w0 wa A m) := Lib.hid ⟨_, _, [], ls, H1, Row1.nil w0, HRB.out, by rw [HMD.out]; simp⟩
 have H2 := Lib.hid H2
 have H3 := Lib.hid H3
 have H4 : Hid (Blk wa (A + 1 + 1 + 1) (ints .u64 (fL R m 0)) 86) := Lib.hid H4
 have HE : Hid (Ext w wa) := Lib.hid HE
 clear hA HB H1
 have HXA := Ext.alloc wa (.cells (ints .u8 (List.replicate 17 0)).toArray 85)
 obtain ⟨B, hB⟩ : ∃ B, B = wa.heap.size := ⟨_, rfl⟩
 have HAB : Hid (A + 1 + 1 + 1 < B) := Lib.hid (by have := H4.out.lt; omega)
 have HO : Hid (Blk (wa.alloc (.cells (ints .u8 (List.replicate 17 0)).toArray 85)) B ((List.replicate 17 (0 : UInt8)).map bval) 85) := Lib.hid (by rw [hB]; exact Blk.made wa (ints .u8 (List.replicate 17 0)) 85)
 have HM := Lib.hid (HM.out.same (heap_alloc_old wa (.cells (ints .u8 (List.replicate 17 0)).toArray 85) HM.out.lt))
 have H2 := Lib.hid (ext_blk H2.out HXA)
 have H3 := Lib.hid (ext_blk H3.out HXA)
 have H4 := Lib.hid (ext_blk H4.out HXA)
 have HE := Lib.hid (HE.out.trans HXA)
 clear HXA
 go_upto_region 3 with (fail)
 change Code.wp _ _ _ _ (wa.alloc (.cells (ints .u8 (List.replicate 17 0)).toArray 85))
 rw [← hB]
 clear hB
 generalize wa.alloc (.cells (ints .u8 (List.replicate 17 0)).toArray 85) = wb at *
 have HF := Lib.hid (fill_cap w0 wb A B 16 17 m (List.replicate 17 0) 85 HM.out HO.out rfl (by omega) (by omega) (by omega) (HE0.out.trans HE.out) HAW0.out (by have := HAB.out; omega))
 clear HM HO
 go_wp2_with fail
 refine HF.out.mono ?_
 rintro e w7 ⟨hf, hbut⟩
 unfold FillSaid at hf
 obtain ⟨c, hc, rfl, hM, hO, hbel⟩ := hf
 have HE7 : Hid (Ext w w7) := Lib.hid (Below.trans HE.out (hbel.mono HAW.out))
 have HST : Hid (PlySt w0 w7 A B R m 0 c (List.replicate 17 0)) := Lib.hid ⟨rfl, hc, by omega, hM, H2.out.same (hbut (A + 1) (by have := HAB.out; omega) (by omega)), H3.out.same (hbut (A + 1 + 1) (by have := HAB.out; omega) (by omega)), H4.out.same (hbut (A + 1 + 1 + 1) (by have := HAB.out; omega) (by omega)), hO⟩
 clear H2 H3 H4 HE hc hM hO hbel hbut HF
 go_wp2_with fail
 go_loopg [7] (m.length + 16) (fun gk i7 wr => ∃ (n : Nat) (c l : List UInt8), gk = m.length + 16 - n ∧ i7 = .int .i64 (c.length : Int) ∧ PlySt w0 wr A B R m n c l ∧ Ext w wr)
 case atStart => exact ⟨0, c, List.replicate 17 0, rfl, rfl, HST.out, HE7.out⟩
 case round =>
  clear HST HE7
  obtain ⟨n, c, l, hgk, rfl, hst, hbel⟩ := hrel
  have c0 : (0 : Int) ≤ (c.length : Int) := Int.natCast_nonneg _
  have hc16 : c.length ≤ 16 := by rw [hst.piece, List.length_take]; omega
  have hcl : c.length = min 16 (m.length - 16 * n) := by rw [hst.piece, piece_len]
  have HGK := Lib.hid hgk
  have HCL := Lib.hid hcl
  have HST := Lib.hid hst
  have HE := Lib.hid hbel
  clear hgk hst hbel hcl
  obtain ⟨f, hf⟩ : ∃ f, f = c.length := ⟨_, rfl⟩
  have HFE := Lib.hid hf
  rw [← hf] at c0 hc16 ⊢
  clear hf
  by_cases hpos : 0 < f
  ·have g1 : (0 : Int) < (f : Int) := by omega
   have g2 : (f : Int) < 17 := by omega
   have g3 : (f : Int) + 1 ≤ 17 := by omega
   have HXL : Hid ((c ++ l.drop c.length).length = 17) := Lib.hid (by rw [List.length_append, List.length_drop, HST.out.all, ← HFE.out]; omega)
   have q0 : wr.cell? ⟨B, f, none⟩ = some (.int .u8 (((c ++ l.drop c.length).getD f 0).toNat : Int)) := by rw [HST.out.blkX.cell, bval_get (by rw [HXL.out]; omega)]
   have f0 := HST.out.blkX.free f
   have HB3 := Lib.hid (HST.out.blkX.set f (.int .u8 1))
   generalize (((c ++ l.drop c.length).getD f 0).toNat : Int) = z0 at *
   obtain ⟨o, ho1, ho2, hs⟩ := cut_end Tryd.underlying85 Tryd.sizeOf5 (wr.setCell ⟨B, f, none⟩ (.int .u8 1)) B (f + 1) (by omega)
   have ef : ((f + 1 : Nat) : Int) = (f : Int) + 1 := by omega
   rw [ef] at hs
   have hcl := run_clear_bytes (ty := 0) Tryd.underlying25 Tryd.zeroValue5 B o (16 - f) (16 - f) _ _ HB3.out (by have := HXL.out; simp; simp at this; omega)
   have HLL := Lib.hid (laid_one c l f o HFE.out.symm hc16 HST.out.all ho2)
   clear ho1 ho2 ef
   go_upto_region 8 with (fail)
   have HX := Blk.setCells (List.replicate (16 - f) (.int .u8 0)) _ o _ HB3.out
   rw [← HFE.out, HLL.out, bval_ints] at HX
   have hg : wr.grownBy ((wr.setCell ⟨B, f, none⟩ (.int .u8 1)).setCells B o (List.replicate (16 - f) (.int .u8 0))) (some B) := grownBy_setCells _ _ _ _ (grownBy_set (grownBy_refl wr _) _ _)
   have HR2 := Lib.hid (HST.out.blkR.grown hg (by have := HAB.out; simp; omega))
   have HZ2 := Lib.hid (HST.out.blkZ.grown hg (by have := HAB.out; simp; omega))
   have HS2 := Lib.hid (HST.out.blkS.grown hg (by have := HAB.out; simp; omega))
   have HM2 := Lib.hid (HST.out.msg.same (hg.block A HST.out.msg.lt (by have := HAB.out; simp; omega)))
   have HE := Lib.hid (ext_grown HE.out hg (by have := HAB.out; have := HAW.out; omega))
   have HX := Lib.hid HX
   generalize (wr.setCell ⟨B, f, none⟩ (.int .u8 1)).setCells B o (List.replicate (16 - f) (.int .u8 0)) = w4 at *
   clear hg HB3 HLL hcl hs q0 f0
   have HC : Hid (c = (m.drop (16 * n)).take 16) := Lib.hid HST.out.piece
   have HF1 : Hid (fL R m (n + 1) = timL (addL (fL R m n) (limL (iB (onB c)))) R) := Lib.hid (by rw [HC.out, fL])
   have HNE := Lib.hid (fL_near HR.out m n)
   have HD : Hid (D17 (iB (onB c))) := Lib.hid (D17_iB (onB_length (by rw [← HFE.out]; exact hc16)))
   have HOL : Hid ((onB c).length = 17) := Lib.hid (onB_length (by rw [← HFE.out]; exact hc16))
   have hlm := limL_val HD.out
   have hal := addL_val HNE.out.lim hlm.1
   have HLM := Lib.hid hlm.1
   have HAL := Lib.hid (hal.1.up (N := 268435455) (by omega))
   have HFL := Lib.hid HST.out.few
   have HLA := Lib.hid HST.out.all
   clear hlm hal
   have HT1 : Hid ((timL (addL (fL R m n) (limL (iB (onB c)))) R).length = 5) := Lib.hid (by rw [← HF1.out]; exact (fL_near HR.out m (n + 1)).lim.len)
   obtain ⟨x, hx⟩ : ∃ x, x = iB (onB c) := ⟨_, rfl⟩
   rw [← hx] at HX HF1 HD HLM HAL HT1
   obtain ⟨s, hs⟩ : ∃ s, s = fL R m n := ⟨_, rfl⟩
   rw [← hs] at HS2 HF1 HNE HAL HT1
   obtain ⟨y, hy⟩ : ∃ y, y = limL x := ⟨_, rfl⟩
   rw [← hy] at HF1 HLM HAL HT1
   obtain ⟨p, hp⟩ : ∃ p, p = addL s y := ⟨_, rfl⟩
   rw [← hp] at HF1 HAL HT1
   obtain ⟨u, hu⟩ : ∃ u, u = timL p R := ⟨_, rfl⟩
   rw [← hu] at HF1 HT1
   have HC1 : Hid (∀ w, Calls Tryd.prog 49 #[.agg (ints .u8 x).toArray] w fun e w' => e = .returned (.agg (ints .u64 y).toArray) ∧ Below w.heap.size w w') := Lib.hid (fun w => by rw [hy]; exact plimbs_any x w HD.out)
   have HC2 : Hid (∀ w, Calls Tryd.prog 53 #[.agg (ints .u64 s).toArray, .agg (ints .u64 y).toArray] w fun e w' => e = .returned (.agg (ints .u64 p).toArray) ∧ Below w.heap.size w w') := Lib.hid (fun w => by rw [hp]; exact pplus_any s y w (HNE.out.lim.up (by omega)) (HLM.out.up (by omega)))
   have HC3 : Hid (∀ w, Calls Tryd.prog 72 #[.agg (ints .u64 p).toArray, .agg (ints .u64 R).toArray] w fun e w' => e = .returned (.agg (ints .u64 u).toArray) ∧ Below w.heap.size w w') := Lib.hid (fun w => by rw [hu]; exact ptimesL_any HAL.out HR.out w)
   have HIs := Lib.hid (lim_size HNE.out.lim.len)
   have HIx := Lib.hid (blk_size17 HD.out.1)
   have HIR := Lib.hid (lim_size HR.out.len)
   have HIu := Lib.hid (lim_size HT1.out)
   have HLu : Hid ((ints .u64 u).length = (ints .u64 s).length) := Lib.hid (by rw [ints_length, ints_length, HT1.out, HNE.out.lim.len])
   have HSE := Lib.hid hs
   have HXE := Lib.hid hx
   clear hs hx hy hp hu
   refine wp_region_from 6 1 6 rfl (by kernel_rfl) (by kernel_rfl) (fun d v c a w h => by cases d <;> exact h) (by kernel_rfl) ?_
   refine det_load _ _ (A + 1 + 1 + 1) (ints .u64 s) _ (by rfl) rfl rfl (fun w hw => ext_range HS2.out hw) Tryd.underlying86 rfl HIs.out ?_
   simp only [Act.put, nrm]
   refine det_load _ _ B (ints .u8 x) _ (by rfl) rfl rfl (fun w hw => ext_range HX.out hw) Tryd.underlying85 rfl HIx.out ?_
   simp only [Act.put, nrm]
   refine det_call _ _ _ [.agg (ints .u8 x).toArray] (.agg (ints .u64 y).toArray) (by rfl) rfl Tryd.call49 rfl (fun w hw => HC1.out w) ?_
   simp only [Act.put, nrm]
   refine det_call _ _ _ [.agg (ints .u64 s).toArray, .agg (ints .u64 y).toArray] (.agg (ints .u64 p).toArray) (by rfl) rfl Tryd.call53 rfl (fun w hw => HC2.out w) ?_
   simp only [Act.put, nrm]
   refine det_load _ _ (A + 1) (ints .u64 R) _ (by rfl) rfl rfl (fun w hw => ext_range HR2.out hw) Tryd.underlying86 rfl HIR.out ?_
   simp only [Act.put, nrm]
   refine det_call _ _ _ [.agg (ints .u64 p).toArray, .agg (ints .u64 R).toArray] (.agg (ints .u64 u).toArray) (by rfl) rfl Tryd.call72 rfl (fun w hw => HC3.out w) ?_
   simp only [Act.put, nrm]
   refine det_nil (end_store (k := 6) rfl (by kernel_rfl) (by kernel_rfl) (by kernel_rfl) rfl (fun w5 hw5 => ?_))
   have HR2 := Lib.hid (ext_blk HR2.out hw5)
   have HZ2 := Lib.hid (ext_blk HZ2.out hw5)
   have HX := Lib.hid (ext_blk HX.out hw5)
   have HS2 := Lib.hid (ext_blk HS2.out hw5)
   have HM2 := Lib.hid (HM2.out.same (hw5.block A HM2.out.lt))
   have HE := Lib.hid (HE.out.trans hw5)
   clear hw5
   refine wp_store_blk _ _ _ rfl (A + 1 + 1 + 1) (ints .u64 u) rfl rfl _ _ HS2.out HLu.out HIu.out (ints_one _ _) ?_
   intro w6 hb6 hg6
   have HR2 := Lib.hid (HR2.out.grown hg6 (by simp; omega))
   have HZ2 := Lib.hid (HZ2.out.grown hg6 (by simp))
   have HX := Lib.hid (HX.out.grown hg6 (by have := HAB.out; simp; omega))
   have HM2 := Lib.hid (HM2.out.same (hg6.block A HM2.out.lt (by simp; omega)))
   have HE := Lib.hid (ext_grown HE.out hg6 (by have := HAW.out; omega))
   have HS2 := Lib.hid hb6
   clear hb6 hg6
   rw [HXE.out, ← bval_ints] at HX
   have HF := Lib.hid (fill_cap w0 w6 A B 16 17 ((m.drop (16 * n)).drop 16) (onB c) 85 HM2.out HX.out HOL.out (by omega) (by omega) (by omega) (HE0.out.trans HE.out) HAW0.out (by have := HAB.out; omega))
   clear HM2
   go_wp2_with fail
   refine HF.out.mono ?_
   rintro e w7 ⟨hf, hbut⟩
   unfold FillSaid at hf
   obtain ⟨c2, hc2, rfl, hM, hO, hbel⟩ := hf
   have e16 : (m.drop (16 * n)).drop 16 = m.drop (16 * (n + 1)) := by rw [List.drop_drop, show 16 * n + 16 = 16 * (n + 1) from by omega]
   rw [e16] at hc2 hM
   have HE7 : Hid (Ext w w7) := Lib.hid (Below.trans HE.out (hbel.mono HAW.out))
   have HST7 : Hid (PlySt w0 w7 A B R m (n + 1) c2 (onB c)) := Lib.hid ⟨HOL.out, hc2, by have h1 := HCL.out; have h2 := HFE.out; omega, hM, HR2.out.same (hbut (A + 1) (by have := HAB.out; omega) (by omega)), HZ2.out.same (hbut (A + 1 + 1) (by have := HAB.out; omega) (by omega)), by rw [HF1.out]; exact HS2.out.same (hbut (A + 1 + 1 + 1) (by have := HAB.out; omega) (by omega)), hO⟩
   have HNL : Hid (n < m.length + 16) := Lib.hid (by have := HFL.out; omega)
   clear hc2 hM hO hbel hbut HF e16
   go_wp2_with fail
   go_roundg (m.length + 16 - (n + 1))
   case rel => exact ⟨n + 1, c2, onB c, rfl, rfl, HST7.out, HE7.out⟩
   case measure => have := HGK.out; have := HNL.out; omega
  ·have g1 : ¬ (0 : Int) < (f : Int) := by omega
   have d1 : decide ((0 : Int) < (f : Int)) = false := decide_eq_false g1
   have HN : Hid (n = (m.length + 15) / 16) := Lib.hid (by have h1 := HST.out.few; have h2 := HCL.out; have h3 := HFE.out; omega)
   have HS2 := Lib.hid HST.out.blkS
   have HZ2 := Lib.hid HST.out.blkZ
   have HL : Hid ((fL R m n).length = 5) := Lib.hid (fL_near HR.out m n).lim.len
   obtain ⟨s, hs⟩ : ∃ s, s = fL R m n := ⟨_, rfl⟩
   rw [← hs] at HS2 HL
   have HSE := Lib.hid hs
   clear hs
   have HI : Hid ((Tryd.prog.info? 86).map (·.size) = some (ints .u64 s).length) := Lib.hid (lim_size HL.out)
   have HLz : Hid ((ints .u64 s).length = (ints .u64 (List.replicate 5 0)).length) := Lib.hid (by rw [ints_length, HL.out]; rfl)
   go_wp2_with (first | (refine wpList_load_blk rfl _ _ rfl (A + 1 + 1 + 1) rfl _ _ _ _ HS2.out Tryd.underlying86 HI.out ?_) | (refine wpList_store_blk rfl _ _ _ rfl (A + 1 + 1) (ints .u64 s) rfl rfl _ _ HZ2.out HLz.out HI.out (ints_one _ _) ?_; intro w5 hb5 hg5))
   refine bodyPost_ret (result_blk rfl _ (A + 1 + 1) _ _ _ _ rfl hb5 Tryd.underlying86 HI.out) rfl ?_
   exact ⟨by rw [HSE.out, HN.out], ext_grown HE.out hg5 (by have := HAW.out; omega)⟩
set_option maxRecDepth 100000 in
set_option maxHeartbeats 8000000 in
theorem preduced_any (x : List Int) (w : World) (hx : Lim 268435455 x) :
  Calls Tryd.prog 54 #[.agg (ints .u64 x).toArray] w fun e w' => e = .returned (.agg (ints .u64 (redL x)).toArray) ∧ Below w.heap.size w w' := by
 have HX := Lib.hid hx
 have HB := Lib.hid (boxes2 w (ints .u64 x) (ints .u64 (List.replicate 5 0)) 86 86)
 have HIx := Lib.hid (lim_size hx.len)
 clear hx
 go_enter Tryd.func54, Tryd.ntmps54
 go_upto_region 1 with (fail)
 obtain ⟨H1, H2, HE⟩ := HB.out
 change Code.wp _ _ _ _ ((w.alloc (.cells (ints .u64 x).toArray 86)).alloc (.cells (ints .u64 (List.replicate 5 0)).toArray 86))
 generalize (w.alloc (.cells (ints .u64 x).toArray 86)).alloc (.cells (ints .u64 (List.replicate 5 0)).toArray 86) = wa at *
 obtain ⟨A, hA⟩ : ∃ A, A = w.heap.size := ⟨_, rfl⟩
 have HAW : Hid (w.heap.size ≤ A) := Lib.hid (by omega)
 rw [← hA] at H1 H2 ⊢
 have H1 := Lib.hid H1
 have H2 := Lib.hid H2
 have HE : Hid (Ext w wa) := Lib.hid HE
 clear hA HB
 go_wp2_with (refine wpList_load_blk rfl _ _ rfl A rfl _ _ _ _ H1.out Tryd.underlying86 HIx.out ?_)
 go_loopw [3, 7] (fun cv iv wr => ∃ (k : Nat), k ≤ 5 ∧ cv = .int .u64 (rRun x k) ∧ iv = .int .i64 (k : Int) ∧ Ext wa wr) (fun _ iv _ => 5 - (intOf iv).toNat)
 case atStart => exact ⟨0, by omega, rfl, rfl, Ext.refl _⟩
 case round =>
  obtain ⟨k, hk, rfl, rfl, hbel⟩ := hrel
  have k0 : (0 : Int) ≤ (k : Int) := Int.natCast_nonneg _
  have HX2 := Lib.hid hbel
  clear hbel
  by_cases hlk : k < 5
  ·have k1 : (k : Int) < 5 := by omega
   have hi := index_ints (kd := .u64) Tryd.underlying86 Tryd.sizeOf69 Tryd.isAgg69 x HX.out.len k hlk
   have hxa := HX.out.getD (by omega) k
   have hra := rRun_range (M := 268435455) (by omega) (HX.out.getD (by omega)) k
   have HS : Hid (rRun x (k + 1) = (rRun x k + x.getD k 0) / 67108864) := Lib.hid rfl
   generalize x.getD k 0 = p at *
   generalize rRun x k = q at *
   obtain ⟨p0, p1⟩ := hxa
   obtain ⟨r0, r1⟩ := hra
   go_wp2_with fail
   go_roundw
   case rel => exact ⟨k + 1, by omega, by rw [HS.out], by go_num, HX2.out⟩
   case measure => simp [intOf]; omega
  ·have hk5 : k = 5 := by omega
   subst hk5
   have H1 := Lib.hid (ext_blk H1.out HX2.out)
   have H2 := Lib.hid (ext_blk H2.out HX2.out)
   have HE := Lib.hid (HE.out.trans HX2.out)
   have q1 := digit_q H1.out (i := 0) (by rw [HX.out.len]; omega)
   have f1 := H1.out.free 0
   have hxa := HX.out.getD (by omega) 0
   have hra := rRun_range (M := 268435455) (by omega) (HX.out.getD (by omega)) 5
   have HR : Hid (redL x = setL (x.set 0 (x.getD 0 0 + 5 * rRun x 5))) := Lib.hid rfl
   have HL2 : Hid (Lim 1152921504606846976 (x.set 0 (x.getD 0 0 + 5 * rRun x 5))) := Lib.hid (by
    obtain ⟨a, b, c, d, e, rfl, h1, h2, h3, h4, h5⟩ := HX.out
    simp only [List.getD_cons_zero] at hxa hra ⊢
    exact ⟨_, b, c, d, e, rfl, by omega, by omega, by omega, by omega, by omega⟩)
   generalize x.getD 0 0 = p at *
   generalize rRun x 5 = q at *
   obtain ⟨p0, p1⟩ := hxa
   obtain ⟨r0, r1⟩ := hra
   go_upto_region 8 with (fail)
   have H1 : Hid (Blk (wr.setCell ⟨A, 0, none⟩ (.int .u64 (p + 5 * q))) A (ints .u64 (x.set 0 (p + 5 * q))) 86) := Lib.hid (H1.out.seti 0 _)
   have H2 := Lib.hid (H2.out.far (a := ⟨A, 0, none⟩) (by simp) (.int .u64 (p + 5 * q)))
   have HE : Hid (Ext w (wr.setCell ⟨A, 0, none⟩ (.int .u64 (p + 5 * q)))) := Lib.hid (Below.setCell HE.out (by have := HAW.out; simp; omega) _)
   generalize wr.setCell ⟨A, 0, none⟩ (.int .u64 (p + 5 * q)) = w3 at *
   clear q1 f1 HX2 HIx
   generalize x.set 0 (p + 5 * q) = y at *
   have HIy := Lib.hid (lim_size HL2.out.len)
   have HSY := Lib.hid (setL_len HL2.out.len)
   have HIo := Lib.hid (lim_size HSY.out)
   have HLz : Hid ((ints .u64 (setL y)).length = (ints .u64 (List.replicate 5 0)).length) := Lib.hid (by rw [ints_length, HSY.out]; rfl)
   go_wp2_with (refine wpList_load_blk rfl _ _ rfl A rfl _ _ _ _ H1.out Tryd.underlying86 HIy.out ?_)
   refine (psettled_any y w3 HL2.out).mono ?_
   rintro e w4 ⟨rfl, hb⟩
   have H2 := Lib.hid (ext_blk H2.out hb)
   have HE := Lib.hid (HE.out.trans hb)
   clear hb
   go_wp2_with (refine wpList_store_blk rfl _ _ _ rfl (A + 1) (ints .u64 (setL y)) rfl rfl _ _ H2.out HLz.out HIo.out (ints_one _ _) ?_; intro w5 hb5 hg5)
   refine bodyPost_ret (result_blk rfl _ (A + 1) _ _ _ _ rfl hb5 Tryd.underlying86 HIo.out) rfl ?_
   exact ⟨by rw [HR.out], ext_grown HE.out hg5 (by have := HAW.out; omega)⟩
theorem and8_15f : ∀ n : Fin 256, bits .and .u8 (n.val : Int) 15 = (n.val : Int) % 16 := by decide +kernel
theorem and8_252f : ∀ n : Fin 256, bits .and .u8 (n.val : Int) 252 = (n.val : Int) / 4 * 4 := by decide +kernel
theorem and8_15 (a : Int) (h1 : 0 ≤ a) (h2 : a ≤ 255) : bits .and .u8 a 15 = a % 16 := by
 obtain ⟨n, rfl⟩ : ∃ n : Nat, a = (n : Int) := ⟨a.toNat, by omega⟩
 exact and8_15f ⟨n, by omega⟩
theorem and8_252 (a : Int) (h1 : 0 ≤ a) (h2 : a ≤ 255) : bits .and .u8 a 252 = a / 4 * 4 := by
 obtain ⟨n, rfl⟩ : ∃ n : Nat, a = (n : Int) := ⟨a.toNat, by omega⟩
 exact and8_252f ⟨n, by omega⟩
set_option maxRecDepth 100000 in
set_option maxHeartbeats 8000000 in
theorem pclamped_any (kb : List UInt8) (w : World) :
  Calls Tryd.prog 50 #[.agg (ints .u8 (rA kb 16)).toArray] w fun e w' => e = .returned (.agg (ints .u8 (rC kb 3)).toArray) ∧ Below w.heap.size w w' := by
 have HB := Lib.hid (boxes2 w (ints .u8 (rA kb 16)) (ints .u8 (List.replicate 17 0)) 85 85)
 go_enter Tryd.func50, Tryd.ntmps50
 go_upto_region 1 with (fail)
 obtain ⟨H1, H2, HE⟩ := HB.out
 change Code.wp _ _ _ _ ((w.alloc (.cells (ints .u8 (rA kb 16)).toArray 85)).alloc (.cells (ints .u8 (List.replicate 17 0)).toArray 85))
 generalize (w.alloc (.cells (ints .u8 (rA kb 16)).toArray 85)).alloc (.cells (ints .u8 (List.replicate 17 0)).toArray 85) = wa at *
 obtain ⟨A, hA⟩ : ∃ A, A = w.heap.size := ⟨_, rfl⟩
 have HAW : Hid (w.heap.size ≤ A) := Lib.hid (by omega)
 rw [← hA] at H1 H2 ⊢
 have H1 : Hid (Blk wa A (ints .u8 (rB kb 0)) 85) := Lib.hid H1
 have H2 := Lib.hid H2
 have HE : Hid (Ext w wa) := Lib.hid HE
 clear hA HB
 go_wp2_with fail
 go_loopw [3] (fun iv wr => ∃ (k : Nat), k ≤ 4 ∧ iv = .int .i64 (3 + 4 * (k : Int)) ∧ Blk wr A (ints .u8 (rB kb k)) 85 ∧ Blk wr (A + 1) (ints .u8 (List.replicate 17 0)) 85 ∧ Ext w wr) (fun iv _ => 20 - (intOf iv).toNat)
 case atStart => exact ⟨0, by omega, rfl, H1.out, H2.out, HE.out⟩
 case round =>
  clear H1 H2 HE
  obtain ⟨k, hk, rfl, hb1, hb2, hbel⟩ := hrel
  have k0 : (0 : Int) ≤ (k : Int) := Int.natCast_nonneg _
  have H1 := Lib.hid hb1
  have H2 := Lib.hid hb2
  have HE := Lib.hid hbel
  by_cases hlk : k < 4
  ·have k1 : 3 + 4 * (k : Int) < 16 := by omega
   have k2 : (0 : Int) ≤ 3 + 4 * (k : Int) := by omega
   have k3 : 3 + 4 * (k : Int) < 17 := by omega
   have kn : (3 + 4 * (k : Int)).toNat = 3 + 4 * k := by omega
   have c1 := digit_b hb1 (i := 3 + 4 * k) (by rw [rB_length]; omega)
   have f1 := hb1.free (3 + 4 * k)
   have hd := rB_digit kb k (3 + 4 * k) (by omega)
   have HS : Hid (rB kb (k + 1) = (rB kb k).set (3 + 4 * k) ((rB kb k).getD (3 + 4 * k) 0 % 16)) := Lib.hid rfl
   clear hb1 hb2 hbel
   generalize hz : (rB kb k).getD (3 + 4 * k) 0 = z at *
   clear hz
   obtain ⟨z0, z1⟩ := hd
   have a1 := and8_15 z z0 z1
   go_wp2_with fail
   go_roundw
   case rel => exact ⟨k + 1, by omega, by go_num, by rw [HS.out]; exact H1.out.seti _ _, H2.out.far (by simp) _, Below.setCell HE.out (by have := HAW.out; simp; omega) _⟩
   case measure => simp [intOf]; omega
  ·have hk4 : k = 4 := by omega
   subst hk4
   rw [show ((4 : Nat) : Int) = 4 from rfl]
   rw [show (3 : Int) + 4 * 4 = 19 from rfl]
   clear hb1 hb2 hbel
   have H1 : Hid (Blk wr A (ints .u8 (rC kb 0)) 85) := Lib.hid H1.out
   go_wp2_with fail
   go_loopw [4] (fun iv wr => ∃ (k : Nat), k ≤ 3 ∧ iv = .int .i64 (4 + 4 * (k : Int)) ∧ Blk wr A (ints .u8 (rC kb k)) 85 ∧ Blk wr (A + 1) (ints .u8 (List.replicate 17 0)) 85 ∧ Ext w wr) (fun iv _ => 20 - (intOf iv).toNat)
   case atStart => exact ⟨0, by omega, rfl, H1.out, H2.out, HE.out⟩
   case round =>
    clear H1 H2 HE
    obtain ⟨k, hk, rfl, hb1, hb2, hbel⟩ := hrel
    have k0 : (0 : Int) ≤ (k : Int) := Int.natCast_nonneg _
    have H1 := Lib.hid hb1
    have H2 := Lib.hid hb2
    have HE := Lib.hid hbel
    by_cases hlk : k < 3
    ·have k1 : 4 + 4 * (k : Int) < 16 := by omega
     have k2 : (0 : Int) ≤ 4 + 4 * (k : Int) := by omega
     have k3 : 4 + 4 * (k : Int) < 17 := by omega
     have kn : (4 + 4 * (k : Int)).toNat = 4 + 4 * k := by omega
     have c1 := digit_b hb1 (i := 4 + 4 * k) (by rw [rC_length]; omega)
     have f1 := hb1.free (4 + 4 * k)
     have hd := rC_digit kb k (4 + 4 * k) (by omega)
     have HS : Hid (rC kb (k + 1) = (rC kb k).set (4 + 4 * k) ((rC kb k).getD (4 + 4 * k) 0 / 4 * 4)) := Lib.hid rfl
     clear hb1 hb2 hbel
     generalize hz : (rC kb k).getD (4 + 4 * k) 0 = z at *
     clear hz
     obtain ⟨z0, z1⟩ := hd
     have a1 := and8_252 z z0 z1
     go_wp2_with fail
     go_roundw
     case rel => exact ⟨k + 1, by omega, by go_num, by rw [HS.out]; exact H1.out.seti _ _, H2.out.far (by simp) _, Below.setCell HE.out (by have := HAW.out; simp; omega) _⟩
     case measure => simp [intOf]; omega
    ·have hk3 : k = 3 := by omega
     subst hk3
     rw [show ((3 : Nat) : Int) = 3 from rfl]
     rw [show (4 : Int) + 4 * 3 = 16 from rfl]
     clear hb1 hb2 hbel hk k0 hlk
     obtain ⟨s, hs⟩ : ∃ s, s = rC kb 3 := ⟨_, rfl⟩
     have HR := Lib.hid hs
     rw [← hs] at H1
     have HL : Hid (s.length = 17) := Lib.hid (by rw [hs, rC_length])
     clear hs
     have HI : Hid ((Tryd.prog.info? 85).map (·.size) = some (ints .u8 s).length) := Lib.hid (blk_size17 HL.out)
     have HLz : Hid ((ints .u8 s).length = (ints .u8 (List.replicate 17 0)).length) := Lib.hid (by rw [ints_length, HL.out]; rfl)
     go_wp2_with (first | (refine wpList_load_blk rfl _ _ rfl A rfl _ _ _ _ H1.out Tryd.underlying85 HI.out ?_) | (refine wpList_store_blk rfl _ _ _ rfl (A + 1) (ints .u8 s) rfl rfl _ _ H2.out HLz.out HI.out (ints_one _ _) ?_; intro w5 hb5 hg5))
     refine bodyPost_ret (result_blk rfl _ (A + 1) _ _ _ _ rfl hb5 Tryd.underlying85 HI.out) rfl ?_
     exact ⟨by rw [HR.out], ext_grown HE.out hg5 (by have := HAW.out; omega)⟩
theorem pow_up {s : Nat} (h : s ≤ 6) : (1 : Int) ≤ 2 ^ s ∧ (2 : Int) ^ s ≤ 64 := by
 match s, h with
 | 0, _ => decide
 | 1, _ => decide
 | 2, _ => decide
 | 3, _ => decide
 | 4, _ => decide
 | 5, _ => decide
 | 6, _ => decide
set_option maxRecDepth 100000 in
set_option maxHeartbeats 8000000 in
theorem pblock_any (x : List Int) (w : World) (hx : Lim 67108863 x) :
  Calls Tryd.prog 51 #[.agg (ints .u64 x).toArray] w fun e w' => e = .returned (.agg (ints .u8 (blkL x)).toArray) ∧ Below w.heap.size w w' := by
 have HX := Lib.hid hx
 have HB := Lib.hid (boxes3 w (ints .u64 x) (ints .u8 (List.replicate 17 0)) (ints .u8 (List.replicate 17 0)) 86 85 85)
 have HIx := Lib.hid (lim_size hx.len)
 clear hx
 go_enter Tryd.func51, Tryd.ntmps51
 go_upto_region 2 with (fail)
 obtain ⟨H1, H2, H3, HE⟩ := HB.out
 change Code.wp _ _ _ _ (((w.alloc (.cells (ints .u64 x).toArray 86)).alloc (.cells (ints .u8 (List.replicate 17 0)).toArray 85)).alloc (.cells (ints .u8 (List.replicate 17 0)).toArray 85))
 generalize ((w.alloc (.cells (ints .u64 x).toArray 86)).alloc (.cells (ints .u8 (List.replicate 17 0)).toArray 85)).alloc (.cells (ints .u8 (List.replicate 17 0)).toArray 85) = wa at *
 obtain ⟨A, hA⟩ : ∃ A, A = w.heap.size := ⟨_, rfl⟩
 have HAW : Hid (w.heap.size ≤ A) := Lib.hid (by omega)
 rw [← hA] at H1 H2 H3 ⊢
 have H1 := Lib.hid H1
 have H2 := Lib.hid H2
 have H3 : Hid (Blk wa (A + 1 + 1) (ints .u8 (oI x 0)) 85) := Lib.hid H3
 have HE : Hid (Ext w wa) := Lib.hid HE
 clear hA HB
 go_wp2_with (refine wpList_load_blk rfl _ _ rfl A rfl _ _ _ _ H1.out Tryd.underlying86 HIx.out ?_)
 go_loopw [9] (fun iv wr => ∃ (i : Nat), i ≤ 5 ∧ iv = .int .i64 (i : Int) ∧ Blk wr (A + 1) (ints .u8 (List.replicate 17 0)) 85 ∧ Blk wr (A + 1 + 1) (ints .u8 (oI x i)) 85 ∧ Ext w wr) (fun iv _ => 5 - (intOf iv).toNat)
 case atStart => exact ⟨0, by omega, rfl, H2.out, H3.out, HE.out⟩
 case round =>
  clear H1 H2 H3 HE HIx
  obtain ⟨i, hi, rfl, hb2, hb3, hbel⟩ := hrel
  have i0 : (0 : Int) ≤ (i : Int) := Int.natCast_nonneg _
  have H2 := Lib.hid hb2
  have H3 := Lib.hid hb3
  have HE := Lib.hid hbel
  clear hb2 hb3 hbel
  by_cases hli : i < 5
  ·have i1 : (i : Int) < 5 := by omega
   have hxi := index_ints (kd := .u64) Tryd.underlying86 Tryd.sizeOf69 Tryd.isAgg69 x HX.out.len i hli
   obtain ⟨z0, z1⟩ := HX.out.getD (by omega) i
   obtain ⟨q, hq⟩ : ∃ q, q = 26 * i / 8 := ⟨_, rfl⟩
   obtain ⟨s, hs⟩ : ∃ s, s = 26 * i % 8 := ⟨_, rfl⟩
   have hs6 : s ≤ 6 := by omega
   have hq13 : q ≤ 13 := by omega
   have d1 : 26 * (i : Int) / 8 = (q : Int) := by omega
   have d2 : Int.tdiv (26 * (i : Int)) 8 = (q : Int) := by rw [Int.tdiv_eq_ediv_of_nonneg (by omega)]; exact d1
   have s1 : 26 * (i : Int) % 8 = (s : Int) := by omega
   have s2 : Int.tmod (26 * (i : Int)) 8 = (s : Int) := by rw [Int.tmod_eq_emod_of_nonneg (by omega)]; exact s1
   have s3 : (s : Int) < 64 := by omega
   have s4 : (0 : Int) ≤ (s : Int) := by omega
   have HS : Hid (oI x (i + 1) = oN (oI x i) (x.getD i 0) q s 4) := Lib.hid (by rw [oI, hq, hs])
   have HL := Lib.hid (oI_length x i)
   have H3 : Hid (Blk wr (A + 1 + 1) (ints .u8 (oN (oI x i) (x.getD i 0) q s 0)) 85) := Lib.hid H3.out
   clear hq hs
   generalize x.getD i 0 = z at *
   generalize oI x i = c at *
   go_wp2_with fail
   go_loopw [15] (fun nv wq => ∃ (n : Nat), n ≤ 4 ∧ nv = .int .i64 (n : Int) ∧ Blk wq (A + 1) (ints .u8 (List.replicate 17 0)) 85 ∧ Blk wq (A + 1 + 1) (ints .u8 (oN c z q s n)) 85 ∧ Ext w wq) (fun nv _ => 4 - (intOf nv).toNat)
   case atStart => exact ⟨0, by omega, rfl, H2.out, H3.out, HE.out⟩
   case round =>
    clear H2 H3 HE
    obtain ⟨n, hn, rfl, hb2, hb3, hbel⟩ := hrel
    have n0 : (0 : Int) ≤ (n : Int) := Int.natCast_nonneg _
    have H2 := Lib.hid hb2
    have H3 := Lib.hid hb3
    have HE := Lib.hid hbel
    by_cases hln : n < 4
    ·have n1 : (n : Int) < 4 := by omega
     obtain ⟨j, hj⟩ : ∃ j, j = q + n := ⟨_, rfl⟩
     have j1 : (q : Int) + (n : Int) = (j : Int) := by omega
     have j2 : (j : Int) < 17 := by omega
     have j3 : (0 : Int) ≤ (j : Int) := by omega
     obtain ⟨e, he⟩ : ∃ e, e = 8 * n := ⟨_, rfl⟩
     have e1 : 8 * (n : Int) = (e : Int) := by omega
     have e2 : (e : Int) < 64 := by omega
     have e3 : (0 : Int) ≤ (e : Int) := by omega
     have q3 := digit_b hb3 (i := j) (by rw [oN_length, HL.out]; omega)
     have f3 := hb3.free j
     have hp := pow_up hs6
     have hpz : 0 ≤ z * 2 ^ s ∧ z * 2 ^ s ≤ 4294967232 := by
      have := mulB (X := 67108863) (Y := 64) ⟨z0, z1⟩ ⟨by omega, hp.2⟩
      omega
     have hdv : 0 ≤ z * 2 ^ s / 2 ^ e ∧ z * 2 ^ s / 2 ^ e ≤ 4294967295 := by
      have hp : (0 : Int) < 2 ^ e := Int.pow_pos (by omega)
      exact ⟨Int.ediv_nonneg hpz.1 (by omega), Int.le_trans (Int.ediv_le_self _ hpz.1) (by omega)⟩
     have HK : Hid (oN c z q s (n + 1) = (oN c z q s n).set j (bits .or .u8 ((oN c z q s n).getD j 0) (z * 2 ^ s / 2 ^ e % 256))) := Lib.hid (by rw [oN, ← hj, ← he])
     clear hb2 hb3 hbel hj he hp
     generalize (oN c z q s n).getD j 0 = y at *
     obtain ⟨p0, p1⟩ := hpz
     obtain ⟨r0, r1⟩ := hdv
     go_wp2_with fail
     go_region
     go_wp2_with fail
     go_roundw
     case rel => exact ⟨n + 1, by omega, by go_num, (H2.out.far (by simp) _).drewN 1, by rw [HK.out]; exact (H3.out.seti j _).drewN 1, Ext.trans (Below.setCell HE.out (by have := HAW.out; simp; omega) _) (Ext.drew _)⟩
     case measure => simp [intOf]; omega
    ·have hn4 : n = 4 := by omega
     subst hn4
     rw [show ((4 : Nat) : Int) = 4 from rfl]
     clear hb2 hb3 hbel
     go_wp2_with fail
     go_roundw
     case rel => exact ⟨i + 1, by omega, by go_num, H2.out, by rw [HS.out]; exact H3.out, HE.out⟩
     case measure => simp [intOf]; omega
  ·have hi5 : i = 5 := by omega
   subst hi5
   have HL : Hid ((oI x 5).length = 17) := Lib.hid (oI_length x 5)
   have HR : Hid (blkL x = oI x 5) := Lib.hid rfl
   generalize oI x 5 = s at *
   have HI : Hid ((Tryd.prog.info? 85).map (·.size) = some (ints .u8 s).length) := Lib.hid (blk_size17 HL.out)
   have HLz : Hid ((ints .u8 s).length = (ints .u8 (List.replicate 17 0)).length) := Lib.hid (by rw [ints_length, HL.out]; rfl)
   go_wp2_with (first | (refine wpList_load_blk rfl _ _ rfl (A + 1 + 1) rfl _ _ _ _ H3.out Tryd.underlying85 HI.out ?_) | (refine wpList_store_blk rfl _ _ _ rfl (A + 1) (ints .u8 s) rfl rfl _ _ H2.out HLz.out HI.out (ints_one _ _) ?_; intro w5 hb5 hg5))
   refine bodyPost_ret (result_blk rfl _ (A + 1) _ _ _ _ rfl hb5 Tryd.underlying85 HI.out) rfl ?_
   exact ⟨by rw [HR.out], ext_grown HE.out hg5 (by have := HAW.out; omega)⟩
theorem Tryd.ptag45 : (Tryd.prog.info? 45).map (·.size) = some 16 := by kernel_rfl
theorem ptag_size {l : List UInt8} (h : l.length = 16) : (Tryd.prog.info? 45).map (·.size) = some (l.map bval).length := by rw [List.length_map, h]; exact Tryd.ptag45
theorem rA_iB (kb : List UInt8) (hk : kb.length = 32) : iB (kb.take 16 ++ [0]) = rA kb 16 := by
 apply ext_getD (by rw [iB_length, rA_length, List.length_append, List.length_take, hk]; rfl)
 intro i hi
 rw [iB_getD, rA_getD kb 16 (by omega) i]
 by_cases h : i < 16
 ·rw [if_pos h]
  simp [List.getD, List.getElem?_append_left (show i < (kb.take 16).length by rw [List.length_take]; omega), List.getElem?_take, h]
 ·rw [if_neg h]
  rw [iB_length, List.length_append, List.length_take, hk] at hi
  have e : i = 16 := by simp at hi; omega
  subst e
  simp [List.getD, hk]
theorem half_laid (c : List UInt8) (hc : c.length = 16) : splice ((List.replicate 17 (0 : UInt8)).map bval) 0 (c.map bval) = (c ++ [0]).map bval := by
 rw [splice_bytes, hc]
 simp
theorem tag_laid (c : List UInt8) (hc : c.length = 16) : splice ((List.replicate 16 (0 : UInt8)).map bval) 0 (c.map bval) = c.map bval := by
 rw [splice_bytes, hc]
 simp
set_option maxRecDepth 100000 in
set_option maxHeartbeats 8000000 in
theorem PSum_num (kb : List UInt8) (v : Value) (ls : List (List UInt8)) (w : World) (hk : kb.length = 32) (hv : RowB w v ls) (hm : ls.flatten.length ≤ 1099511627776) :
  Calls Tryd.prog 29 #[.agg (kb.map bval).toArray, v] w fun e w' => e = .returned (.agg ((polyTag kb ls.flatten).map bval).toArray) ∧ Below w.heap.size w w' := by
 obtain ⟨a, cap, rfl⟩ := rowB_any hv
 have HKL := Lib.hid hk
 have HRB := Lib.hid hv
 have HM := Lib.hid hm
 have HB := Lib.hid (boxes4 w (kb.map bval) (ints .u8 (List.replicate 16 0)) (ints .u8 (List.replicate 17 0)) (ints .u8 (List.replicate 17 0)) 23 45 85 85)
 clear hk hv hm
 go_enter Tryd.func29, Tryd.ntmps29
 go_upto_region 2 with (fail)
 obtain ⟨H1, H2, H3, H4, HE⟩ := HB.out
 change Code.wp _ _ _ _ ((((w.alloc (.cells (kb.map bval).toArray 23)).alloc (.cells (ints .u8 (List.replicate 16 0)).toArray 45)).alloc (.cells (ints .u8 (List.replicate 17 0)).toArray 85)).alloc (.cells (ints .u8 (List.replicate 17 0)).toArray 85))
 generalize (((w.alloc (.cells (kb.map bval).toArray 23)).alloc (.cells (ints .u8 (List.replicate 16 0)).toArray 45)).alloc (.cells (ints .u8 (List.replicate 17 0)).toArray 85)).alloc (.cells (ints .u8 (List.replicate 17 0)).toArray 85) = wa at *
 obtain ⟨A, hA⟩ : ∃ A, A = w.heap.size := ⟨_, rfl⟩
 have HAW : Hid (w.heap.size ≤ A) := Lib.hid (by omega)
 rw [← hA] at H1 H2 H3 H4 ⊢
 have H1 := Lib.hid H1
 have H2 := Lib.hid H2
 have H3 : Hid (Blk wa (A + 1 + 1) ((List.replicate 17 (0 : UInt8)).map bval) 85) := Lib.hid H3
 have H4 : Hid (Blk wa (A + 1 + 1 + 1) ((List.replicate 17 (0 : UInt8)).map bval) 85) := Lib.hid H4
 have HE : Hid (Ext w wa) := Lib.hid HE
 clear hA HB
 refine wp_region_from 2 1 2 rfl (by kernel_rfl) (by kernel_rfl) (fun d v c a w h => by cases d <;> exact h) (by kernel_rfl) ?_
 refine det_val (.slice (some ⟨A + 1 + 1, 0, none⟩) 16 17) (by rfl) (fun w hw => by go_simp) ?_
 simp only [Act.put, nrm]
 refine det_val (.slice (some ⟨A, 0, none⟩) 16 32) (by rfl) (fun w hw => by go_simp) ?_
 simp only [Act.put, nrm]
 refine det_nil (end_store (k := 2) rfl (by kernel_rfl) (by kernel_rfl) (by kernel_rfl) rfl (fun w1 hw1 => ?_))
 have H1 := Lib.hid (ext_blk H1.out hw1)
 have H2 := Lib.hid (ext_blk H2.out hw1)
 have H3 := Lib.hid (ext_blk H3.out hw1)
 have H4 := Lib.hid (ext_blk H4.out hw1)
 have HE := Lib.hid (HE.out.trans hw1)
 clear hw1
 refine wp_copy_blk _ _ 25 25 rfl 5 Tryd.underlying25 num_one _ _ _ _ _ _ rfl rfl (A + 1 + 1) 0 _ _ H3.out ((kb.take 16).map bval) (by rw [List.length_map, List.length_take, HKL.out]; rfl) (fun _ => ⟨rfl, ⟨A, 0, none⟩, rfl, fun j v hj => ?_⟩) (by simp [HKL.out]) (bval_one _) ?_
 ·have hj2 : j < 16 := by
   rcases Nat.lt_or_ge j 16 with h | h
   ·exact h
   ·rw [List.getElem?_eq_none (by rw [List.length_map, List.length_take]; omega)] at hj; cases hj
  rw [WideShapes.add_plain, Nat.zero_add, H1.out.cell, ← hj, List.getElem?_map, List.getElem?_map, List.getElem?_take, if_pos hj2]
 intro w2 hb2 hg2
 rw [half_laid _ (by rw [List.length_take, HKL.out]; rfl)] at hb2
 have H1 := Lib.hid (H1.out.grown hg2 (by simp; omega))
 have H2 := Lib.hid (H2.out.grown hg2 (by simp))
 have H4 := Lib.hid (H4.out.grown hg2 (by simp))
 have HE := Lib.hid (ext_grown HE.out hg2 (by have := HAW.out; omega))
 have H3 := Lib.hid hb2
 clear hb2 hg2
 generalize goInt ((kb.take 16).map bval).length = g1
 simp only [Act.put, nrm]
 go_upto_region 3 with (fail)
 refine wp_region_from 2 1 2 rfl (by kernel_rfl) (by kernel_rfl) (fun d v c a w h => by cases d <;> exact h) (by kernel_rfl) ?_
 refine det_val (.slice (some ⟨A + 1 + 1 + 1, 0, none⟩) 16 17) (by rfl) (fun w hw => by go_simp) ?_
 simp only [Act.put, nrm]
 refine det_val (.slice (some ⟨A, 16, none⟩) 16 16) (by rfl) (fun w hw => by go_simp) ?_
 simp only [Act.put, nrm]
 refine det_nil (end_store (k := 2) rfl (by kernel_rfl) (by kernel_rfl) (by kernel_rfl) rfl (fun w3 hw3 => ?_))
 have H1 := Lib.hid (ext_blk H1.out hw3)
 have H2 := Lib.hid (ext_blk H2.out hw3)
 have H3 := Lib.hid (ext_blk H3.out hw3)
 have H4 := Lib.hid (ext_blk H4.out hw3)
 have HE := Lib.hid (HE.out.trans hw3)
 clear hw3
 have HSL : Hid (((kb.drop 16).take 16).length = 16) := Lib.hid (by rw [List.length_take, List.length_drop, HKL.out]; rfl)
 refine wp_copy_blk _ _ 25 25 rfl 5 Tryd.underlying25 num_one _ _ _ _ _ _ rfl rfl (A + 1 + 1 + 1) 0 _ _ H4.out (((kb.drop 16).take 16).map bval) (by rw [List.length_map, HSL.out]; rfl) (fun _ => ⟨rfl, ⟨A, 16, none⟩, rfl, fun j v hj => ?_⟩) (by rw [List.length_map, HSL.out]; simp) (bval_one _) ?_
 ·have hj2 : j < 16 := by
   rcases Nat.lt_or_ge j 16 with h | h
   ·exact h
   ·rw [List.getElem?_eq_none (by rw [List.length_map, HSL.out]; omega)] at hj; cases hj
  rw [WideShapes.add_plain, H1.out.cell, ← hj, List.getElem?_map, List.getElem?_map, List.getElem?_take, if_pos hj2, List.getElem?_drop]
 intro w4 hb4 hg4
 rw [half_laid _ HSL.out, bval_ints] at hb4
 have H2 := Lib.hid (H2.out.grown hg4 (by simp; omega))
 have H3 := Lib.hid (H3.out.grown hg4 (by simp))
 have HE := Lib.hid (ext_grown HE.out hg4 (by have := HAW.out; omega))
 have H4 := Lib.hid hb4
 clear hb4 hg4 H1
 rw [bval_ints, rA_iB kb HKL.out] at H3
 generalize goInt (((kb.drop 16).take 16).map bval).length = g2
 simp only [Act.put, nrm]
 -- the fold
 obtain ⟨m, hm⟩ : ∃ m, m = ls.flatten := ⟨_, rfl⟩
 have HM := HM.out
 rw [← hm] at HM
 have hrl := rL_val kb
 have hfv := fL_val kb m ((m.length + 15) / 16)
 have hsv := sL_val HKL.out
 obtain ⟨o17, ho1, ho2, ho3⟩ := tag_bytes (key := kb) (m := m) HKL.out
 have hov := outL_val (key := kb) (m := m) HKL.out
 have hrv := redL_val hfv.1.lim.len (fun i => (hfv.1.lim.getD (by omega) i).1) hfv.1.below
 have hav := addL_val hrv.1 hsv.1
 have HFO := Lib.hid (fun w' (h : Ext w w') => pfolded_any (.slice a ls.length cap) ls (rL kb) w w' HRB.out h hrl.1 (by rw [← hm]; exact HM))
 rw [← hm] at HFO
 obtain ⟨R, hR⟩ : ∃ R, R = rL kb := ⟨_, rfl⟩
 obtain ⟨F, hF⟩ : ∃ F, F = fL R m ((m.length + 15) / 16) := ⟨_, rfl⟩
 obtain ⟨D, hD⟩ : ∃ D, D = redL F := ⟨_, rfl⟩
 obtain ⟨S, hS⟩ : ∃ S, S = sL kb := ⟨_, rfl⟩
 obtain ⟨P, hP⟩ : ∃ P, P = addL D S := ⟨_, rfl⟩
 obtain ⟨O, hO⟩ : ∃ O, O = setL P := ⟨_, rfl⟩
 have HOO : Hid (O = outL kb m) := Lib.hid (by rw [hO, hP, hD, hS, hF, hR]; rfl)
 rw [← hR, ← hF] at hfv hrv hav HFO
 rw [← hR] at hrl
 rw [← hD] at hrv hav
 rw [← hS] at hsv hav
 rw [← hP] at hav
 rw [← HOO.out] at hov ho2
 have C1 : Hid (∀ w, Calls Tryd.prog 50 #[.agg (ints .u8 (rA kb 16)).toArray] w fun e w' => e = .returned (.agg (ints .u8 (rC kb 3)).toArray) ∧ Below w.heap.size w w') := Lib.hid (pclamped_any kb)
 have C2 : Hid (∀ w, Calls Tryd.prog 49 #[.agg (ints .u8 (rC kb 3)).toArray] w fun e w' => e = .returned (.agg (ints .u64 R).toArray) ∧ Below w.heap.size w w') := Lib.hid (fun w => by rw [hR]; exact plimbs_any _ w (D17_rC kb))
 have C3 : Hid (∀ w, Calls Tryd.prog 54 #[.agg (ints .u64 F).toArray] w fun e w' => e = .returned (.agg (ints .u64 D).toArray) ∧ Below w.heap.size w w') := Lib.hid (fun w => by rw [hD]; exact preduced_any _ w (hfv.1.lim.up (by omega)))
 have hq17 : ((kb.drop 16).take 16 ++ [0]).length = 17 := by rw [List.length_append, HSL.out]; rfl
 have C4 : Hid (∀ w, Calls Tryd.prog 49 #[.agg (ints .u8 (iB ((kb.drop 16).take 16 ++ [0]))).toArray] w fun e w' => e = .returned (.agg (ints .u64 S).toArray) ∧ Below w.heap.size w w') := Lib.hid (fun w => by rw [hS]; exact plimbs_any _ w (D17_iB hq17))
 have C5 : Hid (∀ w, Calls Tryd.prog 53 #[.agg (ints .u64 D).toArray, .agg (ints .u64 S).toArray] w fun e w' => e = .returned (.agg (ints .u64 P).toArray) ∧ Below w.heap.size w w') := Lib.hid (fun w => by rw [hP]; exact pplus_any _ _ w (hrv.1.up (by omega)) (hsv.1.up (by omega)))
 have C6 : Hid (∀ w, Calls Tryd.prog 52 #[.agg (ints .u64 P).toArray] w fun e w' => e = .returned (.agg (ints .u64 O).toArray) ∧ Below w.heap.size w w') := Lib.hid (fun w => by rw [hO]; exact psettled_any _ w (hav.1.up (by omega)))
 have C7 : Hid (∀ w, Calls Tryd.prog 51 #[.agg (ints .u64 O).toArray] w fun e w' => e = .returned (.agg (ints .u8 (iB o17)).toArray) ∧ Below w.heap.size w w') := Lib.hid (fun w => by rw [← ho2]; exact pblock_any _ w hov.1)
 have HIF := Lib.hid (lim_size hfv.1.lim.len)
 have HLF : Hid ((ints .u64 F).length = (ints .u64 (List.replicate 5 0)).length) := Lib.hid (by rw [ints_length, hfv.1.lim.len]; rfl)
 have HIr := Lib.hid (blk_size17 (rA_length kb 16))
 have HIq := Lib.hid (blk_size17 (l := iB ((kb.drop 16).take 16 ++ [0])) (by rw [iB_length, hq17]))
 have HIo := Lib.hid (blk_size17 (l := iB o17) (by rw [iB_length, ho1]))
 have HLo : Hid ((ints .u8 (iB o17)).length = (ints .u8 (List.replicate 17 0)).length) := Lib.hid (by rw [ints_length, iB_length, ho1]; rfl)
 have HO1 := Lib.hid ho1
 have HO3 := Lib.hid ho3
 have HMM := Lib.hid hm
 clear hrl hfv hsv ho1 ho2 ho3 hov hrv hav hR hF hD hS hP hO hq17 HOO hm HM
 generalize rA kb 16 = ra at *
 generalize rC kb 3 = rc at *
 generalize iB ((kb.drop 16).take 16 ++ [0]) = sq at *
 obtain ⟨oi, hoi⟩ : ∃ oi, oi = iB o17 := ⟨_, rfl⟩
 rw [← hoi] at C7 HIo HLo
 have HOI := Lib.hid hoi
 clear hoi
 go_upto_region 4 with (fail)
 refine wp_region_from 6 2 7 rfl (by kernel_rfl) (by kernel_rfl) (fun d v c a w h => by cases d <;> exact h) (by kernel_rfl) ?_
 refine det_move _ (.slice a ls.length cap) (by rfl) rfl rfl ?_
 simp only [Act.put, nrm]
 refine det_call _ _ _ [.slice a ls.length cap] (.agg #[.slice none 0 0, .slice a ls.length cap]) (by rfl) rfl Tryd.call48 rfl (fun w hw => of_any a ls.length cap w) ?_
 simp only [Act.put, nrm]
 refine det_load _ _ (A + 1 + 1) (ints .u8 ra) _ (by rfl) rfl rfl (fun w hw => ext_range H3.out hw) Tryd.underlying85 rfl HIr.out ?_
 simp only [Act.put, nrm]
 refine det_call _ _ _ [.agg (ints .u8 ra).toArray] (.agg (ints .u8 rc).toArray) (by rfl) rfl Tryd.call50 rfl (fun w hw => C1.out w) ?_
 simp only [Act.put, nrm]
 refine det_call _ _ _ [.agg (ints .u8 rc).toArray] (.agg (ints .u64 R).toArray) (by rfl) rfl Tryd.call49 rfl (fun w hw => C2.out w) ?_
 simp only [Act.put, nrm]
 refine det_call _ _ _ [.agg #[.slice none 0 0, .slice a ls.length cap], .agg (ints .u64 R).toArray] (.agg (ints .u64 F).toArray) (by rfl) rfl Tryd.call47 rfl (fun w hw => HFO.out w (HE.out.trans hw)) ?_
 simp only [Act.put, nrm]
 refine det_nil (end_var (k := 6) _ 7 (.tmp 21) (ints .u64 (List.replicate 5 0)) (ints .u64 F) rfl rfl (by kernel_rfl) (by kernel_rfl) (by kernel_rfl) (by kernel_rfl) (by kernel_rfl) rfl rfl rfl rfl Tryd.zeroValue86 rfl (by simp) (fun p => rfl) HLF.out HIF.out (ints_one _ _) (fun p5 w5 hp5 hb5 he5 => ?_))
 simp only [Act.put, nrm]
 have H2 := Lib.hid (ext_blk H2.out he5)
 have H4 := Lib.hid (ext_blk H4.out he5)
 have HE := Lib.hid (HE.out.trans he5)
 have H5 := Lib.hid hb5
 clear hb5 he5 hp5 H3
 go_upto_region 5 with (fail)
 refine wp_region_from 7 2 8 rfl (by kernel_rfl) (by kernel_rfl) (fun d v c a w h => by cases d <;> exact h) (by kernel_rfl) ?_
 refine det_load _ _ p5 (ints .u64 F) _ (by rfl) rfl rfl (fun w hw => ext_range H5.out hw) Tryd.underlying86 rfl HIF.out ?_
 simp only [Act.put, nrm]
 refine det_call _ _ _ [.agg (ints .u64 F).toArray] (.agg (ints .u64 D).toArray) (by rfl) rfl Tryd.call54 rfl (fun w hw => C3.out w) ?_
 simp only [Act.put, nrm]
 refine det_load _ _ (A + 1 + 1 + 1) (ints .u8 sq) _ (by rfl) rfl rfl (fun w hw => ext_range H4.out hw) Tryd.underlying85 rfl HIq.out ?_
 simp only [Act.put, nrm]
 refine det_call _ _ _ [.agg (ints .u8 sq).toArray] (.agg (ints .u64 S).toArray) (by rfl) rfl Tryd.call49 rfl (fun w hw => C4.out w) ?_
 simp only [Act.put, nrm]
 refine det_call _ _ _ [.agg (ints .u64 D).toArray, .agg (ints .u64 S).toArray] (.agg (ints .u64 P).toArray) (by rfl) rfl Tryd.call53 rfl (fun w hw => C5.out w) ?_
 simp only [Act.put, nrm]
 refine det_call _ _ _ [.agg (ints .u64 P).toArray] (.agg (ints .u64 O).toArray) (by rfl) rfl Tryd.call52 rfl (fun w hw => C6.out w) ?_
 simp only [Act.put, nrm]
 refine det_call _ _ _ [.agg (ints .u64 O).toArray] (.agg (ints .u8 oi).toArray) (by rfl) rfl Tryd.call51 rfl (fun w hw => C7.out w) ?_
 simp only [Act.put, nrm]
 refine det_nil (end_var (k := 7) _ 8 (.tmp 28) (ints .u8 (List.replicate 17 0)) (ints .u8 oi) rfl rfl (by kernel_rfl) (by kernel_rfl) (by kernel_rfl) (by kernel_rfl) (by kernel_rfl) rfl rfl rfl rfl Tryd.zeroValue85 rfl (by simp) (fun p => rfl) HLo.out HIo.out (ints_one _ _) (fun p6 w6 hp6 hb6 he6 => ?_))
 simp only [Act.put, nrm]
 have H2 := Lib.hid (ext_blk H2.out he6)
 have HE := Lib.hid (HE.out.trans he6)
 rw [HOI.out, ← bval_ints] at hb6
 have H6 := Lib.hid hb6
 clear hb6 he6 hp6 H4 H5
 have HXA := Ext.alloc w6 (.cells (ints .u8 (List.replicate 16 0)).toArray 45)
 obtain ⟨T, hT⟩ : ∃ T, T = w6.heap.size := ⟨_, rfl⟩
 have HTA : Hid (A + 1 < T ∧ p6 < T) := Lib.hid (by have := H2.out.lt; have := H6.out.lt; omega)
 have H7 : Hid (Blk (w6.alloc (.cells (ints .u8 (List.replicate 16 0)).toArray 45)) T ((List.replicate 16 (0 : UInt8)).map bval) 45) := Lib.hid (by rw [hT]; exact Blk.made w6 (ints .u8 (List.replicate 16 0)) 45)
 have H2 := Lib.hid (ext_blk H2.out HXA)
 have H6 := Lib.hid (ext_blk H6.out HXA)
 have HE := Lib.hid (HE.out.trans HXA)
 clear HXA
 go_upto_region 7 with (fail)
 change Code.wp _ _ _ _ (w6.alloc (.cells (ints .u8 (List.replicate 16 0)).toArray 45))
 rw [← hT]
 clear hT
 generalize w6.alloc (.cells (ints .u8 (List.replicate 16 0)).toArray 45) = w7 at *
 refine wp_region_from 2 1 2 rfl (by kernel_rfl) (by kernel_rfl) (fun d v c a w h => by cases d <;> exact h) (by kernel_rfl) ?_
 refine det_val (.slice (some ⟨T, 0, none⟩) 16 16) (by rfl) (fun w hw => by go_simp) ?_
 simp only [Act.put, nrm]
 refine det_val (.slice (some ⟨p6, 0, none⟩) 17 17) (by rfl) (fun w hw => by go_simp) ?_
 simp only [Act.put, nrm]
 refine det_nil (end_store (k := 2) rfl (by kernel_rfl) (by kernel_rfl) (by kernel_rfl) rfl (fun w8 hw8 => ?_))
 have H2 := Lib.hid (ext_blk H2.out hw8)
 have H6 := Lib.hid (ext_blk H6.out hw8)
 have H7 := Lib.hid (ext_blk H7.out hw8)
 have HE := Lib.hid (HE.out.trans hw8)
 clear hw8
 have HTL : Hid ((o17.take 16).length = 16) := Lib.hid (by rw [List.length_take, HO1.out]; rfl)
 refine wp_copy_blk _ _ 25 25 rfl 5 Tryd.underlying25 num_one _ _ _ _ _ _ rfl rfl T 0 _ _ H7.out ((o17.take 16).map bval) (by rw [List.length_map, HTL.out]; rfl) (fun _ => ⟨rfl, ⟨p6, 0, none⟩, rfl, fun j v hj => ?_⟩) (by rw [List.length_map, HTL.out]; simp) (bval_one _) ?_
 ·have hj2 : j < 16 := by
   rcases Nat.lt_or_ge j 16 with h | h
   ·exact h
   ·rw [List.getElem?_eq_none (by rw [List.length_map, HTL.out]; omega)] at hj; cases hj
  rw [WideShapes.add_plain, Nat.zero_add, H6.out.cell, ← hj, List.getElem?_map, List.getElem?_map, List.getElem?_take, if_pos hj2]
 intro w9 hb9 hg9
 rw [tag_laid _ HTL.out] at hb9
 have H2 := Lib.hid (H2.out.grown hg9 (by have := HTA.out; simp; omega))
 have HE := Lib.hid (ext_grown HE.out hg9 (by have := HTA.out; have := HAW.out; omega))
 have H7 := Lib.hid hb9
 clear hb9 hg9
 generalize goInt ((o17.take 16).map bval).length = g3
 simp only [Act.put, nrm]
 generalize o17.take 16 = tg at *
 have HIt : Hid ((Tryd.prog.info? 45).map (·.size) = some (tg.map bval).length) := Lib.hid (ptag_size HTL.out)
 have HLt : Hid ((tg.map bval).length = (ints .u8 (List.replicate 16 0)).length) := Lib.hid (by rw [List.length_map, HTL.out]; rfl)
 go_wp2_with (first | (refine wpList_load_blk rfl _ _ rfl T rfl _ _ _ _ H7.out Tryd.underlying45 HIt.out ?_) | (refine wpList_store_blk rfl _ _ _ rfl (A + 1) (tg.map bval) rfl rfl _ _ H2.out HLt.out HIt.out (bval_one _) ?_; intro w10 hb10 hg10))
 refine bodyPost_ret (result_blk rfl _ (A + 1) _ _ _ _ rfl hb10 Tryd.underlying45 HIt.out) rfl ?_
 exact ⟨by rw [HO3.out, HMM.out], ext_grown HE.out hg10 (by have := HAW.out; omega)⟩
def apartN (a b : List UInt8) : Nat → Nat
 | 0 => a.length ^^^ b.length
 | k + 1 => apartN a b k ||| (a.getD k 0 ^^^ b.getD k 0).toNat
theorem nat_xor_zero (x y : Nat) : x ^^^ y = 0 ↔ x = y := by
 constructor
 ·intro h
  have e : x ^^^ y ^^^ y = y := by rw [h, Nat.zero_xor]
  rwa [Nat.xor_assoc, Nat.xor_self, Nat.xor_zero] at e
 ·rintro rfl
  exact Nat.xor_self _
theorem apartN_zero (a b : List UInt8) : ∀ k, apartN a b k = 0 ↔ a.length = b.length ∧ ∀ i, i < k → a.getD i 0 = b.getD i 0
 | 0 => by
  unfold apartN
  rw [nat_xor_zero]
  exact ⟨fun h => ⟨h, fun i hi => absurd hi (Nat.not_lt_zero _)⟩, fun h => h.1⟩
 | k + 1 => by
  unfold apartN
  rw [Nat.or_eq_zero_iff, apartN_zero a b k]
  have e : (a.getD k 0 ^^^ b.getD k 0).toNat = 0 ↔ a.getD k 0 = b.getD k 0 := by
   rw [UInt8.toNat_xor, nat_xor_zero]
   exact UInt8.toNat_inj
  rw [e]
  constructor
  ·rintro ⟨⟨h1, h2⟩, h3⟩
   refine ⟨h1, fun i hi => ?_⟩
   rcases Nat.lt_or_ge i k with h | h
   ·exact h2 i h
   ·obtain rfl : i = k := by omega
    exact h3
  ·rintro ⟨h1, h2⟩
   exact ⟨⟨h1, fun i hi => h2 i (by omega)⟩, h2 k (by omega)⟩
theorem apartN_same (a b : List UInt8) : apartN a b (min a.length b.length) = 0 ↔ a = b := by
 rw [apartN_zero]
 constructor
 ·rintro ⟨h1, h2⟩
  apply List.ext_getElem h1
  intro i hi1 hi2
  have := h2 i (by omega)
  simpa [List.getD, hi1, hi2] using this
 ·rintro rfl
  exact ⟨rfl, fun _ _ => rfl⟩
theorem apartN_lt (a b : List UInt8) (ha : a.length < 9223372036854775808) (hb : b.length < 9223372036854775808) : ∀ k, apartN a b k < 9223372036854775808
 | 0 => Nat.xor_lt_two_pow (n := 63) ha hb
 | k + 1 => by
  have h := (a.getD k 0 ^^^ b.getD k 0).toNat_lt
  exact Nat.or_lt_two_pow (n := 63) (apartN_lt a b ha hb k) (Nat.lt_trans h (by decide))
theorem xor_i64 (a b : Nat) (ha : a < 9223372036854775808) (hb : b < 9223372036854775808) : bits .xor .i64 (a : Int) (b : Int) = ((a ^^^ b : Nat) : Int) := by
 have h1 : (BitVec.ofInt 64 (a : Int)).toNat = a := by rw [BitVec.toNat_ofInt]; omega
 have h2 : (BitVec.ofInt 64 (b : Int)).toNat = b := by rw [BitVec.toNat_ofInt]; omega
 have hl : a ^^^ b < 9223372036854775808 := Nat.xor_lt_two_pow (n := 63) ha hb
 show IntKind.i64.wrap ((BitVec.ofInt 64 (a : Int) ^^^ BitVec.ofInt 64 (b : Int)).toNat : Nat) = _
 rw [BitVec.toNat_xor, h1, h2, IntKind.wrap_i64]
 omega
set_option maxRecDepth 100000 in
set_option maxHeartbeats 4000000 in
theorem MacSame_num (av bv : Value) (a b : List UInt8) (w : World) (ha : Row1 w av (a.map bval)) (hb : Row1 w bv (b.map bval)) :
  Calls Tryd.prog 26 #[av, bv] w fun e w' => e = .returned (.bool (decide (a = b))) ∧ Below w.heap.size w w' := by
 have HA := Lib.hid ha
 have HB := Lib.hid hb
 obtain ⟨a1, c1, rfl, p1, p2, p3, p4⟩ := id ha
 obtain ⟨a2, c2, rfl, q1, q2, q3, q4⟩ := id hb
 rw [List.length_map] at p1 q1 HA HB ⊢
 rw [List.length_map]
 unfold maxLen at p2 q2
 have hla : a.length < 9223372036854775808 := by omega
 have hlb : b.length < 9223372036854775808 := by omega
 have hx0 := xor_i64 a.length b.length hla hlb
 have HLT := Lib.hid (apartN_lt a b hla hlb)
 have HSAME := Lib.hid (apartN_same a b)
 have HCA := Lib.hid p4
 have HCB := Lib.hid q4
 have HLA := Lib.hid hla
 clear ha hb HA HB p1 p2 p3 p4 q1 q2 q3 q4 hla hlb
 go_enter Tryd.func26, Tryd.ntmps26
 go_upto_region 3 with (fail)
 all_goals
  have HMIN : Hid (∃ m : Nat, m = min a.length b.length ∧ m ≤ a.length ∧ m ≤ b.length) := Lib.hid ⟨_, rfl, Nat.min_le_left _ _, Nat.min_le_right _ _⟩
  obtain ⟨m, hm, m1, m2⟩ := HMIN.out
  have HMB : Hid (m = a.length ∧ a.length ≤ b.length ∨ m = b.length ∧ b.length ≤ a.length) := Lib.hid (by omega)
  rw [← hm] at HSAME
  have HM := Lib.hid hm
  clear hm hx0 HMIN
  go_loopw [5, 17] (fun ap iv wr => ∃ (j : Nat), j ≤ m ∧ ap = .int .i64 (apartN a b j : Int) ∧ iv = .int .i64 (j : Int) ∧ Ext w wr) (fun _ iv _ => m - (intOf iv).toNat)
  case atStart => exact ⟨0, by omega, rfl, rfl, Ext.refl w⟩
  case round =>
   obtain ⟨j, hj, rfl, rfl, hE⟩ := hrel
   have HE := Lib.hid hE
   clear hE
   have k0 : (0 : Int) ≤ (j : Int) := Int.natCast_nonneg _
   by_cases hlj : j < m
   ·have ka : (j : Int) < (a.length : Int) := by omega
    have kb : (j : Int) < (b.length : Int) := by omega
    have hja : j < a.length := by omega
    have j63 : (j : Int) + 1 ≤ 9223372036854775807 := by have := HLA.out; omega
    have hjb : j < b.length := by omega
    obtain ⟨g1, o1, rfl, s1, t1⟩ := HCA.out (by intro e; have h := congrArg List.length e; rw [List.length_map] at h; simp only [List.length_nil] at h; omega)
    obtain ⟨g2, o2, rfl, s2, t2⟩ := HCB.out (by intro e; have h := congrArg List.length e; rw [List.length_map] at h; simp only [List.length_nil] at h; omega)
    have c1 : wr.cell? ⟨g1, o1 + j, none⟩ = some (.int .u8 ((a.getD j 0).toNat : Int)) := by
     have h := t1 j (by rw [List.length_map]; exact hja)
     rw [bval_get hja] at h
     rw [← h]
     exact HE.out.cell (p := ⟨g1, o1 + j, none⟩) s1
    have c2 : wr.cell? ⟨g2, o2 + j, none⟩ = some (.int .u8 ((b.getD j 0).toNat : Int)) := by
     have h := t2 j (by rw [List.length_map]; exact hjb)
     rw [bval_get hjb] at h
     rw [← h]
     exact HE.out.cell (p := ⟨g2, o2 + j, none⟩) s2
    have x1 := xor_u8 (a.getD j 0) (b.getD j 0)
    have hy := (a.getD j 0 ^^^ b.getD j 0).toNat_lt
    have x2 := or_i64 (apartN a b j) (a.getD j 0 ^^^ b.getD j 0).toNat (HLT.out j) (Nat.lt_trans hy (by decide))
    have e2 : (apartN a b j ||| (a.getD j 0 ^^^ b.getD j 0).toNat) = apartN a b (j + 1) := rfl
    rw [e2] at x2
    have w1 : IntKind.i64.wrap (((a.getD j 0 ^^^ b.getD j 0).toNat : Nat) : Int) = ((a.getD j 0 ^^^ b.getD j 0).toNat : Int) := by rw [IntKind.wrap_i64]; omega
    have S1 := Lib.hid s1
    have S2 := Lib.hid s2
    clear e2 s1 s2 t1 t2 HSAME HLT HMB HCA HCB
    generalize (a.getD j 0 ^^^ b.getD j 0).toNat = y at *
    generalize (a.getD j 0).toNat = y1 at *
    generalize (b.getD j 0).toNat = y2 at *
    generalize hz : apartN a b (j + 1) = z at *
    generalize apartN a b j = z0 at *
    have HZ := Lib.hid hz
    clear hz
    go_wp2_with fail
    go_region
    go_wp2_with fail
    go_roundw
    case rel => exact ⟨j + 1, by omega, by rw [HZ.out], by go_num, HE.out.trans (Ext.drew _)⟩
    case measure => simp [intOf]; omega
   ·obtain rfl : j = m := by omega
    have hge : ¬ (j : Int) < (a.length : Int) ∨ ¬ (j : Int) < (b.length : Int) := by rcases HMB.out with h | h <;> omega
    rcases Nat.eq_zero_or_pos (apartN a b j) with hz | hz
    ·have e : decide (a = b) = true := decide_eq_true (HSAME.out.1 hz)
     have t0 : ((apartN a b j : Nat) : Int) = 0 := by omega
     have HD := Lib.hid e
     clear e HSAME
     generalize apartN a b j = z at *
     subst hz
     go_wp2_with fail
     go_ret
     exact ⟨by rw [HD.out]; rfl, HE.out⟩
    ·have e : decide (a = b) = false := decide_eq_false (fun h => by have := HSAME.out.2 h; omega)
     have t0 : (((apartN a b j : Nat) : Int) == 0) = false := by simp; omega
     have HD := Lib.hid e
     clear e HSAME
     generalize apartN a b j = z at *
     go_wp2_with fail
     go_ret
     exact ⟨by rw [HD.out]; rfl, HE.out⟩
theorem Tryd.arr45 : (Tryd.prog.info? 45).map (·.size) = some 16 := by kernel_rfl
theorem tag_size {l : List UInt8} (h : l.length = 16) : (Tryd.prog.info? 45).map (·.size) = some (l.map bval).length := by rw [List.length_map, h]; exact Tryd.arr45
theorem aeaMsg_length (c s : List UInt8) : (aeaMsg c s).length ≤ c.length + s.length + 46 := by
 unfold aeaMsg
 simp only [List.length_append, z16_length, bytesN_length]
 omega
theorem res_two {fn : Func} {i j : Nat} (hf : fn.results = #[.tmp i, .tmp j]) (tmps : Array Value) (w : World) :
  (results fn tmps).run Tryd.prog w = .ok (.tuple #[tmps.getD i undef, tmps.getD j undef]) w := by
 unfold results
 rw [hf]
 simp
def aErr (o : Option (List UInt8)) : Int := if o.isSome then 0 else 10
theorem PSum_valA (kb : List UInt8) (v : Value) (ls : List (List UInt8)) (m : List UInt8) (w : World) (hk : kb.length = 32) (hv : RowB w v ls) (hf : ls.flatten = m) (hm : m.length ≤ 1099511627776) :
  Calls Tryd.prog 29 #[.agg (kb.map bval).toArray, v] w fun e w' => e = .returned (.agg ((polyTag kb m).map bval).toArray) ∧ Below w.heap.size w w' := by
 subst hf
 exact PSum_num kb v ls w hk hv hm
theorem same_true (av bv : Value) (a b : List UInt8) (w : World) (ha : Row1 w av (a.map bval)) (hb : Row1 w bv (b.map bval)) (h : a = b) :
  Calls Tryd.prog 26 #[av, bv] w fun e w' => e = .returned (.bool true) ∧ Below w.heap.size w w' := by
 have hh := MacSame_num av bv a b w ha hb
 rw [decide_eq_true h] at hh
 exact hh
theorem same_false (av bv : Value) (a b : List UInt8) (w : World) (ha : Row1 w av (a.map bval)) (hb : Row1 w bv (b.map bval)) (h : ¬ a = b) :
  Calls Tryd.prog 26 #[av, bv] w fun e w' => e = .returned (.bool false) ∧ Below w.heap.size w w' := by
 have hh := MacSame_num av bv a b w ha hb
 rw [decide_eq_false h] at hh
 exact hh
theorem range_take {w : World} {c : Nat} {cs : List Value} {t : TypeId} (h : Blk w c cs t) (n : Nat) : w.rangeAt c 0 (cs.take n) := fun j v hj => by
 rw [List.getElem?_take] at hj
 split at hj
 ·rw [Nat.zero_add, h.cell]
  exact hj
 ·cases hj
theorem run_array_at {P : Program} {arr e : TypeId} {n : Nat} (hu : P.underlying arr = some (.array n e)) (a : Option Addr) (len cap : Nat) (h : n ≤ len) (w : World) :
  (Instr.arrayAt arr (.slice a len cap)).run P w = .ok (.pointer a) w := by
 unfold Instr.arrayAt
 simp [run_underlying hu, show ¬ len < n by omega]
theorem Concat_two (x y : Value) (l m : List UInt8) (w : World) (hx : Row1 w x (l.map bval)) (hy : Row1 w y (m.map bval)) (hl : (l ++ m).length ≤ 1099511627776) :
  Calls Tryd.prog 13 #[.slice (some ⟨w.heap.size, 0, none⟩) 2 2] (w.alloc (.cells #[x, y] 25)) fun e w' => ∃ z, e = .returned z ∧ w'.ownsRow w.heap.size 5 1 z (l ++ m).length ((l ++ m).map bval) ∧ Ext w w' := by
 have he := Ext.alloc w (.cells #[x, y] 25)
 have h := stdConcat_any _ [l, m] _ (rowB2 (Row1.made w #[x, y] 25 _ 2 [x, y] rfl rfl rfl (by unfold maxLen; omega)) (hx.below he) (hy.below he)) (by simpa using hl)
 refine h.mono fun e w' hh => ?_
 obtain ⟨z, h1, h2, h3⟩ := hh
 rw [show [l, m].flatten = l ++ m from by simp] at h2
 exact ⟨z, h1, own_mono h2 he.size, he.trans h3⟩
set_option maxRecDepth 100000 in
set_option maxHeartbeats 8000000 in
theorem atagOf_any (kb nb c s : List UInt8) (cv sv : Value) (w : World) (hk : kb.length = 32) (hn : nb.length = 12) (hc : Row1 w cv (c.map bval)) (hs : Row1 w sv (s.map bval)) (hcl : c.length ≤ 1000000000) (hsl : s.length ≤ 1000000000) :
  Calls Tryd.prog 18 #[.agg (kb.map bval).toArray, .agg (nb.map bval).toArray, cv, sv] w fun e w' => e = .returned (.agg ((aeaTag kb nb c s).map bval).toArray) ∧ Below w.heap.size w w' := by
 obtain ⟨iq, hq0, hq1, hq2⟩ := info_two (P := Tryd.prog) (t := 25) (z := .slice none 0 0) (n := 1) (by kernel_rfl)
 have HQ0 := Lib.hid hq0
 have HQ1 := Lib.hid hq1
 have HQ2 := Lib.hid hq2
 have HC0 := Lib.hid hc
 have HS0 := Lib.hid hs
 obtain ⟨ac, capc, hcv, c1, c2, _⟩ := id hc
 obtain ⟨ad, caps, hsv, s1, s2, _⟩ := id hs
 rw [List.length_map] at hcv c1 hsv s1
 subst hcv hsv
 unfold maxLen at c2 s2
 have HCL := Lib.hid hcl
 have HSL := Lib.hid hsl
 have HB := Lib.hid (boxes3 w (kb.map bval) (nb.map bval) (ints .u8 (List.replicate 16 0)) 23 39 45)
 have HIK : Hid ((Tryd.prog.info? 23).map (·.size) = some (kb.map bval).length) := Lib.hid (num_size hk)
 have HIN : Hid ((Tryd.prog.info? 39).map (·.size) = some (nb.map bval).length) := Lib.hid (nonce_size hn)
 have HKL := Lib.hid hk
 have HNL := Lib.hid hn
 clear hq0 hq1 hq2 hc hs hk hn
 go_enter Tryd.func18, Tryd.ntmps18
 go_upto_region 1 with (fail)
 obtain ⟨H1, H2, H3, HE⟩ := HB.out
 change Code.wp _ _ _ _ (((w.alloc (.cells (kb.map bval).toArray 23)).alloc (.cells (nb.map bval).toArray 39)).alloc (.cells (ints .u8 (List.replicate 16 0)).toArray 45))
 generalize ((w.alloc (.cells (kb.map bval).toArray 23)).alloc (.cells (nb.map bval).toArray 39)).alloc (.cells (ints .u8 (List.replicate 16 0)).toArray 45) = wa at *
 obtain ⟨A, hA⟩ : ∃ A, A = w.heap.size := ⟨_, rfl⟩
 have HLA : Hid (w.heap.size ≤ A + 1 + 1) := Lib.hid (by omega)
 rw [← hA] at H1 H2 H3 ⊢
 have H1 := Lib.hid H1
 have H2 := Lib.hid H2
 have H3 := Lib.hid H3
 have HE : Hid (Ext w wa) := Lib.hid HE
 clear hA HB
 go_wp2_with (first | (refine wpList_load_blk rfl _ _ rfl A rfl _ _ _ _ H1.out Tryd.underlying23 HIK.out ?_) | (refine wpList_load_blk rfl _ _ rfl (A + 1) rfl _ _ _ _ H2.out Tryd.underlying39 HIN.out ?_))
 refine (CBlock_num kb nb 0 wa HKL.out HNL.out (by decide) (by decide)).mono ?_
 rintro e w1 ⟨rfl, hb⟩
 have H3 := Lib.hid (ext_blk H3.out hb)
 have HE := Lib.hid (HE.out.trans hb)
 clear hb H1 H2
 have HOK : Hid (oneKey kb nb = (chaBlock kb (BitVec.ofInt 32 0) nb).take 32) := Lib.hid rfl
 have HBL := Lib.hid (chaBlock_length kb (BitVec.ofInt 32 0) nb)
 generalize chaBlock kb (BitVec.ofInt 32 0) nb = k at *
 have HZ := Lib.hid (Blk.made w1 (ints .u8 (List.replicate 64 0)) 59)
 have HEA := Lib.hid (Ext.alloc w1 (.cells (ints .u8 (List.replicate 64 0)).toArray 59))
 have HIS : Hid ((Tryd.prog.info? 59).map (·.size) = some (k.map bval).length) := Lib.hid (sig_size HBL.out)
 have HLo : Hid ((k.map bval).length = (ints .u8 (List.replicate 64 0)).length) := Lib.hid (by rw [List.length_map, HBL.out, ints_length, List.length_replicate])
 go_upto_region 2 with (refine wpList_store_blk rfl _ _ _ rfl w1.heap.size (k.map bval) rfl rfl _ _ HZ.out HLo.out HIS.out (bval_one _) ?_; intro w2 hb2 hg2)
 have HE4 := Lib.hid (ext_grown HEA.out hg2 (Nat.le_refl _))
 have H3 := Lib.hid (ext_blk H3.out HE4.out)
 have HE := Lib.hid (HE.out.trans HE4.out)
 obtain ⟨S, hS⟩ : ∃ S, S = w1.heap.size := ⟨_, rfl⟩
 rw [← hS] at hb2 ⊢
 have H4 := Lib.hid (range_take hb2 32)
 clear hb2 hg2 HZ HEA HE4 HLo hS
 rw [← List.map_take, ← HOK.out] at H4
 have HOL : Hid ((oneKey kb nb).length = 32) := Lib.hid (oneKey_length kb nb)
 have HIO : Hid ((Tryd.prog.info? 23).map (·.size) = some ((oneKey kb nb).map bval).length) := Lib.hid (num_size HOL.out)
 have HTG : Hid (aeaTag kb nb c s = polyTag (oneKey kb nb) (aeaMsg c s)) := Lib.hid rfl
 clear HOK
 generalize oneKey kb nb = ok at *
 have HZ := Lib.hid (Blk.made w2 zero32 23)
 have HEA := Lib.hid (Ext.alloc w2 (.cells zero32.toArray 23))
 have HLo : Hid ((ok.map bval).length = zero32.length) := Lib.hid (by rw [List.length_map, HOL.out]; rfl)
 have hat := run_array_at (P := Tryd.prog) Tryd.underlying23 (some ⟨S, 0, none⟩) 32 64 (Nat.le_refl _) w2
 have H3L := Lib.hid H3.out.lt
 go_upto_region 3 with (first | (refine wpList_load_mid rfl _ _ rfl S 0 rfl _ _ H4.out Tryd.underlying23 rfl HIO.out ?_) | (refine wpList_store_blk rfl _ _ _ rfl w2.heap.size (ok.map bval) rfl rfl _ _ HZ.out HLo.out HIO.out (bval_one _) ?_; intro w3 hb3 hg3))
 have HE4 := Lib.hid (ext_grown HEA.out hg3 (Nat.le_refl _))
 have H3 := Lib.hid (ext_blk H3.out HE4.out)
 have HE := Lib.hid (HE.out.trans HE4.out)
 obtain ⟨O, hO⟩ : ∃ O, O = w2.heap.size := ⟨_, rfl⟩
 have hOS : A + 1 + 1 < O := by rw [hO]; exact H3L.out
 rw [← hO] at hb3 ⊢
 have H5 := Lib.hid hb3
 clear hb3 hg3 HZ HEA HE4 HLo hO H4 hat
 have HO : Hid (A + 1 + 1 < O) := Lib.hid (by have := hOS; omega)
 clear hOS
 have HS3 := Lib.hid (HS0.out.below HE.out)
 have HC3 := Lib.hid (HC0.out.below HE.out)
 obtain ⟨m, hm⟩ : ∃ m, m = aeaMsg c s := ⟨_, rfl⟩
 have HFL : Hid ([s, z16 s.length, c, z16 c.length, bytesN 8 s.length, bytesN 8 c.length].flatten = m) := Lib.hid (by rw [hm]; unfold aeaMsg; simp [List.append_assoc])
 have HML : Hid (m.length ≤ 1099511627776) := Lib.hid (by rw [hm]; have := aeaMsg_length c s; have := HCL.out; have := HSL.out; omega)
 rw [← hm] at HTG
 clear hm
 have B0 : Ext w3 w3.drew := Ext.drew _
 refine wp_region_held_drew (S := fun w' => Far (A + 1 + 1) w3 w') (by kernel_rfl) (fars_ext B0) (fun hHeld => ?_)
 refine wpAnyH_take (i := 0) (v := .agg ((ok).map bval).toArray) rfl (by kernel_rfl) (by kernel_rfl) (by kernel_rfl) (fun _ _ _ h => h) (yieldsIf_load_mid (by rfl) _ _ rfl O 0 rfl _ _ (fun w h => fars_range H5.out (by have := HO.out; omega) h) Tryd.underlying23 rfl HIO.out) hHeld ?_
 simp only [Act.put, nrm]
 refine wpAnyH_take (i := 1) (v := .slice ad s.length caps) rfl (by kernel_rfl) (by kernel_rfl) (by kernel_rfl) (fun _ _ _ h => h) (yi_move _ (.slice ad s.length caps) (by rfl) rfl rfl) hHeld ?_
 simp only [Act.put, nrm]
 refine wpAnyH_take (i := 2) (v := .slice ad s.length caps) rfl (by kernel_rfl) (by kernel_rfl) (by kernel_rfl) (fun _ _ _ h => h) (yi_move _ (.slice ad s.length caps) (by rfl) rfl rfl) hHeld ?_
 simp only [Act.put, nrm]
 refine wpAnyH_take (i := 4) (v := .slice ac c.length capc) rfl (by kernel_rfl) (by kernel_rfl) (by kernel_rfl) (fun _ _ _ h => h) (yi_move _ (.slice ac c.length capc) (by rfl) rfl rfl) hHeld ?_
 simp only [Act.put, nrm]
 refine wpAnyH_take (i := 5) (v := .slice ac c.length capc) rfl (by kernel_rfl) (by kernel_rfl) (by kernel_rfl) (fun _ _ _ h => h) (yi_move _ (.slice ac c.length capc) (by rfl) rfl rfl) hHeld ?_
 simp only [Act.put, nrm]
 refine wpAnyH_take (i := 7) (v := .slice ad s.length caps) rfl (by kernel_rfl) (by kernel_rfl) (by kernel_rfl) (fun _ _ _ h => h) (yi_move _ (.slice ad s.length caps) (by rfl) rfl rfl) hHeld ?_
 simp only [Act.put, nrm]
 refine wpAnyH_take (i := 9) (v := .slice ac c.length capc) rfl (by kernel_rfl) (by kernel_rfl) (by kernel_rfl) (fun _ _ _ h => h) (yi_move _ (.slice ac c.length capc) (by rfl) rfl rfl) hHeld ?_
 simp only [Act.put, nrm]
 refine wpAnyH_ready (rs := [3]) (by kernel_rfl) (by simp) (AllReadyH.cons rfl (fun K hK => ?_) AllReadyH.nil)
 go_simp
 refine (afilling_any _ s w3.drew ((HS3.out).below B0)).mono ?_
 rintro e m1 ⟨x1, rfl, o1, b1⟩
 have r1 : Row1 m1 x1 ((z16 s.length).map bval) := Row1.of_own o1
 obtain ⟨a1, c1, hx1, _⟩ := id r1
 rw [show ((z16 s.length).map bval).length = (z16 s.length).length from by rw [List.length_map]] at hx1
 subst hx1
 have N1 : Ext w3 m1 := B0.trans b1
 refine hK.out _ _ (fars_ext N1) (fun hHeld => ?_)
 clear hK K
 try simp only [Act.put, nrm]
 refine wpAnyH_ready (rs := [6]) (by kernel_rfl) (by simp) (AllReadyH.cons rfl (fun K hK => ?_) AllReadyH.nil)
 go_simp
 refine (afilling_any _ c m1 ((HC3.out).below N1)).mono ?_
 rintro e m2 ⟨x2, rfl, o2, b2⟩
 have r1 := r1.below b2
 have r2 : Row1 m2 x2 ((z16 c.length).map bval) := Row1.of_own o2
 obtain ⟨a2, c2, hx2, _⟩ := id r2
 rw [show ((z16 c.length).map bval).length = (z16 c.length).length from by rw [List.length_map]] at hx2
 subst hx2
 have N2 : Ext w3 m2 := N1.trans b2
 refine hK.out _ _ (fars_ext N2) (fun hHeld => ?_)
 clear hK K
 try simp only [Act.put, nrm]
 refine wpAnyH_ready (rs := [8]) (by kernel_rfl) (by simp) (AllReadyH.cons rfl (fun K hK => ?_) AllReadyH.nil)
 go_simp
 refine (alength_any _ s m2 ((HS3.out).below N2)).mono ?_
 rintro e m3 ⟨x3, rfl, o3, b3⟩
 have r1 := r1.below b3
 have r2 := r2.below b3
 have r3 : Row1 m3 x3 ((bytesN 8 s.length).map bval) := Row1.of_own o3
 obtain ⟨a3, c3, hx3, _⟩ := id r3
 rw [show ((bytesN 8 s.length).map bval).length = 8 from by rw [List.length_map, bytesN_length]] at hx3
 subst hx3
 have N3 : Ext w3 m3 := N2.trans b3
 refine hK.out _ _ (fars_ext N3) (fun hHeld => ?_)
 clear hK K
 try simp only [Act.put, nrm]
 refine wpAnyH_ready (rs := [10]) (by kernel_rfl) (by simp) (AllReadyH.cons rfl (fun K hK => ?_) AllReadyH.nil)
 go_simp
 refine (alength_any _ c m3 ((HC3.out).below N3)).mono ?_
 rintro e m4 ⟨x4, rfl, o4, b4⟩
 have r1 := r1.below b4
 have r2 := r2.below b4
 have r3 := r3.below b4
 have r4 : Row1 m4 x4 ((bytesN 8 c.length).map bval) := Row1.of_own o4
 obtain ⟨a4, c4, hx4, _⟩ := id r4
 rw [show ((bytesN 8 c.length).map bval).length = 8 from by rw [List.length_map, bytesN_length]] at hx4
 subst hx4
 have N4 : Ext w3 m4 := N3.trans b4
 refine hK.out _ _ (fars_ext N4) (fun hHeld => ?_)
 clear hK K
 try simp only [Act.put, nrm]
 refine wpAnyH_ready (rs := [11]) (by kernel_rfl) (by simp) (AllReadyH.cons rfl (fun K hK => ?_) AllReadyH.nil)
 refine step_wp (by rfl) ?_
 refine wp_buildSlice_d (some 28) _ _ _ _ rfl rfl #[.slice ad s.length caps, .slice a1 ((z16 s.length).length) c1, .slice ac c.length capc, .slice a2 ((z16 c.length).length) c2, .slice a3 (8) c3, .slice a4 (8) c4] iq (.slice none 0 0) Tryd.underlying49 HQ0.out HQ1.out (by rw [HQ2.out]; decide) (by rw [HQ2.out]; decide) (by rw [HQ2.out]; kernel_rfl) ?_
 obtain ⟨m5, hm5⟩ : ∃ wNew, wNew = World.alloc m4 (.cells #[.slice ad s.length caps, .slice a1 ((z16 s.length).length) c1, .slice ac c.length capc, .slice a2 ((z16 c.length).length) c2, .slice a3 (8) c3, .slice a4 (8) c4] 25) := ⟨_, rfl⟩
 rw [← hm5]
 have b5 : Ext m4 m5 := by rw [hm5]; exact Ext.alloc _ _
 obtain ⟨g5, hg5⟩ : ∃ gNew, gNew = (m4).heap.size := ⟨_, rfl⟩
 rw [← hg5]
 have r1 := r1.below b5
 have r2 := r2.below b5
 have r3 := r3.below b5
 have r4 := r4.below b5
 have r5 : Row1 m5 (.slice (some ⟨g5, 0, none⟩) 6 6) [.slice ad s.length caps, .slice a1 ((z16 s.length).length) c1, .slice ac c.length capc, .slice a2 ((z16 c.length).length) c2, .slice a3 (8) c3, .slice a4 (8) c4] := by rw [hm5, hg5]; exact Row1.made _ _ _ _ _ _ rfl rfl rfl (by unfold maxLen; omega)
 clear hm5 hg5
 have N5 : Ext w3 m5 := N4.trans b5
 refine hK.out _ _ (fars_ext N5) (fun hHeld => ?_)
 clear hK K
 try simp only [Act.put, nrm]
 refine wpAnyH_ready (rs := [12]) (by kernel_rfl) (by simp) (AllReadyH.cons rfl (fun K hK => ?_) AllReadyH.nil)
 go_simp
 refine (PSum_valA ok (.slice (some ⟨g5, 0, none⟩) 6 6) _ m _ HOL.out (rowB6 r5 ((HS3.out).below N5) r1 ((HC3.out).below N5) r2 r3 r4) HFL.out HML.out).mono ?_
 rintro e m6 ⟨rfl, b6⟩
 have r1 := r1.below b6
 have r2 := r2.below b6
 have r3 := r3.below b6
 have r4 := r4.below b6
 have r5 := r5.below b6
 have N6 : Ext w3 m6 := N5.trans b6
 refine hK.out _ _ (fars_ext N6) (fun hHeld => ?_)
 clear hK K
 try simp only [Act.put, nrm]
 refine wpAnyH_ready (rs := [13]) (by kernel_rfl) (by simp) (AllReadyH.cons rfl (fun K hK => ?_) AllReadyH.nil)
 refine step_wp (by rfl) ?_
 refine wp_store_blk _ _ _ rfl (A + 1 + 1) ((polyTag ok m).map bval) rfl rfl _ _ (ext_blk H3.out N6) (by rw [List.length_map, polyTag_length, ints_length]; rfl) (tag_size (polyTag_length _ _)) (bval_one _) ?_
 intro m7 hb7 hg7
 refine hK.out _ _ (fars_put N6 hg7) (fun hHeld => ?_)
 clear hK K
 try simp only [Act.put, nrm]
 refine wpAnyH_done (by kernel_rfl) ?_ _
 have hfin := hb7
 have hNN := ext_grown (HE.out.trans N6) hg7 HLA.out
 generalize m7 = w11 at hfin hNN ⊢
 have HIo : Hid ((Tryd.prog.info? 45).map (·.size) = some ((polyTag ok m).map bval).length) := Lib.hid (tag_size (polyTag_length _ _))
 go_wp2_with fail
 refine bodyPost_ret (result_blk rfl _ (A + 1 + 1) _ _ _ _ rfl hfin Tryd.underlying45 HIo.out) rfl ?_
 exact ⟨by rw [HTG.out], hNN⟩
set_option maxRecDepth 100000 in
set_option maxHeartbeats 4000000 in
theorem ASeal_num (kb nb p s : List UInt8) (pv sv : Value) (w : World) (hk : kb.length = 32) (hn : nb.length = 12) (hp : Row1 w pv (p.map bval)) (hs : Row1 w sv (s.map bval)) (hpl : p.length ≤ 1000000000) (hsl : s.length ≤ 1000000000) :
  Calls Tryd.prog 11 #[.agg (kb.map bval).toArray, .agg (nb.map bval).toArray, pv, sv] w fun e w' => ∃ x, e = .returned x ∧ w'.ownsRow w.heap.size 5 1 x (p.length + 16) ((sealB kb nb p s).map bval) ∧ Below w.heap.size w w' := by
 have HP0 := Lib.hid hp
 have HS0 := Lib.hid hs
 have HPL := Lib.hid hpl
 have HSL := Lib.hid hsl
 have HB := Lib.hid (boxes2 w (kb.map bval) (nb.map bval) 23 39)
 have HIK : Hid ((Tryd.prog.info? 23).map (·.size) = some (kb.map bval).length) := Lib.hid (num_size hk)
 have HIN : Hid ((Tryd.prog.info? 39).map (·.size) = some (nb.map bval).length) := Lib.hid (nonce_size hn)
 have HKL := Lib.hid hk
 have HNL := Lib.hid hn
 clear hp hs hk hn hpl hsl
 go_enter Tryd.func11, Tryd.ntmps11
 go_upto_region 1 with (fail)
 obtain ⟨H1, H2, HE⟩ := HB.out
 change Code.wp _ _ _ _ ((w.alloc (.cells (kb.map bval).toArray 23)).alloc (.cells (nb.map bval).toArray 39))
 generalize (w.alloc (.cells (kb.map bval).toArray 23)).alloc (.cells (nb.map bval).toArray 39) = wa at *
 obtain ⟨A, hA⟩ : ∃ A, A = w.heap.size := ⟨_, rfl⟩
 rw [← hA] at H1 H2 ⊢
 have H1 := Lib.hid H1
 have H2 := Lib.hid H2
 have HE : Hid (Ext w wa) := Lib.hid HE
 have HA := Lib.hid hA
 clear hA HB
 go_wp2_with (first | (refine wpList_load_blk rfl _ _ rfl A rfl _ _ _ _ H1.out Tryd.underlying23 HIK.out ?_) | (refine wpList_load_blk rfl _ _ rfl (A + 1) rfl _ _ _ _ H2.out Tryd.underlying39 HIN.out ?_))
 refine (aturned_any kb nb p _ wa HKL.out HNL.out (HP0.out.below HE.out) (by have := HPL.out; omega)).mono ?_
 rintro e w1 ⟨x1, rfl, ho1, hb1⟩
 have HO1 : Hid (w1.ownsRow w.heap.size 5 1 x1 p.length ((chaTurn kb 1 nb p).map bval)) := Lib.hid (own_mono ho1 HE.out.size)
 have H1 := Lib.hid (ext_blk H1.out hb1)
 have H2 := Lib.hid (ext_blk H2.out hb1)
 have HE := Lib.hid (HE.out.trans hb1)
 clear ho1 hb1
 have HCL := Lib.hid (chaTurn_length kb 1 nb p)
 have HSB : Hid (sealB kb nb p s = chaTurn kb 1 nb p ++ aeaTag kb nb (chaTurn kb 1 nb p) s) := Lib.hid rfl
 generalize chaTurn kb 1 nb p = c at *
 go_wp2_with (first | (refine wpList_load_blk rfl _ _ rfl A rfl _ _ _ _ H1.out Tryd.underlying23 HIK.out ?_) | (refine wpList_load_blk rfl _ _ rfl (A + 1) rfl _ _ _ _ H2.out Tryd.underlying39 HIN.out ?_))
 refine (atagOf_any kb nb c s _ _ w1 HKL.out HNL.out (Row1.of_own HO1.out) (HS0.out.below HE.out) (by rw [HCL.out]; exact HPL.out) HSL.out).mono ?_
 rintro e w2 ⟨rfl, hb⟩
 have HE := Lib.hid (HE.out.trans hb)
 have HO2 := Lib.hid (own_below HO1.out hb)
 clear hb HO1 H1 H2
 have HTL := Lib.hid (aeaTag_length kb nb c s)
 generalize aeaTag kb nb c s = tg at *
 have HZ := Lib.hid (Blk.made w2 (ints .u8 (List.replicate 16 0)) 45)
 have HEA := Lib.hid (Ext.alloc w2 (.cells (ints .u8 (List.replicate 16 0)).toArray 45))
 have HIT : Hid ((Tryd.prog.info? 45).map (·.size) = some (tg.map bval).length) := Lib.hid (tag_size HTL.out)
 have HLo : Hid ((tg.map bval).length = (ints .u8 (List.replicate 16 0)).length) := Lib.hid (by rw [List.length_map, HTL.out, ints_length, List.length_replicate])
 go_upto_region 3 with (refine wpList_store_blk rfl _ _ _ rfl w2.heap.size (tg.map bval) rfl rfl _ _ HZ.out HLo.out HIT.out (bval_one _) ?_; intro w3 hb3 hg3)
 have HE4 := Lib.hid (ext_grown HEA.out hg3 (Nat.le_refl _))
 have HO3 := Lib.hid (own_below HO2.out HE4.out)
 have HE := Lib.hid (HE.out.trans HE4.out)
 obtain ⟨T, hT⟩ : ∃ T, T = w2.heap.size := ⟨_, rfl⟩
 rw [← hT] at hb3 ⊢
 have HTR := Lib.hid (blk_row (n := 16) hb3 (by rw [List.length_map, HTL.out]) (by unfold maxLen; omega))
 clear hb3 hg3 HZ HEA HE4 HLo hT HO2
 have HR1 := Lib.hid (Row1.of_own HO3.out)
 obtain ⟨a1, c1, hx1, _⟩ := id HR1.out
 rw [List.length_map, HCL.out] at hx1
 subst hx1
 have HF : Hid ((c ++ tg).length = p.length + 16) := Lib.hid (by rw [List.length_append, HTL.out, HCL.out])
 clear HO3
 go_wp2_with fail
 refine (Concat_two _ _ c tg w3 HR1.out HTR.out (by rw [HF.out]; have := HPL.out; omega)).mono ?_
 rintro e w4 ⟨z, rfl, ho, hb⟩
 have HO4 := Lib.hid (own_mono ho HE.out.size)
 have HE4 := Lib.hid (HE.out.trans hb)
 clear ho hb
 go_wp2_with fail
 go_ret
 exact ⟨_, rfl, own_eq HO4.out HF.out (by rw [HSB.out]), HE4.out⟩
set_option maxRecDepth 100000 in
set_option maxHeartbeats 8000000 in
theorem AOpen_num (kb nb b s : List UInt8) (bv sv : Value) (w : World) (hk : kb.length = 32) (hn : nb.length = 12) (hb : Row1 w bv (b.map bval)) (hs : Row1 w sv (s.map bval)) (hbl : b.length ≤ 1000000000) (hsl : s.length ≤ 1000000000) :
  Calls Tryd.prog 15 #[.agg (kb.map bval).toArray, .agg (nb.map bval).toArray, bv, sv] w fun e w' => ∃ x, e = .returned (.tuple #[x, .int .i64 (aErr (openB kb nb b s))]) ∧ Row1 w' x (((openB kb nb b s).getD []).map bval) ∧ Below w.heap.size w w' := by
 have HB0 := Lib.hid hb
 have HS0 := Lib.hid hs
 have HBL := Lib.hid hbl
 have HSL := Lib.hid hsl
 obtain ⟨ab, capb, hbv, r1, r2, _⟩ := id hb
 rw [List.length_map] at hbv r1
 subst hbv
 obtain ⟨ad, caps, hsv, _⟩ := id hs
 subst hsv
 unfold maxLen at r2
 have HB := Lib.hid (boxes2 w (kb.map bval) (nb.map bval) 23 39)
 have HIK : Hid ((Tryd.prog.info? 23).map (·.size) = some (kb.map bval).length) := Lib.hid (num_size hk)
 have HIN : Hid ((Tryd.prog.info? 39).map (·.size) = some (nb.map bval).length) := Lib.hid (nonce_size hn)
 have HKL := Lib.hid hk
 have HNL := Lib.hid hn
 have hb0 : (0 : Int) ≤ (b.length : Int) := Int.natCast_nonneg _
 clear hb hs hk hn hsl
 go_enter Tryd.func15, Tryd.ntmps15
 go_upto_region 1 with (fail)
 obtain ⟨H1, H2, HE⟩ := HB.out
 change Code.wp _ _ _ _ ((w.alloc (.cells (kb.map bval).toArray 23)).alloc (.cells (nb.map bval).toArray 39))
 generalize (w.alloc (.cells (kb.map bval).toArray 23)).alloc (.cells (nb.map bval).toArray 39) = wa at *
 obtain ⟨A, hA⟩ : ∃ A, A = w.heap.size := ⟨_, rfl⟩
 rw [← hA] at H1 H2 ⊢
 have H1 := Lib.hid H1
 have H2 := Lib.hid H2
 have HE : Hid (Ext w wa) := Lib.hid HE
 clear hA HB
 by_cases h16 : b.length < 16
 ·have h16' : (b.length : Int) - 16 < 0 := by omega
  have h17' : (b.length : Int) < 16 := by omega
  have HON := Lib.hid (openB_short kb nb s h16)
  go_wp2_with fail
  refine bodyPost_ret (res_two rfl _ _) rfl ?_
  exact ⟨_, by rw [HON.out]; rfl, by rw [HON.out]; exact Row1.nil _, HE.out⟩
 ·obtain ⟨q, hq⟩ : ∃ q, q = b.length - 16 := ⟨_, rfl⟩
  have q1 : (b.length : Int) - 16 = (q : Int) := by omega
  have q0 : (0 : Int) ≤ (q : Int) := Int.natCast_nonneg _
  have q2 : ¬ (q : Int) < 0 := by omega
  have hql : q ≤ (b.map bval).length := by rw [List.length_map]; omega
  have HQL : Hid (q ≤ 1000000000) := Lib.hid (by omega)
  have HQT : Hid ((b.take q).length ≤ 1099511627776) := Lib.hid (by rw [List.length_take]; omega)
  have HOP : Hid (openB kb nb b s = if aeaTag kb nb (b.take q) s = b.drop q then some (chaTurn kb 1 nb (b.take q)) else none) := Lib.hid (by
   unfold openB
   rw [if_neg h16, ← hq])
  have HBR := Lib.hid (HB0.out.below HE.out)
  obtain ⟨vt, ht, st⟩ := row_upto Tryd.underlying25 Tryd.sizeOf5 HBR.out q hql
  obtain ⟨at1, nt1, ct1, rfl⟩ := row_form2 ht
  rw [← List.map_take] at ht
  have HTR := Lib.hid ht
  have HST := Lib.hid st
  obtain ⟨vh, hh, sh⟩ := row_cut Tryd.underlying25 Tryd.sizeOf5 HBR.out q hql
  obtain ⟨ah, nh, ch, rfl⟩ := row_form2 hh
  rw [← List.map_drop] at hh
  have HHR := Lib.hid hh
  have HSH := Lib.hid sh
  have hqcap : (q : Int) ≤ (capb : Int) := by rw [List.length_map] at hql; omega
  have HSR := Lib.hid (HS0.out.below HE.out)
  clear ht hh st sh hbl hq h16 hql
  have HTL := Lib.hid (aeaTag_length kb nb (b.take q) s)
  have HIT : Hid ((Tryd.prog.info? 45).map (·.size) = some ((aeaTag kb nb (b.take q) s).map bval).length) := Lib.hid (tag_size HTL.out)
  have HLo : Hid (((aeaTag kb nb (b.take q) s).map bval).length = (ints .u8 (List.replicate 16 0)).length) := Lib.hid (by rw [List.length_map, HTL.out, ints_length, List.length_replicate])
  have HCT : Hid (∀ wx, Ext wa wx → Calls Tryd.prog 18 #[.agg (kb.map bval).toArray, .agg (nb.map bval).toArray, .slice at1 nt1 ct1, .slice ad (s.map bval).length caps] wx fun e w' => e = .returned (.agg ((aeaTag kb nb (b.take q) s).map bval).toArray) ∧ Below wx.heap.size wx w') := Lib.hid (fun wx hx => atagOf_any kb nb (b.take q) s _ _ wx HKL.out HNL.out (HTR.out.below hx) (HSR.out.below hx) (by rw [List.length_take]; have := HQL.out; omega) HSL.out)
  obtain ⟨tg, htg⟩ : ∃ tg, tg = aeaTag kb nb (b.take q) s := ⟨_, rfl⟩
  rw [← htg] at HTL HIT HLo HCT HOP
  clear htg
  generalize (s.map bval).length = sl at *
  go_upto_region 4 with (fail)
  refine wp_region_from 7 2 8 rfl (by kernel_rfl) (by kernel_rfl) (fun d v c a w h => by cases d <;> exact h) (by kernel_rfl) ?_
  refine det_load _ _ A (kb.map bval) _ (by rfl) rfl rfl (fun w hw => ext_range H1.out hw) Tryd.underlying23 rfl HIK.out ?_
  simp only [Act.put, nrm]
  refine det_load _ _ (A + 1) (nb.map bval) _ (by rfl) rfl rfl (fun w hw => ext_range H2.out hw) Tryd.underlying39 rfl HIN.out ?_
  simp only [Act.put, nrm]
  refine det_move _ (.slice ab b.length capb) (by rfl) rfl rfl ?_
  simp only [Act.put, nrm]
  refine det_move _ (.int .i64 ((q : Nat) : Int)) (by rfl) rfl rfl ?_
  simp only [Act.put, nrm]
  refine det_val (.slice at1 nt1 ct1) (by rfl) (fun w hw => by have st := HST.out; unfold execOp; simp only [Act.eval, Sem.run_bind, Option.map_some, Option.map_none]; go_simp) ?_
  simp only [Act.put, nrm]
  refine det_move _ (.slice ad sl caps) (by rfl) rfl rfl ?_
  simp only [Act.put, nrm]
  refine det_call _ _ _ [.agg (kb.map bval).toArray, .agg (nb.map bval).toArray, .slice at1 nt1 ct1, .slice ad sl caps] (.agg (tg.map bval).toArray) (by rfl) rfl Tryd.call18 rfl (fun w hw => HCT.out w hw) ?_
  simp only [Act.put, nrm]
  refine det_nil (end_var (k := 7) _ 11 (.tmp 23) (ints .u8 (List.replicate 16 0)) (tg.map bval) rfl rfl (by kernel_rfl) (by kernel_rfl) (by kernel_rfl) (by kernel_rfl) (by kernel_rfl) rfl rfl rfl rfl Tryd.zeroValue45 rfl (by simp) (fun p => rfl) HLo.out HIT.out (bval_one _) (fun p7 w7 hp7 hb7 he7 => ?_))
  simp only [Act.put, nrm]
  have H1 := Lib.hid (ext_blk H1.out he7)
  have H2 := Lib.hid (ext_blk H2.out he7)
  have H7 := Lib.hid hb7
  have HB7 := Lib.hid (HBR.out.below he7)
  have HT7 := Lib.hid (HTR.out.below he7)
  have HH7 := Lib.hid (HHR.out.below he7)
  have HE := Lib.hid (HE.out.trans he7)
  clear hb7 he7 hp7 HCT HSR HBR HTR HHR HLo
  go_upto_region 5 with (fail)
  by_cases heq : tg = b.drop q
  ·have HOS : Hid (openB kb nb b s = some (chaTurn kb 1 nb (b.take q))) := Lib.hid (by rw [HOP.out, if_pos heq])
   have rb := HH7.out
   have B0 : Ext w7 w7.drew := Ext.drew _
   refine wp_region_held_drew (S := fun w' => Ext w7 w') (by kernel_rfl) B0 (fun hHeld => ?_)
   have rb := rb.below (Ext.drew _)
   refine wpAnyH_take (i := 0) (v := .slice (some ⟨p7, 0, none⟩) 16 16) rfl (by kernel_rfl) (by kernel_rfl) (by kernel_rfl) (fun _ _ _ h => h) (yi_slice _ _ _ _ (.pointer (some ⟨p7, 0, none⟩)) (.slice (some ⟨p7, 0, none⟩) 16 16) none none (by rfl) rfl rfl rfl rfl (fun w => cut_whole Tryd.underlying45 Tryd.sizeOf5 (by omega) _ w)) hHeld ?_
   simp only [Act.put, nrm]
   refine wpAnyH_take (i := 1) (v := .slice ab b.length capb) rfl (by kernel_rfl) (by kernel_rfl) (by kernel_rfl) (fun _ _ _ h => h) (yi_move _ (.slice ab b.length capb) (by rfl) rfl rfl) hHeld ?_
   simp only [Act.put, nrm]
   refine wpAnyH_take (i := 2) (v := .int .i64 ((q : Nat) : Int)) rfl (by kernel_rfl) (by kernel_rfl) (by kernel_rfl) (fun _ _ _ h => h) (yi_move _ (.int .i64 ((q : Nat) : Int)) (by rfl) rfl rfl) hHeld ?_
   simp only [Act.put, nrm]
   refine wpAnyH_take (i := 3) (v := .slice ah nh ch) rfl (by kernel_rfl) (by kernel_rfl) (by kernel_rfl) (fun _ _ _ h => h) (yi_slice _ _ _ _ (.slice ab b.length capb) (.slice ah nh ch) (some (.int .i64 ((q : Nat) : Int))) none (by rfl) rfl rfl rfl rfl HSH.out) hHeld ?_
   simp only [Act.put, nrm]
   refine wpAnyH_ready (rs := [4]) (by kernel_rfl) (by simp) (AllReadyH.cons rfl (fun K hK => ?_) AllReadyH.nil)
   go_simp
   refine (same_true (.slice (some ⟨p7, 0, none⟩) 16 16) (.slice ah nh ch) tg (b.drop q) w7.drew ((blk_row (n := 16) H7.out (by rw [List.length_map]; exact HTL.out) (by unfold maxLen; omega)).below B0) rb heq).mono ?_
   rintro e m1 ⟨rfl, b1⟩
   have rb := rb.below b1
   have N1 : Ext w7 m1 := B0.trans b1
   refine hK.out _ _ N1 (fun hHeld => ?_)
   clear hK K
   try simp only [Act.put, nrm]
   refine wpAnyH_take (i := 5) (v := .bool false) rfl (by kernel_rfl) (by kernel_rfl) (by kernel_rfl) (fun _ _ _ h => h) (yi_not _ _ true (by rfl) rfl rfl) hHeld ?_
   simp only [Act.put, nrm]
   refine wpAnyH_done (by kernel_rfl) ?_ _
   have HN8 : Hid (Ext w7 m1) := Lib.hid N1
   generalize m1 = w8 at HN8 ⊢
   have H1 := Lib.hid (ext_blk H1.out HN8.out)
   have H2 := Lib.hid (ext_blk H2.out HN8.out)
   have HB8 := Lib.hid (HB7.out.below HN8.out)
   have HT8 := Lib.hid (HT7.out.below HN8.out)
   have HE := Lib.hid (HE.out.trans HN8.out)
   clear HOP heq
   go_upto_region 7 with (fail)
   have rt := HT8.out
   have B0 : Ext w8 w8.drew := Ext.drew _
   refine wp_region_held_drew (S := fun w' => Ext w8 w') (by kernel_rfl) B0 (fun hHeld => ?_)
   have rt := rt.below (Ext.drew _)
   refine wpAnyH_take (i := 0) (v := .agg ((kb).map bval).toArray) rfl (by kernel_rfl) (by kernel_rfl) (by kernel_rfl) (fun _ _ _ h => h) (yieldsIf_load_mid (by rfl) _ _ rfl A 0 rfl _ _ (fun w h => bl_range H1.out h) Tryd.underlying23 rfl HIK.out) hHeld ?_
   simp only [Act.put, nrm]
   refine wpAnyH_take (i := 1) (v := .agg ((nb).map bval).toArray) rfl (by kernel_rfl) (by kernel_rfl) (by kernel_rfl) (fun _ _ _ h => h) (yieldsIf_load_mid (by rfl) _ _ rfl (A + 1) 0 rfl _ _ (fun w h => bl_range H2.out h) Tryd.underlying39 rfl HIN.out) hHeld ?_
   simp only [Act.put, nrm]
   refine wpAnyH_take (i := 2) (v := .slice ab b.length capb) rfl (by kernel_rfl) (by kernel_rfl) (by kernel_rfl) (fun _ _ _ h => h) (yi_move _ (.slice ab b.length capb) (by rfl) rfl rfl) hHeld ?_
   simp only [Act.put, nrm]
   refine wpAnyH_take (i := 3) (v := .int .i64 ((q : Nat) : Int)) rfl (by kernel_rfl) (by kernel_rfl) (by kernel_rfl) (fun _ _ _ h => h) (yi_move _ (.int .i64 ((q : Nat) : Int)) (by rfl) rfl rfl) hHeld ?_
   simp only [Act.put, nrm]
   refine wpAnyH_take (i := 4) (v := .slice at1 nt1 ct1) rfl (by kernel_rfl) (by kernel_rfl) (by kernel_rfl) (fun _ _ _ h => h) (yi_slice _ _ _ _ (.slice ab b.length capb) (.slice at1 nt1 ct1) none (some (.int .i64 ((q : Nat) : Int))) (by rfl) rfl rfl rfl rfl HST.out) hHeld ?_
   simp only [Act.put, nrm]
   refine wpAnyH_ready (rs := [5]) (by kernel_rfl) (by simp) (AllReadyH.cons rfl (fun K hK => ?_) AllReadyH.nil)
   go_simp
   refine (aturned_any kb nb (b.take q) _ w8.drew HKL.out HNL.out rt HQT.out).mono ?_
   rintro e m1 ⟨x1, rfl, o1, b1⟩
   have rt := rt.below b1
   have r1 : Row1 m1 x1 ((chaTurn kb 1 nb (b.take q)).map bval) := Row1.of_own o1
   obtain ⟨a1, c1, hx1, _⟩ := id r1
   rw [show ((chaTurn kb 1 nb (b.take q)).map bval).length = (chaTurn kb 1 nb (b.take q)).length from by rw [List.length_map]] at hx1
   subst hx1
   have N1 : Ext w8 m1 := B0.trans b1
   refine hK.out _ _ N1 (fun hHeld => ?_)
   clear hK K
   try simp only [Act.put, nrm]
   refine wpAnyH_take (i := 6) (v := .slice a1 ((chaTurn kb 1 nb (b.take q)).length) c1) rfl (by kernel_rfl) (by kernel_rfl) (by kernel_rfl) (fun _ _ _ h => h) (yi_assign _ (.slice a1 ((chaTurn kb 1 nb (b.take q)).length) c1) (by rfl) rfl rfl) hHeld ?_
   simp only [Act.put, nrm]
   refine wpAnyH_ready (rs := [7]) (by kernel_rfl) (by simp) (AllReadyH.cons rfl (fun K hK => ?_) AllReadyH.nil)
   go_simp
   refine hK.out _ _ N1 (fun hHeld => ?_)
   clear hK K
   try simp only [Act.put, nrm]
   refine wpAnyH_done (by kernel_rfl) ?_ _
   go_wp2_with fail
   refine bodyPost_ret (res_two rfl _ _) rfl ?_
   exact ⟨_, by rw [HOS.out]; rfl, by rw [HOS.out]; exact r1, HE.out.trans N1⟩
  ·have HOS : Hid (openB kb nb b s = none) := Lib.hid (by rw [HOP.out, if_neg heq])
   have rb := HH7.out
   have B0 : Ext w7 w7.drew := Ext.drew _
   refine wp_region_held_drew (S := fun w' => Ext w7 w') (by kernel_rfl) B0 (fun hHeld => ?_)
   have rb := rb.below (Ext.drew _)
   refine wpAnyH_take (i := 0) (v := .slice (some ⟨p7, 0, none⟩) 16 16) rfl (by kernel_rfl) (by kernel_rfl) (by kernel_rfl) (fun _ _ _ h => h) (yi_slice _ _ _ _ (.pointer (some ⟨p7, 0, none⟩)) (.slice (some ⟨p7, 0, none⟩) 16 16) none none (by rfl) rfl rfl rfl rfl (fun w => cut_whole Tryd.underlying45 Tryd.sizeOf5 (by omega) _ w)) hHeld ?_
   simp only [Act.put, nrm]
   refine wpAnyH_take (i := 1) (v := .slice ab b.length capb) rfl (by kernel_rfl) (by kernel_rfl) (by kernel_rfl) (fun _ _ _ h => h) (yi_move _ (.slice ab b.length capb) (by rfl) rfl rfl) hHeld ?_
   simp only [Act.put, nrm]
   refine wpAnyH_take (i := 2) (v := .int .i64 ((q : Nat) : Int)) rfl (by kernel_rfl) (by kernel_rfl) (by kernel_rfl) (fun _ _ _ h => h) (yi_move _ (.int .i64 ((q : Nat) : Int)) (by rfl) rfl rfl) hHeld ?_
   simp only [Act.put, nrm]
   refine wpAnyH_take (i := 3) (v := .slice ah nh ch) rfl (by kernel_rfl) (by kernel_rfl) (by kernel_rfl) (fun _ _ _ h => h) (yi_slice _ _ _ _ (.slice ab b.length capb) (.slice ah nh ch) (some (.int .i64 ((q : Nat) : Int))) none (by rfl) rfl rfl rfl rfl HSH.out) hHeld ?_
   simp only [Act.put, nrm]
   refine wpAnyH_ready (rs := [4]) (by kernel_rfl) (by simp) (AllReadyH.cons rfl (fun K hK => ?_) AllReadyH.nil)
   go_simp
   refine (same_false (.slice (some ⟨p7, 0, none⟩) 16 16) (.slice ah nh ch) tg (b.drop q) w7.drew ((blk_row (n := 16) H7.out (by rw [List.length_map]; exact HTL.out) (by unfold maxLen; omega)).below B0) rb heq).mono ?_
   rintro e m1 ⟨rfl, b1⟩
   have rb := rb.below b1
   have N1 : Ext w7 m1 := B0.trans b1
   refine hK.out _ _ N1 (fun hHeld => ?_)
   clear hK K
   try simp only [Act.put, nrm]
   refine wpAnyH_take (i := 5) (v := .bool true) rfl (by kernel_rfl) (by kernel_rfl) (by kernel_rfl) (fun _ _ _ h => h) (yi_not _ _ false (by rfl) rfl rfl) hHeld ?_
   simp only [Act.put, nrm]
   refine wpAnyH_done (by kernel_rfl) ?_ _
   have HN8 : Hid (Ext w7 m1) := Lib.hid N1
   generalize m1 = w8 at HN8 ⊢
   have HE := Lib.hid (HE.out.trans HN8.out)
   clear HOP heq
   go_wp2_with fail
   refine bodyPost_ret (res_two rfl _ _) rfl ?_
   exact ⟨_, by rw [HOS.out]; rfl, by rw [HOS.out]; exact Row1.nil _, HE.out⟩
end Go.Proofs.YtimmnieopifcbaaDoor
