/- Bytes as limbs of 26 bits, and limbs as bytes. No program. Each theorem names its own conditions. -/
import Derived.Test.YtjnnhkodkbhbbaaPlyM
namespace Go.Proofs.Ytjnnhkodkbhbbaa
open Go.RowKit
set_option linter.unusedVariables false
set_option linter.unusedSimpArgs false

/-- Seventeen bytes. -/
def D17 (zs : List Int) : Prop := zs.length = 17 ∧ ∀ i, 0 ≤ zs.getD i 0 ∧ zs.getD i 0 ≤ 255
def w4 (zs : List Int) (o : Nat) : Int := zs.getD o 0 + 256 * zs.getD (o + 1) 0 + 65536 * zs.getD (o + 2) 0 + 16777216 * zs.getD (o + 3) 0
theorem w4_val {zs : List Int} (h : D17 zs) (o : Nat) (ho : o + 4 ≤ 17) : w4 zs o = gV 256 zs / 256 ^ o % 4294967296 := by
  obtain ⟨hl, hd⟩ := h
  rw [gV_div (by omega) (by omega) (fun i hi => by have := hd i; omega)]
  have g : ∀ k, (zs.drop o).getD k 0 = zs.getD (o + k) 0 := fun k => getD_drop
  have hl2 : (zs.drop o).length = 17 - o := by rw [List.length_drop, hl]
  have h0 := hd o
  have h1 := hd (o + 1)
  have h2 := hd (o + 2)
  have h3 := hd (o + 3)
  unfold w4
  have g0 := g 0
  have g1 := g 1
  have g2 := g 2
  have g3 := g 3
  generalize zs.drop o = ys at *
  match ys, hl2 with
  | y0 :: y1 :: y2 :: y3 :: r, _ =>
    simp only [List.getD_cons_zero, List.getD_cons_succ, Nat.add_zero] at g0 g1 g2 g3
    simp only [gV]
    generalize gV 256 r = R
    omega
  | [], h => simp at h; omega
  | [_], h => simp at h; omega
  | [_, _], h => simp at h; omega
  | [_, _, _], h => simp at h; omega
/-- The limbs that bytes stand for, as they are laid. -/
def lO (zs : List Int) : Nat → List Int
  | 0 => List.replicate 5 0
  | k + 1 => (lO zs k).set k (w4 zs (26 * k / 8) / 2 ^ (26 * k % 8) % 67108864)
theorem lO_length (zs : List Int) : ∀ k, (lO zs k).length = 5
  | 0 => by simp [lO]
  | k + 1 => by rw [lO, List.length_set, lO_length zs k]
theorem lO_five (zs : List Int) : lO zs 5 = [w4 zs 0 / 1 % 67108864, w4 zs 3 / 4 % 67108864, w4 zs 6 / 16 % 67108864, w4 zs 9 / 64 % 67108864, w4 zs 13 / 1 % 67108864] := by
  simp only [lO, List.replicate, List.set]
  rfl
def limL (zs : List Int) : List Int := lO zs 5
theorem limL_val {zs : List Int} (h : D17 zs) : Lim 67108863 (limL zs) ∧ gV 67108864 (limL zs) = gV 256 zs % two130 := by
  have e0 := w4_val h 0 (by omega)
  have e1 := w4_val h 3 (by omega)
  have e2 := w4_val h 6 (by omega)
  have e3 := w4_val h 9 (by omega)
  have e4 := w4_val h 13 (by omega)
  have hN : 0 ≤ gV 256 zs := gV_nonneg (fun i => (h.2 i).1)
  unfold limL
  rw [lO_five, e0, e1, e2, e3, e4]
  rw [show (256 : Int) ^ 0 = 1 from rfl, show (256 : Int) ^ 3 = 16777216 from rfl, show (256 : Int) ^ 6 = 281474976710656 from by decide +kernel, show (256 : Int) ^ 9 = 4722366482869645213696 from by decide +kernel, show (256 : Int) ^ 13 = 20282409603651670423947251286016 from by decide +kernel]
  generalize gV 256 zs = N at *
  clear e0 e1 e2 e3 e4 h
  have f0 : N / 1 % 4294967296 / 1 % 67108864 = N % 67108864 := by omega
  have f1 : N / 16777216 % 4294967296 / 4 % 67108864 = N / 67108864 % 67108864 := by omega
  have f2 : N / 281474976710656 % 4294967296 / 16 % 67108864 = N / 4503599627370496 % 67108864 := by omega
  have f3 : N / 4722366482869645213696 % 4294967296 / 64 % 67108864 = N / 302231454903657293676544 % 67108864 := by omega
  have f4 : N / 20282409603651670423947251286016 % 4294967296 / 1 % 67108864 = N / 20282409603651670423947251286016 % 67108864 := by omega
  rw [f0, f1, f2, f3, f4]
  refine ⟨⟨_, _, _, _, _, rfl, by omega, by omega, by omega, by omega, by omega⟩, ?_⟩
  rw [gV5]
  unfold two130
  clear f0 f1 f2 f3 f4
  omega

theorem or_fin2 : ∀ (x : Fin 4) (y : Fin 64), bits .or .u8 (x.val : Int) ((y.val : Int) * 4) = (x.val : Int) + (y.val : Int) * 4 := by decide +kernel
theorem or_fin4 : ∀ (x : Fin 16) (y : Fin 16), bits .or .u8 (x.val : Int) ((y.val : Int) * 16) = (x.val : Int) + (y.val : Int) * 16 := by decide +kernel
theorem or_fin6 : ∀ (x : Fin 64) (y : Fin 4), bits .or .u8 (x.val : Int) ((y.val : Int) * 64) = (x.val : Int) + (y.val : Int) * 64 := by decide +kernel
theorem or_fin8 : ∀ (y : Fin 256), bits .or .u8 0 (y.val : Int) = (y.val : Int) := by decide +kernel
theorem or_0 {y : Int} (h : 0 ≤ y ∧ y < 256) : bits .or .u8 0 y = y := by
  obtain ⟨n, rfl⟩ : ∃ n : Nat, y = (n : Int) := ⟨y.toNat, by omega⟩
  exact or_fin8 ⟨n, by omega⟩
theorem or_2 {x y : Int} (hx : 0 ≤ x ∧ x < 4) (hy : 0 ≤ y ∧ y < 64) : bits .or .u8 x (y * 4) = x + y * 4 := by
  obtain ⟨m, rfl⟩ : ∃ n : Nat, x = (n : Int) := ⟨x.toNat, by omega⟩
  obtain ⟨n, rfl⟩ : ∃ n : Nat, y = (n : Int) := ⟨y.toNat, by omega⟩
  exact or_fin2 ⟨m, by omega⟩ ⟨n, by omega⟩
theorem or_4 {x y : Int} (hx : 0 ≤ x ∧ x < 16) (hy : 0 ≤ y ∧ y < 16) : bits .or .u8 x (y * 16) = x + y * 16 := by
  obtain ⟨m, rfl⟩ : ∃ n : Nat, x = (n : Int) := ⟨x.toNat, by omega⟩
  obtain ⟨n, rfl⟩ : ∃ n : Nat, y = (n : Int) := ⟨y.toNat, by omega⟩
  exact or_fin4 ⟨m, by omega⟩ ⟨n, by omega⟩
theorem or_6 {x y : Int} (hx : 0 ≤ x ∧ x < 64) (hy : 0 ≤ y ∧ y < 4) : bits .or .u8 x (y * 64) = x + y * 64 := by
  obtain ⟨m, rfl⟩ : ∃ n : Nat, x = (n : Int) := ⟨x.toNat, by omega⟩
  obtain ⟨n, rfl⟩ : ∃ n : Nat, y = (n : Int) := ⟨y.toNat, by omega⟩
  exact or_fin6 ⟨m, by omega⟩ ⟨n, by omega⟩
/-- A limb's four bytes, from the byte q on, so many bits up; n of them. -/
def oN (c : List Int) (z : Int) (q s : Nat) : Nat → List Int
  | 0 => c
  | n + 1 => (oN c z q s n).set (q + n) (bits .or .u8 ((oN c z q s n).getD (q + n) 0) (z * 2 ^ s / 2 ^ (8 * n) % 256))
theorem oN_length (c : List Int) (z : Int) (q s : Nat) : ∀ n, (oN c z q s n).length = c.length
  | 0 => rfl
  | n + 1 => by rw [oN, List.length_set, oN_length c z q s n]
/-- The bytes of limbs, i of these laid. -/
def oI (x : List Int) : Nat → List Int
  | 0 => List.replicate 17 0
  | i + 1 => oN (oI x i) (x.getD i 0) (26 * i / 8) (26 * i % 8) 4
theorem oI_length (x : List Int) : ∀ i, (oI x i).length = 17
  | 0 => by simp [oI]
  | i + 1 => by rw [oI, oN_length, oI_length x i]
theorem oN4 (c : List Int) (z : Int) (q s : Nat) : oN c z q s 4 = (((c.set q (bits .or .u8 (c.getD q 0) (z * 2 ^ s % 256))).set (q + 1) (bits .or .u8 (c.getD (q + 1) 0) (z * 2 ^ s / 256 % 256))).set (q + 2) (bits .or .u8 (c.getD (q + 2) 0) (z * 2 ^ s / 65536 % 256))).set (q + 3) (bits .or .u8 (c.getD (q + 3) 0) (z * 2 ^ s / 16777216 % 256)) := by
  simp only [oN]
  rw [getD_set_far (by omega), getD_set_far (by omega), getD_set_far (by omega), getD_set_far (by omega), getD_set_far (by omega), getD_set_far (by omega)]
  rw [show (2 : Int) ^ (8 * 0) = 1 from rfl, show (2 : Int) ^ (8 * 1) = 256 from rfl, show (2 : Int) ^ (8 * 2) = 65536 from rfl, show (2 : Int) ^ (8 * 3) = 16777216 from rfl, Int.ediv_one, Nat.add_zero]
def ou (x y : Int) : Int := bits .or .u8 x y
theorem oN_0 (c0 c1 c2 c3 c4 c5 c6 c7 c8 c9 c10 c11 c12 c13 c14 c15 c16 z : Int) : oN [c0, c1, c2, c3, c4, c5, c6, c7, c8, c9, c10, c11, c12, c13, c14, c15, c16] z 0 0 4 = [(ou c0 (z * 2 ^ 0 % 256)), (ou c1 (z * 2 ^ 0 / 256 % 256)), (ou c2 (z * 2 ^ 0 / 65536 % 256)), (ou c3 (z * 2 ^ 0 / 16777216 % 256)), c4, c5, c6, c7, c8, c9, c10, c11, c12, c13, c14, c15, c16] := by
  rw [oN4]
  rfl
theorem oN_3 (c0 c1 c2 c3 c4 c5 c6 c7 c8 c9 c10 c11 c12 c13 c14 c15 c16 z : Int) : oN [c0, c1, c2, c3, c4, c5, c6, c7, c8, c9, c10, c11, c12, c13, c14, c15, c16] z 3 2 4 = [c0, c1, c2, (ou c3 (z * 2 ^ 2 % 256)), (ou c4 (z * 2 ^ 2 / 256 % 256)), (ou c5 (z * 2 ^ 2 / 65536 % 256)), (ou c6 (z * 2 ^ 2 / 16777216 % 256)), c7, c8, c9, c10, c11, c12, c13, c14, c15, c16] := by
  rw [oN4]
  rfl
theorem oN_6 (c0 c1 c2 c3 c4 c5 c6 c7 c8 c9 c10 c11 c12 c13 c14 c15 c16 z : Int) : oN [c0, c1, c2, c3, c4, c5, c6, c7, c8, c9, c10, c11, c12, c13, c14, c15, c16] z 6 4 4 = [c0, c1, c2, c3, c4, c5, (ou c6 (z * 2 ^ 4 % 256)), (ou c7 (z * 2 ^ 4 / 256 % 256)), (ou c8 (z * 2 ^ 4 / 65536 % 256)), (ou c9 (z * 2 ^ 4 / 16777216 % 256)), c10, c11, c12, c13, c14, c15, c16] := by
  rw [oN4]
  rfl
theorem oN_9 (c0 c1 c2 c3 c4 c5 c6 c7 c8 c9 c10 c11 c12 c13 c14 c15 c16 z : Int) : oN [c0, c1, c2, c3, c4, c5, c6, c7, c8, c9, c10, c11, c12, c13, c14, c15, c16] z 9 6 4 = [c0, c1, c2, c3, c4, c5, c6, c7, c8, (ou c9 (z * 2 ^ 6 % 256)), (ou c10 (z * 2 ^ 6 / 256 % 256)), (ou c11 (z * 2 ^ 6 / 65536 % 256)), (ou c12 (z * 2 ^ 6 / 16777216 % 256)), c13, c14, c15, c16] := by
  rw [oN4]
  rfl
theorem oN_13 (c0 c1 c2 c3 c4 c5 c6 c7 c8 c9 c10 c11 c12 c13 c14 c15 c16 z : Int) : oN [c0, c1, c2, c3, c4, c5, c6, c7, c8, c9, c10, c11, c12, c13, c14, c15, c16] z 13 0 4 = [c0, c1, c2, c3, c4, c5, c6, c7, c8, c9, c10, c11, c12, (ou c13 (z * 2 ^ 0 % 256)), (ou c14 (z * 2 ^ 0 / 256 % 256)), (ou c15 (z * 2 ^ 0 / 65536 % 256)), (ou c16 (z * 2 ^ 0 / 16777216 % 256))] := by
  rw [oN4]
  rfl
theorem oI_five (a b c d e : Int) : oI [a, b, c, d, e] 5 = [ou 0 (a * 2 ^ 0 % 256), ou 0 (a * 2 ^ 0 / 256 % 256), ou 0 (a * 2 ^ 0 / 65536 % 256), ou (ou 0 (a * 2 ^ 0 / 16777216 % 256)) (b * 2 ^ 2 % 256), ou 0 (b * 2 ^ 2 / 256 % 256), ou 0 (b * 2 ^ 2 / 65536 % 256),
    ou (ou 0 (b * 2 ^ 2 / 16777216 % 256)) (c * 2 ^ 4 % 256), ou 0 (c * 2 ^ 4 / 256 % 256), ou 0 (c * 2 ^ 4 / 65536 % 256), ou (ou 0 (c * 2 ^ 4 / 16777216 % 256)) (d * 2 ^ 6 % 256), ou 0 (d * 2 ^ 6 / 256 % 256), ou 0 (d * 2 ^ 6 / 65536 % 256), ou 0 (d * 2 ^ 6 / 16777216 % 256),
    ou 0 (e * 2 ^ 0 % 256), ou 0 (e * 2 ^ 0 / 256 % 256), ou 0 (e * 2 ^ 0 / 65536 % 256), ou 0 (e * 2 ^ 0 / 16777216 % 256)] := by
  show oN (oN (oN (oN (oN [0, 0, 0, 0, 0, 0, 0, 0, 0, 0, 0, 0, 0, 0, 0, 0, 0] a 0 0 4) b 3 2 4) c 6 4 4) d 9 6 4) e 13 0 4 = _
  rw [oN_0, oN_3, oN_6, oN_9, oN_13]
def blkL (x : List Int) : List Int := oI x 5
theorem blkL_val {x : List Int} (hx : Lim 67108863 x) : D17 (blkL x) ∧ gV 256 (blkL x) = gV 67108864 x := by
  obtain ⟨a, b, c, d, e, rfl, h1, h2, h3, h4, h5⟩ := hx
  have e0 : (2 : Int) ^ 0 = 1 := rfl
  have e2 : (2 : Int) ^ 2 = 4 := rfl
  have e4 : (2 : Int) ^ 4 = 16 := rfl
  have e6 : (2 : Int) ^ 6 = 64 := rfl
  have hb : b * 4 % 256 = b % 64 * 4 := by omega
  have hc : c * 16 % 256 = c % 16 * 16 := by omega
  have hd : d * 64 % 256 = d % 4 * 64 := by omega
  have key : blkL [a, b, c, d, e] = [a % 256, a / 256 % 256, a / 65536 % 256, a / 16777216 % 256 + b % 64 * 4, b * 4 / 256 % 256, b * 4 / 65536 % 256, b * 4 / 16777216 % 256 + c % 16 * 16, c * 16 / 256 % 256, c * 16 / 65536 % 256, c * 16 / 16777216 % 256 + d % 4 * 64, d * 64 / 256 % 256, d * 64 / 65536 % 256, d * 64 / 16777216 % 256,
      e % 256, e / 256 % 256, e / 65536 % 256, e / 16777216 % 256] := by
    unfold blkL
    rw [oI_five, e0, e2, e4, e6]
    unfold ou
    simp only [Int.mul_one]
    rw [hb, hc, hd]
    have o : ∀ y : Int, bits .or .u8 0 (y % 256) = y % 256 := fun y => or_0 (by omega)
    simp only [o]
    rw [or_2 (by omega) (by omega), or_4 (by omega) (by omega), or_6 (by omega) (by omega)]
  rw [key]
  clear key hb hc hd e0 e2 e4 e6
  refine ⟨⟨rfl, fun i => ?_⟩, ?_⟩
  · match i with
    | 0 => simp only [List.getD_cons_zero]; omega
    | 1 => simp only [List.getD_cons_zero, List.getD_cons_succ]; omega
    | 2 => simp only [List.getD_cons_zero, List.getD_cons_succ]; omega
    | 3 => simp only [List.getD_cons_zero, List.getD_cons_succ]; omega
    | 4 => simp only [List.getD_cons_zero, List.getD_cons_succ]; omega
    | 5 => simp only [List.getD_cons_zero, List.getD_cons_succ]; omega
    | 6 => simp only [List.getD_cons_zero, List.getD_cons_succ]; omega
    | 7 => simp only [List.getD_cons_zero, List.getD_cons_succ]; omega
    | 8 => simp only [List.getD_cons_zero, List.getD_cons_succ]; omega
    | 9 => simp only [List.getD_cons_zero, List.getD_cons_succ]; omega
    | 10 => simp only [List.getD_cons_zero, List.getD_cons_succ]; omega
    | 11 => simp only [List.getD_cons_zero, List.getD_cons_succ]; omega
    | 12 => simp only [List.getD_cons_zero, List.getD_cons_succ]; omega
    | 13 => simp only [List.getD_cons_zero, List.getD_cons_succ]; omega
    | 14 => simp only [List.getD_cons_zero, List.getD_cons_succ]; omega
    | 15 => simp only [List.getD_cons_zero, List.getD_cons_succ]; omega
    | 16 => simp only [List.getD_cons_zero, List.getD_cons_succ]; omega
    | n + 17 => simp
  · rw [gV5]
    have ha : a = a % 256 + 256 * (a / 256 % 256) + 65536 * (a / 65536 % 256) + 16777216 * (a / 16777216 % 256) := by omega
    have hb : b = b % 64 + 64 * (b * 4 / 256 % 256) + 16384 * (b * 4 / 65536 % 256) + 4194304 * (b * 4 / 16777216 % 256) := by omega
    have hc : c = c % 16 + 16 * (c * 16 / 256 % 256) + 4096 * (c * 16 / 65536 % 256) + 1048576 * (c * 16 / 16777216 % 256) := by omega
    have hd : d = d % 4 + 4 * (d * 64 / 256 % 256) + 1024 * (d * 64 / 65536 % 256) + 262144 * (d * 64 / 16777216 % 256) := by omega
    have he : e = e % 256 + 256 * (e / 256 % 256) + 65536 * (e / 65536 % 256) + 16777216 * (e / 16777216 % 256) := by omega
    simp only [gV]
    generalize a % 256 = a0 at *
    generalize a / 256 % 256 = a1 at *
    generalize a / 65536 % 256 = a2 at *
    generalize a / 16777216 % 256 = a3 at *
    generalize b % 64 = b0 at *
    generalize b * 4 / 256 % 256 = b1 at *
    generalize b * 4 / 65536 % 256 = b2 at *
    generalize b * 4 / 16777216 % 256 = b3 at *
    generalize c % 16 = c0 at *
    generalize c * 16 / 256 % 256 = c1 at *
    generalize c * 16 / 65536 % 256 = c2 at *
    generalize c * 16 / 16777216 % 256 = c3 at *
    generalize d % 4 = d0 at *
    generalize d * 64 / 256 % 256 = d1 at *
    generalize d * 64 / 65536 % 256 = d2 at *
    generalize d * 64 / 16777216 % 256 = d3 at *
    generalize e % 256 = f0 at *
    generalize e / 256 % 256 = f1 at *
    generalize e / 65536 % 256 = f2 at *
    generalize e / 16777216 % 256 = f3 at *
    clear h1 h2 h3 h4 h5
    omega

end Go.Proofs.Ytjnnhkodkbhbbaa
