/- Numbers of five limbs of 51 bits: carried, times, squared, joined, ones; what they are modulo 2^255 - 19. No program. Each theorem names its own conditions. -/
import Derived.Test.YtmiapjmdolecbaaDoorFieldMath
namespace Go.Proofs.YtmiapjmdolecbaaDoor
set_option linter.unusedVariables false

/-- Five limbs, the lowest first. -/
structure L5 where
  a : Nat
  b : Nat
  c : Nat
  d : Nat
  e : Nat
/-- The limbs as the code has them. -/
def L5.vs (x : L5) : List Value := [.int .u64 x.a, .int .u64 x.b, .int .u64 x.c, .int .u64 x.d, .int .u64 x.e]
def L5.v (x : L5) : Value := .agg x.vs.toArray
/-- Each limb is below B. -/
def L5.lt (B : Nat) (x : L5) : Prop := x.a < B ∧ x.b < B ∧ x.c < B ∧ x.d < B ∧ x.e < B
/-- The number. -/
def L5.val (x : L5) : Nat := x.a + 2251799813685248 * x.b + 5070602400912917605986812821504 * x.c + 11417981541647679048466287755595961091061972992 * x.d + 25711008708143844408671393477458601640355247900524685364822016 * x.e
theorem L5.vs_one (x : L5) : ∀ v ∈ x.vs, v.oneCell' = true := by
  intro v hv
  simp only [L5.vs, List.mem_cons, List.not_mem_nil, or_false] at hv
  rcases hv with rfl | rfl | rfl | rfl | rfl <;> rfl
theorem L5.lt.mono {B B' : Nat} {x : L5} (h : x.lt B) (hb : B ≤ B') : x.lt B' := ⟨Nat.lt_of_lt_of_le h.1 hb, Nat.lt_of_lt_of_le h.2.1 hb, Nat.lt_of_lt_of_le h.2.2.1 hb, Nat.lt_of_lt_of_le h.2.2.2.1 hb, Nat.lt_of_lt_of_le h.2.2.2.2 hb⟩

/-- What does not fit into a limb handed on once. -/
def carriedL (x : L5) : L5 := ⟨x.a % 2251799813685248 + 19 * (x.e / 2251799813685248), x.b % 2251799813685248 + x.a / 2251799813685248, x.c % 2251799813685248 + x.b / 2251799813685248, x.d % 2251799813685248 + x.c / 2251799813685248, x.e % 2251799813685248 + x.d / 2251799813685248⟩
theorem carriedL_lt (x : L5) (h : x.lt 18446744073709551616) : (carriedL x).lt 2251799813947392 := by
  obtain ⟨h1, h2, h3, h4, h5⟩ := h
  refine ⟨?_, ?_, ?_, ?_, ?_⟩ <;> simp only [carriedL] <;> omega
theorem carriedL_val (x : L5) : Cong ((carriedL x).val : Nat) (x.val : Nat) := by
  refine ⟨-((x.e / 2251799813685248 : Nat) : Int), ?_⟩
  simp only [carriedL, L5.val]
  have hp : pP = 57896044618658097711785492504343953926634992332820282019728792003956564819949 := rfl
  rw [hp]
  omega

/-- The columns of a product. -/
def col0 (x y : L5) : Nat := x.a * y.a + 19 * x.b * y.e + 19 * x.c * y.d + 19 * x.d * y.c + 19 * x.e * y.b
def col1 (x y : L5) : Nat := x.a * y.b + x.b * y.a + 19 * x.c * y.e + 19 * x.d * y.d + 19 * x.e * y.c
def col2 (x y : L5) : Nat := x.a * y.c + x.b * y.b + x.c * y.a + 19 * x.d * y.e + 19 * x.e * y.d
def col3 (x y : L5) : Nat := x.a * y.d + x.b * y.c + x.c * y.b + x.d * y.a + 19 * x.e * y.e
def col4 (x y : L5) : Nat := x.a * y.e + x.b * y.d + x.c * y.c + x.d * y.b + x.e * y.a
/-- The columns handed on once. -/
def rowsL (v w x y z : Nat) : L5 := ⟨v % 2251799813685248 + 19 * (z / 2251799813685248), w % 2251799813685248 + v / 2251799813685248, x % 2251799813685248 + w / 2251799813685248, y % 2251799813685248 + x / 2251799813685248, z % 2251799813685248 + y / 2251799813685248⟩
def timesL (x y : L5) : L5 := carriedL (rowsL (col0 x y) (col1 x y) (col2 x y) (col3 x y) (col4 x y))

theorem mul_lt54 {x y : Nat} (hx : x < 18014398509481984) (hy : y < 18014398509481984) : x * y ≤ 324518553658426690754359001612289 := by
  have := Nat.mul_le_mul (show x ≤ 18014398509481983 by omega) (show y ≤ 18014398509481983 by omega)
  omega
theorem mul_lt54' {x y : Nat} (hx : x < 18014398509481984) (hy : y < 18014398509481984) : 19 * x * y ≤ 6165852519510107124332821030633491 := by
  have := mul_lt54 hx hy
  rw [Nat.mul_assoc]
  omega
theorem cols_lt {x y : L5} (hx : x.lt 18014398509481984) (hy : y.lt 18014398509481984) :
    col0 x y ≤ 77 * 324518553658426690754359001612289 ∧ col1 x y ≤ 77 * 324518553658426690754359001612289 ∧ col2 x y ≤ 77 * 324518553658426690754359001612289 ∧ col3 x y ≤ 77 * 324518553658426690754359001612289 ∧ col4 x y ≤ 5 * 324518553658426690754359001612289 := by
  obtain ⟨x1, x2, x3, x4, x5⟩ := hx
  obtain ⟨y1, y2, y3, y4, y5⟩ := hy
  refine ⟨?_, ?_, ?_, ?_, ?_⟩
  · have := mul_lt54 x1 y1; have := mul_lt54' x2 y5; have := mul_lt54' x3 y4; have := mul_lt54' x4 y3; have := mul_lt54' x5 y2
    unfold col0; omega
  · have := mul_lt54 x1 y2; have := mul_lt54 x2 y1; have := mul_lt54' x3 y5; have := mul_lt54' x4 y4; have := mul_lt54' x5 y3
    unfold col1; omega
  · have := mul_lt54 x1 y3; have := mul_lt54 x2 y2; have := mul_lt54 x3 y1; have := mul_lt54' x4 y5; have := mul_lt54' x5 y4
    unfold col2; omega
  · have := mul_lt54 x1 y4; have := mul_lt54 x2 y3; have := mul_lt54 x3 y2; have := mul_lt54 x4 y1; have := mul_lt54' x5 y5
    unfold col3; omega
  · have := mul_lt54 x1 y5; have := mul_lt54 x2 y4; have := mul_lt54 x3 y3; have := mul_lt54 x4 y2; have := mul_lt54 x5 y1
    unfold col4; omega
theorem rowsL_lt {v w x y z : Nat} (hv : v ≤ 77 * 324518553658426690754359001612289) (hw : w ≤ 77 * 324518553658426690754359001612289) (hx : x ≤ 77 * 324518553658426690754359001612289) (hy : y ≤ 77 * 324518553658426690754359001612289) (hz : z ≤ 5 * 324518553658426690754359001612289) : (rowsL v w x y z).lt 18446744073709551616 := by
  refine ⟨?_, ?_, ?_, ?_, ?_⟩ <;> simp only [rowsL] <;> omega
theorem timesL_lt {x y : L5} (hx : x.lt 18014398509481984) (hy : y.lt 18014398509481984) : (timesL x y).lt 18014398509481984 := by
  obtain ⟨h1, h2, h3, h4, h5⟩ := cols_lt hx hy
  exact (carriedL_lt _ (rowsL_lt h1 h2 h3 h4 h5)).mono (by omega)
theorem rowsL_val (v w x y z : Nat) : Cong ((rowsL v w x y z).val : Nat) ((L5.mk v w x y z).val : Nat) := by
  refine ⟨-((z / 2251799813685248 : Nat) : Int), ?_⟩
  simp only [rowsL, L5.val]
  have hp : pP = 57896044618658097711785492504343953926634992332820282019728792003956564819949 := rfl
  rw [hp]
  omega
theorem cols_ring (R a b c d e f g h i j : Int) : (a * f + 19 * b * j + 19 * c * i + 19 * d * h + 19 * e * g) + R * (a * g + b * f + 19 * c * j + 19 * d * i + 19 * e * h) + R ^ 2 * (a * h + b * g + c * f + 19 * d * j + 19 * e * i) + R ^ 3 * (a * i + b * h + c * g + d * f + 19 * e * j) + R ^ 4 * (a * j + b * i + c * h + d * g + e * f)
    - (a + R * b + R ^ 2 * c + R ^ 3 * d + R ^ 4 * e) * (f + R * g + R ^ 2 * h + R ^ 3 * i + R ^ 4 * j) = (R ^ 5 - 19) * -(b * j + c * i + d * h + e * g + R * (c * j + d * i + e * h) + R ^ 2 * (d * j + e * i) + R ^ 3 * (e * j)) := by grind
theorem val_int (a b c d e : Nat) : (((L5.mk a b c d e).val : Nat) : Int) = (a : Int) + 2251799813685248 * (b : Int) + 5070602400912917605986812821504 * (c : Int) + 11417981541647679048466287755595961091061972992 * (d : Int) + 25711008708143844408671393477458601640355247900524685364822016 * (e : Int) := by
  simp only [L5.val]
  omega
theorem cols_val (x y : L5) : Cong ((L5.mk (col0 x y) (col1 x y) (col2 x y) (col3 x y) (col4 x y)).val : Nat) ((x.val : Int) * (y.val : Nat)) := by
  obtain ⟨a, b, c, d, e⟩ := x
  obtain ⟨f, g, h, i, j⟩ := y
  have key := cols_ring 2251799813685248 a b c d e f g h i j
  have k2 : (2251799813685248 : Int) ^ 2 = 5070602400912917605986812821504 := by decide +kernel
  have k3 : (2251799813685248 : Int) ^ 3 = 11417981541647679048466287755595961091061972992 := by decide +kernel
  have k4 : (2251799813685248 : Int) ^ 4 = 25711008708143844408671393477458601640355247900524685364822016 := by decide +kernel
  have k5 : (2251799813685248 : Int) ^ 5 - 19 = pP := by decide +kernel
  rw [k2, k3, k4, k5] at key
  have c0 : ((col0 ⟨a, b, c, d, e⟩ ⟨f, g, h, i, j⟩ : Nat) : Int) = a * f + 19 * b * j + 19 * c * i + 19 * d * h + 19 * e * g := by simp only [col0, Int.natCast_add, Int.natCast_mul]; rfl
  have c1 : ((col1 ⟨a, b, c, d, e⟩ ⟨f, g, h, i, j⟩ : Nat) : Int) = a * g + b * f + 19 * c * j + 19 * d * i + 19 * e * h := by simp only [col1, Int.natCast_add, Int.natCast_mul]; rfl
  have c2 : ((col2 ⟨a, b, c, d, e⟩ ⟨f, g, h, i, j⟩ : Nat) : Int) = a * h + b * g + c * f + 19 * d * j + 19 * e * i := by simp only [col2, Int.natCast_add, Int.natCast_mul]; rfl
  have c3 : ((col3 ⟨a, b, c, d, e⟩ ⟨f, g, h, i, j⟩ : Nat) : Int) = a * i + b * h + c * g + d * f + 19 * e * j := by simp only [col3, Int.natCast_add, Int.natCast_mul]; rfl
  have c4 : ((col4 ⟨a, b, c, d, e⟩ ⟨f, g, h, i, j⟩ : Nat) : Int) = a * j + b * i + c * h + d * g + e * f := by simp only [col4, Int.natCast_add, Int.natCast_mul]
  rw [val_int, val_int, val_int, c0, c1, c2, c3, c4]
  exact ⟨_, key⟩
theorem timesL_val (x y : L5) : Cong ((timesL x y).val : Nat) ((x.val : Int) * (y.val : Nat)) := (carriedL_val _).trans ((rowsL_val _ _ _ _ _).trans (cols_val x y))

/-- Squared n times. -/
def sqL (x : L5) : Nat → L5
  | 0 => x
  | n + 1 => timesL (sqL x n) (sqL x n)
theorem sqL_lt {x : L5} (hx : x.lt 18014398509481984) : ∀ n, (sqL x n).lt 18014398509481984
  | 0 => hx
  | n + 1 => timesL_lt (sqL_lt hx n) (sqL_lt hx n)
theorem sqL_val (x : L5) {y : Int} {k : Nat} (h : Cong (x.val : Nat) (y ^ k)) : ∀ n, Cong ((sqL x n).val : Nat) (y ^ (k * 2 ^ n))
  | 0 => by simpa [sqL] using h
  | n + 1 => by
    have ih := sqL_val x h n
    have := (timesL_val (sqL x n) (sqL x n)).trans (ih.mul ih)
    rw [← Int.pow_add] at this
    have e : k * 2 ^ n + k * 2 ^ n = k * 2 ^ (n + 1) := by rw [Nat.pow_succ, ← Nat.mul_assoc]; omega
    rwa [e] at this
def joinL (x : L5) (n : Nat) (y : L5) : L5 := timesL (sqL x n) y
theorem joinL_lt {x y : L5} (n : Nat) (hx : x.lt 18014398509481984) (hy : y.lt 18014398509481984) : (joinL x n y).lt 18014398509481984 := timesL_lt (sqL_lt hx n) hy
theorem joinL_val {x y : L5} {z : Int} {k l : Nat} (n : Nat) (hx : Cong (x.val : Nat) (z ^ k)) (hy : Cong (y.val : Nat) (z ^ l)) : Cong ((joinL x n y).val : Nat) (z ^ (k * 2 ^ n + l)) := by
  have := (timesL_val (sqL x n) y).trans ((sqL_val x hx n).mul hy)
  rwa [← Int.pow_add] at this
/-- The chain of joins: 2, 4, 5, 10, 20, 40, 50, 100, 200, 250 ones. -/
def o2 (x : L5) : L5 := joinL x 1 x
def o4 (x : L5) : L5 := joinL (o2 x) 2 (o2 x)
def o5 (x : L5) : L5 := joinL (o4 x) 1 x
def o10 (x : L5) : L5 := joinL (o5 x) 5 (o5 x)
def o20 (x : L5) : L5 := joinL (o10 x) 10 (o10 x)
def o40 (x : L5) : L5 := joinL (o20 x) 20 (o20 x)
def o50 (x : L5) : L5 := joinL (o40 x) 10 (o10 x)
def o100 (x : L5) : L5 := joinL (o50 x) 50 (o50 x)
def o200 (x : L5) : L5 := joinL (o100 x) 100 (o100 x)
def onesL (x : L5) : L5 := joinL (o200 x) 50 (o50 x)
theorem o2_lt {x : L5} (h : x.lt 18014398509481984) : (o2 x).lt 18014398509481984 := joinL_lt _ h h
theorem o4_lt {x : L5} (h : x.lt 18014398509481984) : (o4 x).lt 18014398509481984 := joinL_lt _ (o2_lt h) (o2_lt h)
theorem o5_lt {x : L5} (h : x.lt 18014398509481984) : (o5 x).lt 18014398509481984 := joinL_lt _ (o4_lt h) h
theorem o10_lt {x : L5} (h : x.lt 18014398509481984) : (o10 x).lt 18014398509481984 := joinL_lt _ (o5_lt h) (o5_lt h)
theorem o20_lt {x : L5} (h : x.lt 18014398509481984) : (o20 x).lt 18014398509481984 := joinL_lt _ (o10_lt h) (o10_lt h)
theorem o40_lt {x : L5} (h : x.lt 18014398509481984) : (o40 x).lt 18014398509481984 := joinL_lt _ (o20_lt h) (o20_lt h)
theorem o50_lt {x : L5} (h : x.lt 18014398509481984) : (o50 x).lt 18014398509481984 := joinL_lt _ (o40_lt h) (o10_lt h)
theorem o100_lt {x : L5} (h : x.lt 18014398509481984) : (o100 x).lt 18014398509481984 := joinL_lt _ (o50_lt h) (o50_lt h)
theorem o200_lt {x : L5} (h : x.lt 18014398509481984) : (o200 x).lt 18014398509481984 := joinL_lt _ (o100_lt h) (o100_lt h)
theorem onesL_lt {x : L5} (h : x.lt 18014398509481984) : (onesL x).lt 18014398509481984 := joinL_lt _ (o200_lt h) (o50_lt h)
theorem pow1 (z : Int) : z = z ^ 1 := by rw [Int.pow_succ, Int.pow_zero, Int.one_mul]
theorem onesL_val {x : L5} {z : Int} (h : Cong (x.val : Nat) z) : Cong ((onesL x).val : Nat) (z ^ (2 ^ 250 - 1)) := by
  have h1 : Cong (x.val : Nat) (z ^ 1) := by rw [← pow1]; exact h
  have h2 : Cong ((o2 x).val : Nat) (z ^ 3) := joinL_val 1 h1 h1
  have h4 : Cong ((o4 x).val : Nat) (z ^ 15) := joinL_val 2 h2 h2
  have h5 : Cong ((o5 x).val : Nat) (z ^ 31) := joinL_val 1 h4 h1
  have h10 : Cong ((o10 x).val : Nat) (z ^ 1023) := joinL_val 5 h5 h5
  have h20 : Cong ((o20 x).val : Nat) (z ^ 1048575) := joinL_val 10 h10 h10
  have h40 : Cong ((o40 x).val : Nat) (z ^ 1099511627775) := joinL_val 20 h20 h20
  have h50 : Cong ((o50 x).val : Nat) (z ^ 1125899906842623) := joinL_val 10 h40 h10
  have h100 : Cong ((o100 x).val : Nat) (z ^ 1267650600228229401496703205375) := joinL_val 50 h50 h50
  have h200 : Cong ((o200 x).val : Nat) (z ^ 1606938044258990275541962092341162602522202993782792835301375) := joinL_val 100 h100 h100
  exact joinL_val 50 h200 h50

end Go.Proofs.YtmiapjmdolecbaaDoor
