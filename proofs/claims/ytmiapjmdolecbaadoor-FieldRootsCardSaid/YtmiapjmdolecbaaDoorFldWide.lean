/- The walks of the code's arithmetic on 128 bits: Mul64, Add64, product, plus, above. Each theorem names its own conditions. -/
import Derived.Test.YtmiapjmdolecbaaDoorProg
import Derived.Test.YtmiapjmdolecbaaDoorDetSteps
import Derived.Lib.Mul64
import Derived.Laws.Bits64b
import Derived.Laws.Externs
namespace Go.Proofs.YtmiapjmdolecbaaDoor
open Go.RowKit
set_option linter.unusedVariables false
set_option linter.unusedSimpArgs false

theorem w64 {a : Nat} (ha : a < 18446744073709551616) : IntKind.u64.wrap (a : Int) = (a : Int) := by rw [IntKind.wrap_u64]; omega
theorem w64m (a : Nat) : IntKind.u64.wrap (a : Int) = ((a % 18446744073709551616 : Nat) : Int) := by rw [IntKind.wrap_u64]; omega
theorem mask32 (a : Nat) (ha : a < 18446744073709551616) : bits .and .u64 (a : Int) 4294967295 = ((a % 4294967296 : Nat) : Int) := by
  have h := bits_and_u64_nat a 4294967295 ha (by omega)
  have e : a &&& 4294967295 = a % 4294967296 := Nat.and_two_pow_sub_one_eq_mod a 32
  rw [e] at h
  exact h
theorem mask51 (a : Nat) (ha : a < 18446744073709551616) : bits .and .u64 (a : Int) 2251799813685247 = ((a % 2251799813685248 : Nat) : Int) := by
  have h := bits_and_u64_nat a 2251799813685247 ha (by omega)
  have e : a &&& 2251799813685247 = a % 2251799813685248 := Nat.and_two_pow_sub_one_eq_mod a 51
  rw [e] at h
  exact h
theorem nat32 (a : Nat) : (a : Int) / 4294967296 = ((a / 4294967296 : Nat) : Int) := by omega
theorem natDiv (a b : Nat) : (a : Int) / (b : Int) = ((a / b : Nat) : Int) := by simp
theorem natMul (a b : Nat) : (a : Int) * (b : Int) = ((a * b : Nat) : Int) := (Int.natCast_mul a b).symm
theorem natAdd (a b : Nat) : (a : Int) + (b : Int) = ((a + b : Nat) : Int) := (Int.natCast_add a b).symm

set_option maxHeartbeats 1000000 in
theorem mul64_any (x y : Nat) (hx : x < 18446744073709551616) (hy : y < 18446744073709551616) (w : World) :
    Calls Tryd.prog 35 #[.int .u64 x, .int .u64 y] w fun e w' => e = .returned (.tuple #[.int .u64 ((x * y / 18446744073709551616 : Nat) : Int), .int .u64 ((x * y % 18446744073709551616 : Nat) : Int)]) ∧ w' = w := by
  obtain ⟨bd, bt, bw, hhi⟩ := Lib.mul64_hi x y hx hy
  have ba := Lib.half_mul_le (a := x / 4294967296) (b := y / 4294967296) (by omega) (by omega)
  have bb := Lib.half_mul_le (a := x / 4294967296) (b := y % 4294967296) (by omega) (by omega)
  have bc := Lib.half_mul_le (a := x % 4294967296) (b := y / 4294967296) (by omega) (by omega)
  have ba' : x / 4294967296 * (y / 4294967296) < 18446744073709551616 := by omega
  have bb' : x / 4294967296 * (y % 4294967296) < 18446744073709551616 := by omega
  have bc' : x % 4294967296 * (y / 4294967296) < 18446744073709551616 := by omega
  have bh1 : x / 4294967296 * (y / 4294967296) + (x / 4294967296 * (y % 4294967296) + x % 4294967296 * (y % 4294967296) / 4294967296) / 4294967296 < 18446744073709551616 := by omega
  have bh : x / 4294967296 * (y / 4294967296) + (x / 4294967296 * (y % 4294967296) + x % 4294967296 * (y % 4294967296) / 4294967296) / 4294967296 + ((x / 4294967296 * (y % 4294967296) + x % 4294967296 * (y % 4294967296) / 4294967296) % 4294967296 + x % 4294967296 * (y / 4294967296)) / 4294967296 < 18446744073709551616 := by omega
  go_enter Tryd.func35, Tryd.ntmps35
  go_wp2_with fail
  simp only [mask32 x hx, mask32 y hy, nat32, natMul, natAdd, w64 bd, w64 bb', w64 bt, mask32 _ bt, w64 bc', w64 bw, w64 ba', w64 bh1, w64 bh, w64m (x * y)]
  rw [hhi]
  go_ret2
  exact ⟨rfl, rfl⟩

theorem add64_run (x y : Nat) (w : World) : (callFunc 36 #[.int .u64 x, .int .u64 y, .int .u64 0]).run Tryd.prog w =
    .ok (.value (.tuple #[.int .u64 (((x + y) % 18446744073709551616 : Nat) : Int), .int .u64 (((x + y) / 18446744073709551616 : Nat) : Int)])) w := by
  rw [run_callFunc_extern Tryd.func36 (by kernel_rfl) (by kernel_rfl) (by kernel_rfl) (e := add64Entry) (by kernel_rfl), run_add64 x y 0 (by omega) (by omega) (by omega) (by omega)]
  simp only [Result.andThen]
  congr 5 <;> omega

/-- A number of 128 bits, as the code has it. -/
def wideV (n : Nat) : Value := .agg #[.int .u64 ((n / 18446744073709551616 : Nat) : Int), .int .u64 ((n % 18446744073709551616 : Nat) : Int)]

theorem Tryd.arr54 : (Tryd.prog.info? 54).map (·.size) = some 2 := by kernel_rfl
theorem one2 (a b : Int) : ∀ v ∈ [Value.int .u64 a, .int .u64 b], v.oneCell' = true := by
  intro v hv
  rcases List.mem_cons.1 hv with rfl | hv
  · rfl
  · rcases List.mem_cons.1 hv with rfl | hv
    · rfl
    · cases hv

set_option maxHeartbeats 1000000 in
theorem product_hl (x y h l : Nat) (hx : x < 18446744073709551616) (hy : y < 18446744073709551616) (e1 : x * y / 18446744073709551616 = h) (e2 : x * y % 18446744073709551616 = l) (w : World) :
    Calls Tryd.prog 27 #[.int .u64 x, .int .u64 y] w fun e w' => e = .returned (.agg #[.int .u64 h, .int .u64 l]) ∧ Below w.heap.size w w' := by
  have HM : ∀ w, Calls Tryd.prog 35 #[.int .u64 x, .int .u64 y] w fun e w' => e = .returned (.tuple #[.int .u64 h, .int .u64 l]) ∧ w' = w := fun w => by
    have := mul64_any x y hx hy w
    rwa [e1, e2] at this
  have HB := Lib.hid (Blk.made w [.int .u64 0, .int .u64 0] 54)
  have HE := Lib.hid (Ext.alloc w (.cells [.int .u64 0, .int .u64 0].toArray 54))
  clear hx hy e1 e2
  go_enter Tryd.func27, Tryd.ntmps27
  go_wp2_with fail
  refine (HM _).mono ?_
  rintro e w' ⟨rfl, rfl⟩
  go_wp2_with (refine wpList_store_blk rfl _ _ _ rfl w.heap.size [.int .u64 h, .int .u64 l] rfl rfl _ _ HB.out rfl Tryd.arr54 (one2 _ _) ?_; intro w5 hb5 hg5)
  exact bodyPost_ret (v := .agg #[.int .u64 h, .int .u64 l]) (result_row (by rfl) _ w.heap.size _ _ _ (by rfl) hb5 Tryd.underlying54 rfl Tryd.arr54) rfl ⟨rfl, ext_grown HE.out hg5 (Nat.le_refl _)⟩
theorem product_any (x y : Nat) (hx : x < 18446744073709551616) (hy : y < 18446744073709551616) (w : World) :
    Calls Tryd.prog 27 #[.int .u64 x, .int .u64 y] w fun e w' => e = .returned (wideV (x * y)) ∧ Below w.heap.size w w' := product_hl x y _ _ hx hy rfl rfl w

theorem or64 (a b : Nat) (ha : a < 18446744073709551616) (hb : b < 18446744073709551616) : bits .or .u64 (a : Int) (b : Int) = ((a ||| b : Nat) : Int) := by
  have e1 : (BitVec.ofInt 64 (a : Int)).toNat = a := by rw [BitVec.toNat_ofInt]; omega
  have e2 : (BitVec.ofInt 64 (b : Int)).toNat = b := by rw [BitVec.toNat_ofInt]; omega
  show IntKind.u64.wrap ((BitVec.ofInt 64 (a : Int) ||| BitVec.ofInt 64 (b : Int)).toNat : Nat) = _
  have e3 := (BitVec.ofInt 64 (a : Int) ||| BitVec.ofInt 64 (b : Int)).isLt
  rw [BitVec.toNat_or, e1, e2] at e3 ⊢
  exact w64 e3
/-- High bits and low bits laid together are their sum. -/
theorem or_sum (k x y : Nat) (hx : x < 2 ^ k) : 2 ^ k * y ||| x = 2 ^ k * y + x := (Nat.two_pow_add_eq_or_of_lt hx y).symm
theorem above_math (h l : Nat) (hl : l < 18446744073709551616) : bits .or .u64 (IntKind.u64.wrap ((h : Int) * 8192)) ((l : Int) / 2251799813685248) = (((h * 18446744073709551616 + l) / 2251799813685248 % 18446744073709551616 : Nat) : Int) := by
  have e1 : IntKind.u64.wrap ((h : Int) * 8192) = ((8192 * (h % 2251799813685248) : Nat) : Int) := by rw [IntKind.wrap_u64]; omega
  have e2 : (l : Int) / 2251799813685248 = ((l / 2251799813685248 : Nat) : Int) := by omega
  rw [e1, e2, or64 _ _ (by omega) (by omega), or_sum 13 _ _ (by omega)]
  omega

set_option maxHeartbeats 1000000 in
theorem above_hl (h l : Nat) (hl : l < 18446744073709551616) (w : World) :
    Calls Tryd.prog 29 #[.agg #[.int .u64 h, .int .u64 l]] w fun e w' => e = .returned (.int .u64 (((h * 18446744073709551616 + l) / 2251799813685248 % 18446744073709551616 : Nat) : Int)) ∧ Below w.heap.size w w' := by
  rw [← above_math h l hl]
  clear hl
  go_enter Tryd.func29, Tryd.ntmps29
  go_wp2_with fail
  go_ret
  exact ⟨rfl, Ext.alloc _ _⟩
theorem above_any (n : Nat) (w : World) :
    Calls Tryd.prog 29 #[wideV n] w fun e w' => e = .returned (.int .u64 ((n / 2251799813685248 % 18446744073709551616 : Nat) : Int)) ∧ Below w.heap.size w w' := by
  have := above_hl (n / 18446744073709551616) (n % 18446744073709551616) (Nat.mod_lt _ (by omega)) w
  rwa [Nat.div_add_mod'] at this

set_option maxHeartbeats 1000000 in
theorem plus_hl (h l x y ph pl c s r : Nat) (hx : x < 18446744073709551616) (hy : y < 18446744073709551616) (e1 : x * y / 18446744073709551616 = ph) (e2 : x * y % 18446744073709551616 = pl) (e3 : (l + pl) / 18446744073709551616 = c) (e4 : (l + pl) % 18446744073709551616 = s)
    (e5 : h + ph + c = r) (hr : r < 18446744073709551616) (w : World) :
    Calls Tryd.prog 28 #[.agg #[.int .u64 h, .int .u64 l], .int .u64 x, .int .u64 y] w fun e w' => e = .returned (.agg #[.int .u64 r, .int .u64 s]) ∧ Below w.heap.size w w' := by
  have HM : ∀ w, Calls Tryd.prog 35 #[.int .u64 x, .int .u64 y] w fun e w' => e = .returned (.tuple #[.int .u64 ph, .int .u64 pl]) ∧ w' = w := fun w => by
    have := mul64_any x y hx hy w
    rwa [e1, e2] at this
  have HA : ∀ w, (callFunc 36 #[.int .u64 l, .int .u64 pl, .int .u64 0]).run Tryd.prog w = .ok (.value (.tuple #[.int .u64 s, .int .u64 c])) w := fun w => by
    have := add64_run l pl w
    rwa [e3, e4] at this
  have HB := Lib.hid (boxes2 w [.int .u64 h, .int .u64 l] [.int .u64 0, .int .u64 0] 54 54)
  have HR : IntKind.u64.wrap (IntKind.u64.wrap ((h : Int) + ph) + c) = (r : Int) := by
    rw [natAdd, w64 (by omega), natAdd, e5, w64 hr]
  have HR2 := Lib.hid HR
  clear hx hy e1 e2 e3 e4 e5 hr HR
  go_enter Tryd.func28, Tryd.ntmps28
  go_wp2_with fail
  refine (HM _).mono ?_
  rintro e w' ⟨rfl, rfl⟩
  go_wp2_with (refine wpList_store_blk rfl _ _ _ rfl (w.heap.size + 1) [.int .u64 (IntKind.u64.wrap (IntKind.u64.wrap ((h : Int) + ph) + c)), .int .u64 s] rfl rfl _ _ HB.out.2.1 rfl Tryd.arr54 (one2 _ _) ?_; intro w5 hb5 hg5)
  rw [HR2.out] at hb5
  exact bodyPost_ret (v := .agg #[.int .u64 r, .int .u64 s]) (result_row (by rfl) _ (w.heap.size + 1) _ _ _ (by rfl) hb5 Tryd.underlying54 rfl Tryd.arr54) rfl ⟨rfl, ext_grown HB.out.2.2 hg5 (by omega)⟩
theorem plus_any (n x y : Nat) (hx : x < 18446744073709551616) (hy : y < 18446744073709551616) (hn : n + x * y < 340282366920938463463374607431768211456) (w : World) :
    Calls Tryd.prog 28 #[wideV n, .int .u64 x, .int .u64 y] w fun e w' => e = .returned (wideV (n + x * y)) ∧ Below w.heap.size w w' := by
  have h1 := plus_hl (n / 18446744073709551616) (n % 18446744073709551616) x y _ _ _ _ _ hx hy rfl rfl rfl rfl rfl (by generalize x * y = z at *; omega) w
  refine h1.mono ?_
  rintro e w' ⟨rfl, hb⟩
  refine ⟨?_, hb⟩
  unfold wideV
  generalize x * y = z at *
  have q1 : n / 18446744073709551616 + z / 18446744073709551616 + (n % 18446744073709551616 + z % 18446744073709551616) / 18446744073709551616 = (n + z) / 18446744073709551616 := by omega
  have q2 : (n % 18446744073709551616 + z % 18446744073709551616) % 18446744073709551616 = (n + z) % 18446744073709551616 := by omega
  rw [q1, q2]

end Go.Proofs.YtmiapjmdolecbaaDoor
