/- The walks of the code's limbs: carried, rootOfMinusOne. Each theorem names its own conditions. -/
import Derived.Test.YtmiapjmdolecbaaDoorFldWide
import Derived.Test.YtmiapjmdolecbaaDoorFldLimbs
import Derived.Test.YtmiapjmdolecbaaDoorFieldRoots
namespace Go.Proofs.YtmiapjmdolecbaaDoor
open Go.RowKit
set_option linter.unusedVariables false
set_option linter.unusedSimpArgs false

theorem Tryd.arr33 : (Tryd.prog.info? 33).map (·.size) = some 5 := by kernel_rfl
def zero5 : List Value := [.int .u64 0, .int .u64 0, .int .u64 0, .int .u64 0, .int .u64 0]
theorem one5 (a b c d e : Int) : ∀ v ∈ [Value.int .u64 a, .int .u64 b, .int .u64 c, .int .u64 d, .int .u64 e], v.oneCell' = true := by
  intro v hv
  simp only [List.mem_cons, List.not_mem_nil, or_false] at hv
  rcases hv with rfl | rfl | rfl | rfl | rfl <;> rfl
theorem nat51 (a : Nat) : (a : Int) / 2251799813685248 = ((a / 2251799813685248 : Nat) : Int) := by omega
theorem carry0 (a e : Nat) (ha : a < 18446744073709551616) (he : e < 18446744073709551616) : IntKind.u64.wrap (bits .and .u64 (a : Int) 2251799813685247 + IntKind.u64.wrap (19 * ((e : Int) / 2251799813685248))) = ((a % 2251799813685248 + 19 * (e / 2251799813685248) : Nat) : Int) := by
  rw [mask51 a ha, nat51, IntKind.wrap_u64, IntKind.wrap_u64]
  omega
theorem carry1 (a e : Nat) (ha : a < 18446744073709551616) (he : e < 18446744073709551616) : IntKind.u64.wrap (bits .and .u64 (a : Int) 2251799813685247 + (e : Int) / 2251799813685248) = ((a % 2251799813685248 + e / 2251799813685248 : Nat) : Int) := by
  rw [mask51 a ha, nat51, IntKind.wrap_u64]
  omega

set_option maxHeartbeats 2000000 in
theorem carried_any (x : L5) (hx : x.lt 18446744073709551616) (w : World) :
    Calls Tryd.prog 24 #[x.v] w fun e w' => e = .returned (carriedL x).v ∧ Below w.heap.size w w' := by
  obtain ⟨a, b, c, d, e⟩ := x
  obtain ⟨h1, h2, h3, h4, h5⟩ := hx
  have r0 := Lib.hid (carry0 a e h1 h5)
  have r1 := Lib.hid (carry1 b a h2 h1)
  have r2 := Lib.hid (carry1 c b h3 h2)
  have r3 := Lib.hid (carry1 d c h4 h3)
  have r4 := Lib.hid (carry1 e d h5 h4)
  have HB := Lib.hid (boxes2 w [.int .u64 a, .int .u64 b, .int .u64 c, .int .u64 d, .int .u64 e] zero5 33 33)
  clear h1 h2 h3 h4 h5
  unfold L5.v L5.vs
  go_enter Tryd.func24, Tryd.ntmps24
  go_wp2_with (refine wpList_store_blk rfl _ _ _ rfl (w.heap.size + 1) [.int .u64 (IntKind.u64.wrap (bits .and .u64 (a : Int) 2251799813685247 + IntKind.u64.wrap (19 * ((e : Int) / 2251799813685248)))), .int .u64 (IntKind.u64.wrap (bits .and .u64 (b : Int) 2251799813685247 + (a : Int) / 2251799813685248)), .int .u64 (IntKind.u64.wrap (bits .and .u64 (c : Int) 2251799813685247 + (b : Int) / 2251799813685248)), .int .u64 (IntKind.u64.wrap (bits .and .u64 (d : Int) 2251799813685247 + (c : Int) / 2251799813685248)), .int .u64 (IntKind.u64.wrap (bits .and .u64 (e : Int) 2251799813685247 + (d : Int) / 2251799813685248))] rfl rfl _ _ HB.out.2.1 rfl Tryd.arr33 (one5 _ _ _ _ _) ?_; intro w5 hb5 hg5)
  rw [r0.out, r1.out, r2.out, r3.out, r4.out] at hb5
  exact bodyPost_ret (v := (carriedL ⟨a, b, c, d, e⟩).v) (result_row (by rfl) _ (w.heap.size + 1) _ _ _ (by rfl) hb5 Tryd.underlying33 rfl Tryd.arr33) rfl ⟨rfl, ext_grown HB.out.2.2 hg5 (by omega)⟩

def rootL : L5 := ⟨1718705420411056, 234908883556509, 2233514472574048, 2117202627021982, 765476049583133⟩
theorem rootL_lt : rootL.lt 18014398509481984 := by unfold L5.lt; decide
theorem rootL_val : ((rootL.val : Nat) : Int) = sm1 := by decide +kernel
set_option maxHeartbeats 2000000 in
theorem rootOf_any (w : World) : Calls Tryd.prog 17 #[] w fun e w' => e = .returned rootL.v ∧ Below w.heap.size w w' := by
  have HB := Lib.hid (Blk.made w zero5 33)
  have HE := Lib.hid (Ext.alloc w (.cells zero5.toArray 33))
  go_enter Tryd.func17, Tryd.ntmps17
  go_wp2_with (refine wpList_store_blk rfl _ _ _ rfl w.heap.size rootL.vs rfl rfl _ _ HB.out rfl Tryd.arr33 rootL.vs_one ?_; intro w5 hb5 hg5)
  exact bodyPost_ret (v := rootL.v) (result_row (by rfl) _ w.heap.size _ _ _ (by rfl) hb5 Tryd.underlying33 rfl Tryd.arr33) rfl ⟨rfl, ext_grown HE.out hg5 (Nat.le_refl _)⟩

end Go.Proofs.YtmiapjmdolecbaaDoor
