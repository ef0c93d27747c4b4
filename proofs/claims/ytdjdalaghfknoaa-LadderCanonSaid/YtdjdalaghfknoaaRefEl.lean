/- The document's own digits as numbers modulo p: contracts over Fp. Each theorem names its own conditions. -/
import Derived.Test.YtdjdalaghfknoaaRefInvA
import Derived.Test.YtdjdalaghfknoaaRefPlus
import Derived.Test.YtdjdalaghfknoaaEdwByte
namespace Go.Proofs.Ytdjdalaghfknoaa
open Go.RowKit
set_option linter.unusedVariables false
set_option linter.unusedSimpArgs false

def ElF (v : Value) (f : Fp) : Prop := ∃ x : Int, IsEl v x ∧ fp x = f
theorem ElF.form {v : Value} {f : Fp} (h : ElF v f) : ∃ zs : List Int, v = .agg (ints .i64 zs).toArray ∧ zs.length = 16 := by
  obtain ⟨x, ⟨zs, h1, h2, _⟩, _⟩ := h
  exact ⟨zs, h1, h2⟩
theorem radd_f {u v : Value} {a b : Fp} (w : World) (hu : ElF u a) (hv : ElF v b) : Calls Try.prog 28 #[u, v] w fun e w' => ∃ r, e = .returned r ∧ ElF r (a + b) ∧ Below w.heap.size w w' := by
  obtain ⟨x, hx, rfl⟩ := hu
  obtain ⟨y, hy, rfl⟩ := hv
  refine (radd_any u v x y w hx hy).mono ?_
  rintro e w' ⟨r, rfl, hr, hb⟩
  exact ⟨r, rfl, ⟨_, hr, fp_add x y⟩, hb⟩
theorem rsub_f {u v : Value} {a b : Fp} (w : World) (hu : ElF u a) (hv : ElF v b) : Calls Try.prog 30 #[u, v] w fun e w' => ∃ r, e = .returned r ∧ ElF r (a - b) ∧ Below w.heap.size w w' := by
  obtain ⟨x, hx, rfl⟩ := hu
  obtain ⟨y, hy, rfl⟩ := hv
  refine (rsub_any u v x y w hx hy).mono ?_
  rintro e w' ⟨r, rfl, hr, hb⟩
  exact ⟨r, rfl, ⟨_, hr, fp_sub x y⟩, hb⟩
theorem rmul_f {u v : Value} {a b : Fp} (w : World) (hu : ElF u a) (hv : ElF v b) : Calls Try.prog 29 #[u, v] w fun e w' => ∃ r, e = .returned r ∧ ElF r (a * b) ∧ Below w.heap.size w w' := by
  obtain ⟨x, hx, rfl⟩ := hu
  obtain ⟨y, hy, rfl⟩ := hv
  refine (rmul_any u v x y w hx hy).mono ?_
  rintro e w' ⟨r, rfl, hr, hb⟩
  exact ⟨r, rfl, ⟨_, hr, fp_mul x y⟩, hb⟩
theorem rone_f (n : Int) (w : World) (h1 : -131072 ≤ n) (h2 : n ≤ 131072) : Calls Try.prog 27 #[.int .i64 n] w fun e w' => ∃ r, e = .returned r ∧ ElF r (fp n) ∧ Below w.heap.size w w' := by
  refine (rone_el n w h1 h2).mono ?_
  rintro e w' ⟨r, rfl, hr, hb⟩
  exact ⟨r, rfl, ⟨_, hr, rfl⟩, hb⟩
theorem rin_f (l : List UInt8) (w : World) (hl : l.length = 32) : Calls Try.prog 26 #[.agg (l.map bval).toArray] w fun e w' => ∃ r, e = .returned r ∧ ElF r (fp (leN l)) ∧ Below w.heap.size w w' := by
  refine (rin_el l w hl).mono ?_
  rintro e w' ⟨r, rfl, hr, hb⟩
  exact ⟨r, rfl, ⟨_, hr, rfl⟩, hb⟩
theorem rinv_f {u : Value} {a : Fp} (w : World) (hu : ElF u a) : Calls Try.prog 32 #[u] w fun e w' => ∃ r, e = .returned r ∧ ElF r (fi a) ∧ Below w.heap.size w w' := by
  obtain ⟨x, hx, rfl⟩ := hu
  refine (rinv_any u x w hx).mono ?_
  rintro e w' ⟨r, rfl, hr, hb⟩
  refine ⟨r, rfl, ⟨_, hr, ?_⟩, hb⟩
  rw [fi_fp]
  congr 2
theorem rout_f {u : Value} {a : Fp} (w : World) (hu : ElF u a) : Calls Try.prog 31 #[u] w fun e w' => e = .returned (.agg ((nbF a).map bval).toArray) ∧ Below w.heap.size w w' := by
  obtain ⟨x, hx, rfl⟩ := hu
  exact rout_any u x w hx
theorem el_zero : ElF (.agg (ints .i64 (List.replicate 16 0)).toArray) 0 := ⟨0, ⟨List.replicate 16 0, rfl, by simp, fun z hz => by rw [List.eq_of_mem_replicate hz]; omega, 0, by decide⟩, fp_zero⟩
theorem el_size {zs : List Int} (h : zs.length = 16) : (Try.prog.info? 48).map (·.size) = some (ints .i64 zs).length := by rw [ints_length, h]; exact Try.arr48
/-- An element lies in a block. -/
def ElB (w : World) (c : Nat) (f : Fp) : Prop := ∃ zs : List Int, zs.length = 16 ∧ Blk w c (ints .i64 zs) 48 ∧ ElF (.agg (ints .i64 zs).toArray) f
theorem ElB.ext {w w' : World} {c : Nat} {f : Fp} (h : ElB w c f) (hb : Ext w w') : ElB w' c f := by
  obtain ⟨zs, h1, h2, h3⟩ := h
  exact ⟨zs, h1, ext_blk h2 hb, h3⟩
theorem ElB.lt {w : World} {c : Nat} {f : Fp} (h : ElB w c f) : c < w.heap.size := by
  obtain ⟨zs, h1, h2, h3⟩ := h
  exact h2.lt
theorem ElB.grown {w w' : World} {c g : Nat} {f : Fp} (h : ElB w c f) (hg : w.grownBy w' (some g)) (hc : some g ≠ some c) : ElB w' c f := by
  obtain ⟨zs, h1, h2, h3⟩ := h
  exact ⟨zs, h1, h2.grown hg hc, h3⟩

end Go.Proofs.Ytdjdalaghfknoaa
