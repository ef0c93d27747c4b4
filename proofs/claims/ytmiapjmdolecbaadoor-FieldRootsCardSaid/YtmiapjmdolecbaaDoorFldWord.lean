/- The walks of the code's words of 8 bytes: word, putWord. Each theorem names its own conditions. -/
import Derived.Test.YtmiapjmdolecbaaDoorFldCode
namespace Go.Proofs.YtmiapjmdolecbaaDoor
open Go.RowKit
set_option linter.unusedVariables false
set_option linter.unusedSimpArgs false

/-- Eight bytes as a number. -/
def w8 (a b c d e f g h : Nat) : Nat := a + 256 * b + 65536 * c + 16777216 * d + 4294967296 * e + 1099511627776 * f + 281474976710656 * g + 72057594037927936 * h
theorem word_math (a b c d e f g h : Nat) (ha : a < 256) (hb : b < 256) (hc : c < 256) (hd : d < 256) (he : e < 256) (hf : f < 256) (hg : g < 256) (hh : h < 256) :
    bits .or .u64 (bits .or .u64 (bits .or .u64 (bits .or .u64 (bits .or .u64 (bits .or .u64 (bits .or .u64 (a : Int) (IntKind.u64.wrap ((b : Int) * 256))) (IntKind.u64.wrap ((c : Int) * 65536))) (IntKind.u64.wrap ((d : Int) * 16777216))) (IntKind.u64.wrap ((e : Int) * 4294967296))) (IntKind.u64.wrap ((f : Int) * 1099511627776))) (IntKind.u64.wrap ((g : Int) * 281474976710656))) (IntKind.u64.wrap ((h : Int) * 72057594037927936)) = ((w8 a b c d e f g h : Nat) : Int) := by
  have sh : ∀ (k x y : Nat), x < 2 ^ k → 2 ^ k * y + x < 18446744073709551616 → bits .or .u64 (x : Int) (((2 ^ k * y : Nat)) : Int) = ((2 ^ k * y + x : Nat) : Int) := fun k x y hx hs => by
    rw [or64 _ _ (by omega) (by omega), Nat.or_comm, or_sum k x y hx]
  have cv : ∀ (y m : Nat), y * m < 18446744073709551616 → IntKind.u64.wrap ((y : Int) * (m : Int)) = ((m * y : Nat) : Int) := fun y m h => by
    rw [natMul, w64 h, Nat.mul_comm]
  have q1 := cv b 256 (by omega)
  have q2 := cv c 65536 (by omega)
  have q3 := cv d 16777216 (by omega)
  have q4 := cv e 4294967296 (by omega)
  have q5 := cv f 1099511627776 (by omega)
  have q6 := cv g 281474976710656 (by omega)
  have q7 := cv h 72057594037927936 (by omega)
  simp only [Int.cast_ofNat_Int] at q1 q2 q3 q4 q5 q6 q7
  rw [q1, q2, q3, q4, q5, q6, q7]
  rw [sh 8 a b (by omega) (by omega), sh 16 (2 ^ 8 * b + a) c (by omega) (by omega), sh 24 (2 ^ 16 * c + (2 ^ 8 * b + a)) d (by omega) (by omega), sh 32 (2 ^ 24 * d + (2 ^ 16 * c + (2 ^ 8 * b + a))) e (by omega) (by omega),
    sh 40 (2 ^ 32 * e + (2 ^ 24 * d + (2 ^ 16 * c + (2 ^ 8 * b + a)))) f (by omega) (by omega), sh 48 (2 ^ 40 * f + (2 ^ 32 * e + (2 ^ 24 * d + (2 ^ 16 * c + (2 ^ 8 * b + a))))) g (by omega) (by omega), sh 56 (2 ^ 48 * g + (2 ^ 40 * f + (2 ^ 32 * e + (2 ^ 24 * d + (2 ^ 16 * c + (2 ^ 8 * b + a)))))) h (by omega) (by omega)]
  unfold w8
  omega

set_option maxHeartbeats 2000000 in
theorem word_any (p off cap : Nat) (a b c d e f g h : Nat) (ha : a < 256) (hb : b < 256) (hc : c < 256) (hd : d < 256) (he : e < 256) (hf : f < 256) (hg : g < 256) (hh : h < 256) (w : World)
    (c0 : w.cell? ⟨p, off, none⟩ = some (.int .u8 a)) (c1 : w.cell? ⟨p, off + 1, none⟩ = some (.int .u8 b)) (c2 : w.cell? ⟨p, off + 2, none⟩ = some (.int .u8 c)) (c3 : w.cell? ⟨p, off + 3, none⟩ = some (.int .u8 d))
    (c4 : w.cell? ⟨p, off + 4, none⟩ = some (.int .u8 e)) (c5 : w.cell? ⟨p, off + 5, none⟩ = some (.int .u8 f)) (c6 : w.cell? ⟨p, off + 6, none⟩ = some (.int .u8 g)) (c7 : w.cell? ⟨p, off + 7, none⟩ = some (.int .u8 h)) :
    Calls Tryd.prog 23 #[.slice (some ⟨p, off, none⟩) 8 cap] w fun e' w' => e' = .returned (.int .u64 ((w8 a b c d e f g h : Nat) : Int)) ∧ Below w.heap.size w w' := by
  have HM := Lib.hid (word_math a b c d e f g h ha hb hc hd he hf hg hh)
  have m1 : IntKind.u64.wrap (a : Int) = a := w64 (by omega)
  have m2 : IntKind.u64.wrap (b : Int) = b := w64 (by omega)
  have m3 : IntKind.u64.wrap (c : Int) = c := w64 (by omega)
  have m4 : IntKind.u64.wrap (d : Int) = d := w64 (by omega)
  have m5 : IntKind.u64.wrap (e : Int) = e := w64 (by omega)
  have m6 : IntKind.u64.wrap (f : Int) = f := w64 (by omega)
  have m7 : IntKind.u64.wrap (g : Int) = g := w64 (by omega)
  have m8 : IntKind.u64.wrap (h : Int) = h := w64 (by omega)
  clear ha hb hc hd he hf hg hh
  go_enter Tryd.func23, Tryd.ntmps23
  go_wp2_with fail
  go_quiet (fail)
  go_wp2_with fail
  go_ret
  refine ⟨?_, below_drewN (Below.refl _ _) _⟩
  rw [← HM.out]
  rfl

/-- The bytes of a word. -/
def b8 (n : Nat) : List Value := [.int .u8 ((n : Int) % 256), .int .u8 ((n : Int) / 256 % 256), .int .u8 ((n : Int) / 65536 % 256), .int .u8 ((n : Int) / 16777216 % 256), .int .u8 ((n : Int) / 4294967296 % 256), .int .u8 ((n : Int) / 1099511627776 % 256), .int .u8 ((n : Int) / 281474976710656 % 256), .int .u8 ((n : Int) / 72057594037927936 % 256)]
theorem b8_one (n : Nat) : ∀ v ∈ b8 n, v.oneCell' = true := by
  intro v hv
  simp only [b8, List.mem_cons, List.not_mem_nil, or_false] at hv
  rcases hv with rfl | rfl | rfl | rfl | rfl | rfl | rfl | rfl <;> rfl
theorem wrap8 (n : Nat) : IntKind.u8.wrap (n : Int) = ((n % 256 : Nat) : Int) := by rw [IntKind.wrap_u8]; omega

set_option maxHeartbeats 2000000 in
theorem putWord_any (p off cap n : Nat) (cs : List Value) (tb : TypeId) (w : World) (hb : Blk w p cs tb) (hl : off + 8 ≤ cs.length) :
    Calls Tryd.prog 25 #[.slice (some ⟨p, off, none⟩) 8 cap, .int .u64 (n : Int)] w fun e' w' => e' = .returned (.tuple #[]) ∧ Blk w' p (laid cs off (b8 n)) tb ∧ w.grownBy w' (some p) := by
  have HB := Lib.hid hb
  have cell : ∀ i, off + i < cs.length → ∃ v, w.cell? ⟨p, off + i, none⟩ = some v := fun i hi => ⟨_, (hb.cell _).trans (List.getElem?_eq_getElem hi)⟩
  obtain ⟨v0, c0⟩ := cell 0 (by omega)
  obtain ⟨v1, c1⟩ := cell 1 (by omega)
  obtain ⟨v2, c2⟩ := cell 2 (by omega)
  obtain ⟨v3, c3⟩ := cell 3 (by omega)
  obtain ⟨v4, c4⟩ := cell 4 (by omega)
  obtain ⟨v5, c5⟩ := cell 5 (by omega)
  obtain ⟨v6, c6⟩ := cell 6 (by omega)
  obtain ⟨v7, c7⟩ := cell 7 (by omega)
  have f0 := hb.free off
  have f1 := hb.free (off + 1)
  have f2 := hb.free (off + 2)
  have f3 := hb.free (off + 3)
  have f4 := hb.free (off + 4)
  have f5 := hb.free (off + 5)
  have f6 := hb.free (off + 6)
  have f7 := hb.free (off + 7)
  rw [Nat.add_zero] at c0
  clear hb hl cell
  go_enter Tryd.func25, Tryd.ntmps25
  go_wp2_with fail
  have h1 := Blk.setCells (b8 n) cs off w HB.out
  have h2 := grownBy_setCells (b8 n) off w w (c := p) (grownBy_refl w _)
  exact bodyPost_end (v := .tuple #[]) (results_none (by rfl) _ _ _) rfl ⟨rfl, h1, h2⟩

end Go.Proofs.YtmiapjmdolecbaaDoor
