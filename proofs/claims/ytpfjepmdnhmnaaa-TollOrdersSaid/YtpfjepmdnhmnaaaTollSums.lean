/- The walk of the law TollSums: true for every two slices; no condition beyond that the slices read as lists of float64 words. -/
import Derived.Test.YtpfjepmdnhmnaaaTollSum
import Derived.Test.YtpfjepmdnhmnaaaTollLaws
import Derived.Test.YtpfjepmdnhmnaaaLawKit
import Derived.Deep.RegionHeld3
import Derived.Deep.AppendLies
namespace Go.Proofs.Ytpfjepmdnhmnaaa
open Go.RowKit
set_option linter.unusedVariables false

def cval (c : Nat × Nat) : Value := .complex .f64 c.1 c.2

theorem crow_of_own {w : World} {base : Nat} {e : TypeId} {v : Value} {cs : List (Nat × Nat)} (h : w.ownsRow base e 1 v cs.length (cs.map cval)) : CRow w v cs := by
  rcases h.2 with ⟨rfl, h0⟩ | ⟨g, cap, cur, rfl, _, _, h1, h2, _, _⟩
  · exact Or.inl ⟨rfl, List.eq_nil_of_length_eq_zero h0⟩
  · refine Or.inr ⟨g, 0, cap, rfl, h1, h2, fun i hi => ?_⟩
    have := h.cellAt i (by omega)
    rw [Nat.zero_add, this, List.getElem?_map, List.getElem?_eq_getElem hi]
    simp [cval, List.getD, hi]

theorem Try.info24 : (Try.prog.info? 24).map (fun i => (i.zero, i.size, i.bytes)) = some (some (.complex .f64 0 0), 1, 16) := by kernel_rfl

theorem getD_zip {xs ys : List Nat} {k : Nat} (h : k < xs.length) (h' : k < ys.length) : (xs.zip ys).getD k (0, 0) = (xs.getD k 0, ys.getD k 0) := by
  have : k < (xs.zip ys).length := by simp; omega
  simp [List.getD, List.getElem?_eq_getElem this, List.getElem?_eq_getElem h, List.getElem?_eq_getElem h']

theorem own_snoc {w : World} {base : Nat} {e : TypeId} {v : Value} {cs : List (Nat × Nat)} {k x y : Nat} (hk : k < cs.length) (he : cs.getD k (0, 0) = (x, y))
    (h : w.ownsRow base e 1 v (k + 1) ((cs.take k).map cval ++ [.complex .f64 x y])) : w.ownsRow base e 1 v (k + 1) ((cs.take (k + 1)).map cval) := by
  rw [take_snoc' hk, he, List.map_append]
  exact h

set_option maxHeartbeats 1000000 in
theorem tollSums_loop (b off cap b' off' cap' len' : Nat) (xs ys : List Nat) (w : World) (hn : xs.length ≤ 100) (hlen : ys.length = len') (hle : xs.length ≤ len')
    (hcap : xs.length ≤ cap) (hm : cap ≤ maxLen) (hcap' : len' ≤ cap') (hm' : cap' ≤ maxLen) (hb : b < w.heap.size) (hb' : b' < w.heap.size)
    (hx : ∀ i, i < xs.length → w.cell? ⟨b, off + i, none⟩ = some (.float .f64 (xs.getD i 0)))
    (hy : ∀ i, i < ys.length → w.cell? ⟨b', off' + i, none⟩ = some (.float .f64 (ys.getD i 0))) :
    Calls Try.prog 4 #[.slice (some ⟨b, off, none⟩) xs.length cap, .slice (some ⟨b', off', none⟩) len' cap'] w fun e w' => e = .returned (.bool true) ∧ Below w.heap.size w w' := by
  unfold maxLen at hm hm'
  obtain ⟨i0, hi, hz0, hz1, hz2⟩ := info_parts Try.info24
  have HX := Lib.hid hx
  have HY := Lib.hid hy
  have HL := Lib.hid hlen
  clear hx hy hlen
  have d1 : decide ((100 : Int) < (xs.length : Int)) = false := decide_eq_false (by omega)
  have d2 : decide (len' < xs.length) = false := decide_eq_false (by omega)
  go_enter Try.func4, Try.ntmps4
  go_wp2_with fail
  refine (alive_any _).mono ?_
  rintro e w' ⟨rfl, rfl⟩
  go_wp2_with fail
  go_loopw [6, 7] (fun l i wr => ∃ k : Nat, k ≤ xs.length ∧ i = .int .i64 k ∧ wr.ownsRow w.heap.size 24 1 l k (((xs.zip ys).take k).map cval) ∧ Below w.heap.size w wr) (fun _ i _ => xs.length - (intOf i).toNat)
  case atStart => exact ⟨0, Nat.zero_le _, rfl, World.ownsRow_nil _ _ _ _, Below.refl _ _⟩
  case round =>
    obtain ⟨k, hk, rfl, hown, hbel⟩ := hrel
    by_cases hlt : k < xs.length
    · have c1 := hbel.cell (p := ⟨b, off + k, none⟩) hb
      rw [HX.out k hlt] at c1
      have c2 := hbel.cell (p := ⟨b', off' + k, none⟩) hb'
      have hl := HL.out
      rw [HY.out k (by omega)] at c2
      have he := getD_zip (ys := ys) hlt (by omega)
      have hzl : k < (xs.zip ys).length := by simp; omega
      generalize xs.getD k 0 = x at *
      generalize ys.getD k 0 = y at *
      have HE := Lib.hid he
      have hsz := hbel.size
      have ag := fun e => (absurd (hown.lt b e).1 (Nat.not_le.2 hb) : False)
      have ag' := fun e => (absurd (hown.lt b' e).1 (Nat.not_le.2 hb') : False)
      have i0' : (0 : Int) ≤ (k : Int) := Int.natCast_nonneg _
      have i1 : (k : Int) < (xs.length : Int) := by omega
      have i2 : (k : Int) < (len' : Int) := by omega
      have HB := Lib.hid hbel
      have HO := Lib.hid hown
      clear he hl hbel hown
      go_wp2_with fail
      go_region_held3 (fun w' => w'.cell? ⟨b, off + k, none⟩ = some (.float .f64 x) ∧ w'.cell? ⟨b', off' + k, none⟩ = some (.float .f64 y))
        (first | go_keep | (go_split_ands; refine ⟨?_, ?_⟩ <;> (first | (rw [hgrow.cell_far _ (by simp; omega) (Ne.symm ag)]; assumption) | (rw [hgrow.cell_far _ (by simp; omega) (Ne.symm ag')]; assumption))))
        (first | (refine step_append_lies _ (by rfl) _ _ _ (by rfl) w.heap.size 24 i0 _ 1 16 Try.underlying31 hi hz0 hz1 hz2 rfl (by omega) _ k _ (by rfl) ((HO.out.alloc _).drew) ⟨wr.heap.size, 0, none⟩ 1 1 [.complex .f64 x y] (by rfl) (by rfl) (World.news_of_block (cs := #[.complex .f64 x y]) (t := 24) (fr := (0, 0)) (heap_alloc_new wr _)) (by simp [Value.oneCell']) (by omega) (by unfold maxLen; omega) (by omega) (by simp; omega) (wr.heap.size + 1) (by simp) ?_; intro gg cap1 w1 hown1 hgrow hat hltg))
      have hown2 := own_snoc hzl HE.out hown1
      have hbel2 : Below w.heap.size w w1 := ((HB.out.alloc hsz _).drew).grown hgrow (by simp; omega) (fun g hg => (HO.out.lt g hg).1)
      clear hown1 hgrow
      go_wp2_with fail
      go_roundw
      case rel => exact ⟨k + 1, by omega, by go_num, hown2, hbel2⟩
      case measure => simp [intOf]; omega
    · have hk' : k = xs.length := by omega
      have hl := HL.out
      have hzl : (xs.zip ys).length = xs.length := by simp; omega
      rw [List.take_of_length_le (by omega), hk', ← hzl] at hown
      have hrow := crow_of_own hown
      subst hk'
      have HR := Lib.hid hrow
      have HB := Lib.hid hbel
      clear hrow hbel hown hl hzl
      go_wp2_with fail
      refine (sum_any _ HR.out).mono ?_
      rintro e w' ⟨s, rfl, ⟨u1, u2, rfl, p1, p2⟩, rfl⟩
      go_wp2_with fail
      refine (rsum_any _ HR.out).mono ?_
      rintro e w' ⟨s, rfl, ⟨u3, u4, rfl, p3, p4⟩, rfl⟩
      have o1 := part_eq p1 p3
      have o2 := part_eq p2 p4
      rw [← fmt64] at o1 o2
      go_wp2_with fail
      go_ret
      exact ⟨rfl, HB.out⟩

theorem crow_nil {w : World} {base : Nat} {e : TypeId} {v : Value} (h : w.ownsRow base e 1 v 0 []) : CRow w v [] := crow_of_own (cs := []) h

set_option maxHeartbeats 400000 in
/-- Too long, or too few: nothing is done. -/
theorem tollSums_out (a a' : Option Addr) (len cap len' cap' : Nat) (w : World) (hcap : len ≤ cap) (hm : cap ≤ maxLen) (hcap' : len' ≤ cap') (hm' : cap' ≤ maxLen) (h : 100 < len ∨ len' < len) :
    Calls Try.prog 4 #[.slice a len cap, .slice a' len' cap'] w fun e w' => e = .returned (.bool true) ∧ Below w.heap.size w w' := by
  unfold maxLen at hm hm'
  by_cases h1 : 100 < len
  · clear h
    go_enter Try.func4, Try.ntmps4
    go_wp2_with fail
    refine (alive_any _).mono ?_
    rintro e w' ⟨rfl, rfl⟩
    go_wp2_with fail
    go_ret
    exact ⟨rfl, Below.refl _ _⟩
  · have h2 : len' < len := by omega
    clear h
    go_enter Try.func4, Try.ntmps4
    go_wp2_with fail
    refine (alive_any _).mono ?_
    rintro e w' ⟨rfl, rfl⟩
    go_wp2_with fail
    go_ret
    exact ⟨rfl, Below.refl _ _⟩

set_option maxHeartbeats 400000 in
/-- No numbers at all. -/
theorem tollSums_none (a a' : Option Addr) (cap len' cap' : Nat) (w : World) (hm : cap ≤ maxLen) (hcap' : len' ≤ cap') (hm' : cap' ≤ maxLen) :
    Calls Try.prog 4 #[.slice a 0 cap, .slice a' len' cap'] w fun e w' => e = .returned (.bool true) ∧ Below w.heap.size w w' := by
  unfold maxLen at hm hm'
  have hr : CRow w (.slice none 0 0) [] := Or.inl ⟨rfl, rfl⟩
  go_enter Try.func4, Try.ntmps4
  go_wp2_with fail
  refine (alive_any _).mono ?_
  rintro e w' ⟨rfl, rfl⟩
  go_wp2_with fail
  refine wp_loop_rounds 1 ?_
  rw [rounds_succ]
  go_wp2_with fail
  refine (sum_any _ hr).mono ?_
  rintro e w' ⟨s, rfl, ⟨u1, u2, rfl, p1, p2⟩, rfl⟩
  go_wp2_with fail
  refine (rsum_any _ hr).mono ?_
  rintro e w' ⟨s, rfl, ⟨u3, u4, rfl, p3, p4⟩, rfl⟩
  have o1 := part_eq p1 p3
  have o2 := part_eq p2 p4
  rw [← fmt64] at o1 o2
  go_wp2_with fail
  go_ret
  exact ⟨rfl, Below.refl _ _⟩

theorem row_floats {w : World} {b off : Nat} {zs : List Nat} (h : ∀ i, i < (zs.map (Value.float .f64)).length → w.cell? ⟨b, off + i, none⟩ = (zs.map (Value.float .f64))[i]?) :
    ∀ i, i < zs.length → w.cell? ⟨b, off + i, none⟩ = some (.float .f64 (zs.getD i 0)) := by
  intro i hi
  rw [h i (by simpa using hi)]
  simp [List.getD, hi]

theorem tollSums_any (v v' : Value) (xs ys : List Nat) (w : World) (hx : Row1 w v (xs.map (.float .f64))) (hy : Row1 w v' (ys.map (.float .f64))) :
    Calls Try.prog 4 #[v, v'] w fun e w' => e = .returned (.bool true) ∧ Below w.heap.size w w' := by
  obtain ⟨a, cap, rfl, h1, h2, h3⟩ := hx
  obtain ⟨a', cap', rfl, g1, g2, g3⟩ := hy
  rw [List.length_map] at h1 g1 ⊢
  rw [List.length_map]
  by_cases ho : 100 < xs.length ∨ ys.length < xs.length
  · exact tollSums_out a a' _ cap _ cap' w h1 h2 g1 g2 ho
  · by_cases h0 : xs = []
    · subst h0
      exact tollSums_none a a' cap _ cap' w h2 g1 g2
    · have l0 : 0 < xs.length := List.length_pos_iff.2 h0
      obtain ⟨b, off, rfl, hb, hc⟩ := h3 (by simpa using h0)
      obtain ⟨b', off', rfl, hb', hc'⟩ := g3 (by intro e; have := List.map_eq_nil_iff.1 e; subst this; rw [List.length_nil] at ho; omega)
      exact tollSums_loop b off cap b' off' cap' ys.length xs ys w (by omega) rfl (by omega) h1 h2 g1 g2 hb hb' (row_floats hc) (row_floats hc')

end Go.Proofs.Ytpfjepmdnhmnaaa
