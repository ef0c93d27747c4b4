/- Texts that belong together, one behind the other; each says in its own first remark what it shows. -/
import Derived.Test.YtjnnhkodkbhbbaaAllC3
import Derived.Test.YtjnnhkodkbhbbaaAllC1
import Derived.Deep.CutRange

/- Same of the laws of chapter 18. Laid by wip/gen/gimgl2.py. Each theorem names its own conditions. -/
namespace Go.Proofs.Ytjnnhkodkbhbbaa
open Go.RowKit
set_option linter.unusedVariables false
set_option linter.unusedSimpArgs false

theorem take_next {α : Type} {l m : List α} {k : Nat} {x : α} (h : l.take k = m.take k) (hl : l[k]? = some x) (hm : m[k]? = some x) : l.take (k + 1) = m.take (k + 1) := by
  rw [List.take_add_one, List.take_add_one, h, hl, hm]
set_option maxRecDepth 100000 in
set_option maxHeartbeats 8000000 in
theorem same18_any (l m : List (List UInt8)) (lv mv : Value) (w : World) (hl : RowB w lv l) (hm : RowB w mv m) (hn : l.length ≤ 1000000) :
    Calls Try.prog 12 #[lv, mv] w fun e w' => e = .returned (.bool (decide (l = m))) ∧ Below w.heap.size w w' := by
  obtain ⟨rr, hrr⟩ : ∃ rr, rr = decide (l = m) := ⟨_, rfl⟩
  rw [← hrr]
  have HRR := Lib.hid hrr
  obtain ⟨vl, hr, hll, hxs⟩ := hl
  obtain ⟨vm, hs, hml, hys⟩ := hm
  obtain ⟨la, lc, hlv, -, -, -, hlc⟩ := id hr
  obtain ⟨ma, mc, hmv, -, -, -, hmc⟩ := id hs
  rw [hll] at hlv hlc
  rw [hml] at hmv hmc
  subst hlv hmv
  have HLL := Lib.hid hll
  have HML := Lib.hid hml
  have HXS := Lib.hid hxs
  have HYS := Lib.hid hys
  have HLC0 := Lib.hid hlc
  have HMC0 := Lib.hid hmc
  have HN := Lib.hid hn
  clear hrr hr hs hll hml hxs hys hlc hmc hn
  go_enter Try.func12, Try.ntmps12
  by_cases hne : l.length = m.length
  · have HNE := Lib.hid hne
    have h1 : ((l.length : Int) != (m.length : Int)) = false := by simp [hne]
    clear hne
    go_wp2_with fail
    clear h1
    go_loopw [5] (fun i wr => ∃ k : Nat, k ≤ l.length ∧ i = .int .i64 (k : Int) ∧ l.take k = m.take k ∧ Ext w wr) (fun i _ => 1000001 - (intOf i).toNat)
    case atStart => exact ⟨0, Nat.zero_le _, rfl, rfl, Ext.refl _⟩
    case round =>
      obtain ⟨k, hk, rfl, ht, hE⟩ := hrel
      have HT := Lib.hid ht
      have HE := Lib.hid hE
      have HK := Lib.hid hk
      clear ht hE hk
      by_cases hlt : k < l.length
      · have HLT := Lib.hid hlt
        have hlt2 : (k : Int) < (l.length : Int) := by omega
        have hlm : k < m.length := by have := HNE.out; omega
        have hlt3 : (k : Int) < (m.length : Int) := by omega
        have k0 : (0 : Int) ≤ (k : Int) := Int.natCast_nonneg _
        obtain ⟨lb, lo, rfl, -, hc1⟩ := HLC0.out (by intro e; have h := HLL.out; rw [e] at h; simp at h; omega)
        obtain ⟨mb, mo, rfl, -, hc2⟩ := HMC0.out (by intro e; have h := HML.out; rw [e] at h; simp at h; omega)
        obtain ⟨xi, hxi⟩ : ∃ x, vl[k]? = some x := ⟨_, List.getElem?_eq_getElem (by rw [HLL.out]; exact hlt)⟩
        obtain ⟨yi, hyi⟩ : ∃ x, vm[k]? = some x := ⟨_, List.getElem?_eq_getElem (by rw [HML.out]; exact hlm)⟩
        obtain ⟨li, hli⟩ : ∃ x, l[k]? = some x := ⟨_, List.getElem?_eq_getElem hlt⟩
        obtain ⟨mi, hmi⟩ : ∃ x, m[k]? = some x := ⟨_, List.getElem?_eq_getElem hlm⟩
        have HXI := Lib.hid ((HXS.out k xi li hxi hli).below HE.out)
        have HYI := Lib.hid ((HYS.out k yi mi hyi hmi).below HE.out)
        have HLC : Hid (wr.cell? ⟨lb, lo + k, none⟩ = some xi) := Lib.hid (by
          have h := (hc1 k hlt).trans hxi
          exact (Below.cell HE.out (World.block_lt_of_cell? w _ h)).trans h)
        have HMC : Hid (wr.cell? ⟨mb, mo + k, none⟩ = some yi) := Lib.hid (by
          have h := (hc2 k hlm).trans hyi
          exact (Below.cell HE.out (World.block_lt_of_cell? w _ h)).trans h)
        have HLI := Lib.hid hli
        have HMI := Lib.hid hmi
        clear hc1 hc2 hxi hyi hli hmi HLC0 HMC0
        go_upto_region 6 with (fail)
        by_cases heq : li = mi
        · have HEQ := Lib.hid heq
          have B0 : Ext wr wr.drew := Ext.drew _
          refine wp_region_held_drew (S := fun w' => Ext wr w') (by kernel_rfl) B0 (fun hHeld => ?_)
          refine wpAnyH_take (i := 0) (v := .slice (some ⟨lb, lo, none⟩) l.length lc) rfl (by kernel_rfl) (by kernel_rfl) (by kernel_rfl) (fun _ _ _ h => h) (yi_move _ (.slice (some ⟨lb, lo, none⟩) l.length lc) (by rfl) rfl rfl) hHeld ?_
          simp only [Act.put, List.getElem_toArray, List.getElem_cons_zero, List.getElem_cons_succ, List.setIfInBounds_toArray, List.set_cons_zero, List.set_cons_succ]
          refine wpAnyH_take (i := 1) (v := .int .i64 (k : Int)) rfl (by kernel_rfl) (by kernel_rfl) (by kernel_rfl) (fun _ _ _ h => h) (yi_move _ (.int .i64 (k : Int)) (by rfl) rfl rfl) hHeld ?_
          simp only [Act.put, List.getElem_toArray, List.getElem_cons_zero, List.getElem_cons_succ, List.setIfInBounds_toArray, List.set_cons_zero, List.set_cons_succ]
          refine wpAnyH_take (i := 2) (v := .pointer (some ⟨lb, lo + k, none⟩)) rfl (by kernel_rfl) (by kernel_rfl) (by kernel_rfl) (fun _ _ _ h => h) (yi_val (.pointer (some ⟨lb, lo + k, none⟩)) (by rfl) (fun w _ => by go_simp)) hHeld ?_
          simp only [Act.put, List.getElem_toArray, List.getElem_cons_zero, List.getElem_cons_succ, List.setIfInBounds_toArray, List.set_cons_zero, List.set_cons_succ]
          refine wpAnyH_take (i := 3) (v := xi) rfl (by kernel_rfl) (by kernel_rfl) (by kernel_rfl) (fun _ _ _ h => h) (yi_val xi (by rfl) (fun w h => by have hc := (Below.cell h (World.block_lt_of_cell? wr _ HLC.out)).trans HLC.out; go_simp)) hHeld ?_
          simp only [Act.put, List.getElem_toArray, List.getElem_cons_zero, List.getElem_cons_succ, List.setIfInBounds_toArray, List.set_cons_zero, List.set_cons_succ]
          refine wpAnyH_take (i := 4) (v := .string ⟨(li).toArray⟩) rfl (by kernel_rfl) (by kernel_rfl) (by kernel_rfl) (fun _ _ _ h => h) (yi_conv _ _ _ (xi) _ (by rfl) rfl rfl (fun w h => run_string_row _ _ 5 Try.underlying22 Try.underlying5 Try.underlying9 ((HXI.out).below h))) hHeld ?_
          simp only [Act.put, List.getElem_toArray, List.getElem_cons_zero, List.getElem_cons_succ, List.setIfInBounds_toArray, List.set_cons_zero, List.set_cons_succ]
          refine wpAnyH_take (i := 5) (v := .slice (some ⟨mb, mo, none⟩) m.length mc) rfl (by kernel_rfl) (by kernel_rfl) (by kernel_rfl) (fun _ _ _ h => h) (yi_move _ (.slice (some ⟨mb, mo, none⟩) m.length mc) (by rfl) rfl rfl) hHeld ?_
          simp only [Act.put, List.getElem_toArray, List.getElem_cons_zero, List.getElem_cons_succ, List.setIfInBounds_toArray, List.set_cons_zero, List.set_cons_succ]
          refine wpAnyH_take (i := 6) (v := .int .i64 (k : Int)) rfl (by kernel_rfl) (by kernel_rfl) (by kernel_rfl) (fun _ _ _ h => h) (yi_move _ (.int .i64 (k : Int)) (by rfl) rfl rfl) hHeld ?_
          simp only [Act.put, List.getElem_toArray, List.getElem_cons_zero, List.getElem_cons_succ, List.setIfInBounds_toArray, List.set_cons_zero, List.set_cons_succ]
          refine wpAnyH_take (i := 7) (v := .pointer (some ⟨mb, mo + k, none⟩)) rfl (by kernel_rfl) (by kernel_rfl) (by kernel_rfl) (fun _ _ _ h => h) (yi_val (.pointer (some ⟨mb, mo + k, none⟩)) (by rfl) (fun w _ => by go_simp)) hHeld ?_
          simp only [Act.put, List.getElem_toArray, List.getElem_cons_zero, List.getElem_cons_succ, List.setIfInBounds_toArray, List.set_cons_zero, List.set_cons_succ]
          refine wpAnyH_take (i := 8) (v := yi) rfl (by kernel_rfl) (by kernel_rfl) (by kernel_rfl) (fun _ _ _ h => h) (yi_val yi (by rfl) (fun w h => by have hc := (Below.cell h (World.block_lt_of_cell? wr _ HMC.out)).trans HMC.out; go_simp)) hHeld ?_
          simp only [Act.put, List.getElem_toArray, List.getElem_cons_zero, List.getElem_cons_succ, List.setIfInBounds_toArray, List.set_cons_zero, List.set_cons_succ]
          refine wpAnyH_take (i := 9) (v := .string ⟨(mi).toArray⟩) rfl (by kernel_rfl) (by kernel_rfl) (by kernel_rfl) (fun _ _ _ h => h) (yi_conv _ _ _ (yi) _ (by rfl) rfl rfl (fun w h => run_string_row _ _ 5 Try.underlying22 Try.underlying5 Try.underlying9 ((HYI.out).below h))) hHeld ?_
          simp only [Act.put, List.getElem_toArray, List.getElem_cons_zero, List.getElem_cons_succ, List.setIfInBounds_toArray, List.set_cons_zero, List.set_cons_succ]
          refine wpAnyH_take (i := 10) (v := .bool false) rfl (by kernel_rfl) (by kernel_rfl) (by kernel_rfl) (fun _ _ _ h => h) (yi_net _ _ _ _ li mi false (decide_eq_true heq) (by rfl) rfl rfl rfl) hHeld ?_
          simp only [Act.put, List.getElem_toArray, List.getElem_cons_zero, List.getElem_cons_succ, List.setIfInBounds_toArray, List.set_cons_zero, List.set_cons_succ]
          refine wpAnyH_done (by kernel_rfl) ?_ _
          have HX := Lib.hid B0
          generalize wr.drew = w2 at *
          have hw1 : (k : Int) + 1 ≤ 9223372036854775807 := by have := HN.out; have := HLT.out; omega
          have hw0 : -9223372036854775808 ≤ (k : Int) + 1 := by omega
          clear heq
          go_wp2_with fail
          go_roundw
          case rel => exact ⟨k + 1, by have := HLT.out; omega, by go_num, take_next HT.out HLI.out (by rw [HMI.out, HEQ.out]), HE.out.trans HX.out⟩
          case measure => simp [intOf]; have := HN.out; have := HLT.out; omega
        · have HEQ : Hid (rr = false) := Lib.hid (by
            rw [HRR.out]
            refine decide_eq_false (fun e => heq ?_)
            have h := HLI.out
            rw [e, HMI.out] at h
            exact (Option.some.inj h).symm)
          have B0 : Ext wr wr.drew := Ext.drew _
          refine wp_region_held_drew (S := fun w' => Ext wr w') (by kernel_rfl) B0 (fun hHeld => ?_)
          refine wpAnyH_take (i := 0) (v := .slice (some ⟨lb, lo, none⟩) l.length lc) rfl (by kernel_rfl) (by kernel_rfl) (by kernel_rfl) (fun _ _ _ h => h) (yi_move _ (.slice (some ⟨lb, lo, none⟩) l.length lc) (by rfl) rfl rfl) hHeld ?_
          simp only [Act.put, List.getElem_toArray, List.getElem_cons_zero, List.getElem_cons_succ, List.setIfInBounds_toArray, List.set_cons_zero, List.set_cons_succ]
          refine wpAnyH_take (i := 1) (v := .int .i64 (k : Int)) rfl (by kernel_rfl) (by kernel_rfl) (by kernel_rfl) (fun _ _ _ h => h) (yi_move _ (.int .i64 (k : Int)) (by rfl) rfl rfl) hHeld ?_
          simp only [Act.put, List.getElem_toArray, List.getElem_cons_zero, List.getElem_cons_succ, List.setIfInBounds_toArray, List.set_cons_zero, List.set_cons_succ]
          refine wpAnyH_take (i := 2) (v := .pointer (some ⟨lb, lo + k, none⟩)) rfl (by kernel_rfl) (by kernel_rfl) (by kernel_rfl) (fun _ _ _ h => h) (yi_val (.pointer (some ⟨lb, lo + k, none⟩)) (by rfl) (fun w _ => by go_simp)) hHeld ?_
          simp only [Act.put, List.getElem_toArray, List.getElem_cons_zero, List.getElem_cons_succ, List.setIfInBounds_toArray, List.set_cons_zero, List.set_cons_succ]
          refine wpAnyH_take (i := 3) (v := xi) rfl (by kernel_rfl) (by kernel_rfl) (by kernel_rfl) (fun _ _ _ h => h) (yi_val xi (by rfl) (fun w h => by have hc := (Below.cell h (World.block_lt_of_cell? wr _ HLC.out)).trans HLC.out; go_simp)) hHeld ?_
          simp only [Act.put, List.getElem_toArray, List.getElem_cons_zero, List.getElem_cons_succ, List.setIfInBounds_toArray, List.set_cons_zero, List.set_cons_succ]
          refine wpAnyH_take (i := 4) (v := .string ⟨(li).toArray⟩) rfl (by kernel_rfl) (by kernel_rfl) (by kernel_rfl) (fun _ _ _ h => h) (yi_conv _ _ _ (xi) _ (by rfl) rfl rfl (fun w h => run_string_row _ _ 5 Try.underlying22 Try.underlying5 Try.underlying9 ((HXI.out).below h))) hHeld ?_
          simp only [Act.put, List.getElem_toArray, List.getElem_cons_zero, List.getElem_cons_succ, List.setIfInBounds_toArray, List.set_cons_zero, List.set_cons_succ]
          refine wpAnyH_take (i := 5) (v := .slice (some ⟨mb, mo, none⟩) m.length mc) rfl (by kernel_rfl) (by kernel_rfl) (by kernel_rfl) (fun _ _ _ h => h) (yi_move _ (.slice (some ⟨mb, mo, none⟩) m.length mc) (by rfl) rfl rfl) hHeld ?_
          simp only [Act.put, List.getElem_toArray, List.getElem_cons_zero, List.getElem_cons_succ, List.setIfInBounds_toArray, List.set_cons_zero, List.set_cons_succ]
          refine wpAnyH_take (i := 6) (v := .int .i64 (k : Int)) rfl (by kernel_rfl) (by kernel_rfl) (by kernel_rfl) (fun _ _ _ h => h) (yi_move _ (.int .i64 (k : Int)) (by rfl) rfl rfl) hHeld ?_
          simp only [Act.put, List.getElem_toArray, List.getElem_cons_zero, List.getElem_cons_succ, List.setIfInBounds_toArray, List.set_cons_zero, List.set_cons_succ]
          refine wpAnyH_take (i := 7) (v := .pointer (some ⟨mb, mo + k, none⟩)) rfl (by kernel_rfl) (by kernel_rfl) (by kernel_rfl) (fun _ _ _ h => h) (yi_val (.pointer (some ⟨mb, mo + k, none⟩)) (by rfl) (fun w _ => by go_simp)) hHeld ?_
          simp only [Act.put, List.getElem_toArray, List.getElem_cons_zero, List.getElem_cons_succ, List.setIfInBounds_toArray, List.set_cons_zero, List.set_cons_succ]
          refine wpAnyH_take (i := 8) (v := yi) rfl (by kernel_rfl) (by kernel_rfl) (by kernel_rfl) (fun _ _ _ h => h) (yi_val yi (by rfl) (fun w h => by have hc := (Below.cell h (World.block_lt_of_cell? wr _ HMC.out)).trans HMC.out; go_simp)) hHeld ?_
          simp only [Act.put, List.getElem_toArray, List.getElem_cons_zero, List.getElem_cons_succ, List.setIfInBounds_toArray, List.set_cons_zero, List.set_cons_succ]
          refine wpAnyH_take (i := 9) (v := .string ⟨(mi).toArray⟩) rfl (by kernel_rfl) (by kernel_rfl) (by kernel_rfl) (fun _ _ _ h => h) (yi_conv _ _ _ (yi) _ (by rfl) rfl rfl (fun w h => run_string_row _ _ 5 Try.underlying22 Try.underlying5 Try.underlying9 ((HYI.out).below h))) hHeld ?_
          simp only [Act.put, List.getElem_toArray, List.getElem_cons_zero, List.getElem_cons_succ, List.setIfInBounds_toArray, List.set_cons_zero, List.set_cons_succ]
          refine wpAnyH_take (i := 10) (v := .bool true) rfl (by kernel_rfl) (by kernel_rfl) (by kernel_rfl) (fun _ _ _ h => h) (yi_net _ _ _ _ li mi true (decide_eq_false heq) (by rfl) rfl rfl rfl) hHeld ?_
          simp only [Act.put, List.getElem_toArray, List.getElem_cons_zero, List.getElem_cons_succ, List.setIfInBounds_toArray, List.set_cons_zero, List.set_cons_succ]
          refine wpAnyH_done (by kernel_rfl) ?_ _
          have HX := Lib.hid B0
          generalize wr.drew = w2 at *
          obtain rfl : rr = false := HEQ.out
          clear heq
          go_wp2_with fail
          go_ret
          exact ⟨rfl, HE.out.trans HX.out⟩
      · have hge : (l.length : Int) ≤ (k : Int) := by omega
        have hd : decide (k < l.length) = false := decide_eq_false hlt
        have HEQ : Hid (rr = true) := Lib.hid (by
          rw [HRR.out]
          refine decide_eq_true ?_
          have h := HT.out
          have := HK.out
          have := HNE.out
          rwa [List.take_of_length_le (by omega), List.take_of_length_le (by omega)] at h)
        obtain rfl : rr = true := HEQ.out
        go_wp2_with fail
        go_ret
        exact ⟨rfl, HE.out⟩
  · have h1 : ((l.length : Int) != (m.length : Int)) = true := by simp; omega
    have HEQ : Hid (rr = false) := Lib.hid (by
      rw [HRR.out]
      exact decide_eq_false (fun e => hne (by rw [e])))
    obtain rfl : rr = false := HEQ.out
    clear hne
    go_wp2_with fail
    go_ret
    exact ⟨rfl, Below.refl _ _⟩

end Go.Proofs.Ytjnnhkodkbhbbaa

/- Further operations of a held region: greater, not the same, the rest, exclusive or of numbers. Nothing here speaks of a program. Each theorem names its own conditions. -/
namespace Go.Proofs.Ytjnnhkodkbhbbaa
open Go.RowKit
set_option linter.unusedVariables false
set_option linter.unusedSimpArgs false

section
variable {P : Program} {ops : Array Oper} {S : World → Prop}
theorem yi_gti {o : Oper} {a : Act} (k : IntKind) (ty rt : TypeId) (x y : Operand) (b c : Int) (r : Bool) (hr : decide (c < b) = r) (hw : Region.wanted o (yielded ops a.tmps) = true) (ho : o.op = .binOp .gtr ty x y rt) (hx : a.eval x = .int k b) (hy : a.eval y = .int k c) : YieldsIf P ops S o (.bool r) a :=
  yi_val _ hw (fun w _ => by
    subst hr
    unfold execOp
    simp only [ho, hx, hy]
    simp [eqGuard, binOp, Op.intCmp, Result.andThen])
theorem yi_neI {o : Oper} {a : Act} (k : IntKind) (ty rt : TypeId) (x y : Operand) (b c : Int) (r : Bool) (hr : decide (b = c) = !r) (hw : Region.wanted o (yielded ops a.tmps) = true) (ho : o.op = .binOp .neq ty x y rt) (hx : a.eval x = .int k b) (hy : a.eval y = .int k c) : YieldsIf P ops S o (.bool r) a :=
  yi_val _ hw (fun w _ => by
    have hr2 : r = !decide (b = c) := by rw [hr, Bool.not_not]
    subst hr2
    unfold execOp
    simp only [ho, hx, hy]
    simp [eqGuard, binOp, Op.intCmp, Result.andThen]
    try rw [Bool.eq_iff_iff]; simp)
end

end Go.Proofs.Ytjnnhkodkbhbbaa

/- ImageCuts walks to true. Laid by wip/gen/gimgl3.py. Each theorem names its own conditions. -/
namespace Go.Proofs.Ytjnnhkodkbhbbaa
open Go.RowKit
set_option linter.unusedVariables false
set_option linter.unusedSimpArgs false

theorem flat_next {l : List (List UInt8)} {k : Nat} {x : List UInt8} (h : l[k]? = some x) : (l.take (k + 1)).flatten = (l.take k).flatten ++ x := by
  rw [List.take_add_one, List.flatten_append, h]
  simp
theorem cutL_mem {b : List UInt8} {k : Nat} {x : List UInt8} (h : (cutL b)[k]? = some x) : x.length = 64 := by
  unfold cutL at h
  split at h
  · unfold cutF at h
    rw [List.getElem?_map] at h
    cases hk : (List.range (cutN b))[k]? with
    | none => rw [hk] at h; cases h
    | some j =>
      rw [hk] at h
      injection h with h
      rw [← h]
      exact cutAt_length _ _
  · simp at h
theorem cutL_le (b : List UInt8) : (cutL b).length ≤ 32 := by
  unfold cutL
  split
  · rename_i h
    rw [cutF_length]
    exact cutN_le h
  · simp
theorem flat_le (b : List UInt8) : ∀ k, ((cutL b).take k).flatten.length ≤ 64 * k
  | 0 => by simp
  | k + 1 => by
    cases h : (cutL b)[k]? with
    | none =>
      have h1 := flat_le b k
      rw [List.take_add_one, h, Option.toList_none, List.append_nil]
      omega
    | some x =>
      rw [flat_next h, List.length_append, cutL_mem h]
      have h1 := flat_le b k
      omega
set_option maxRecDepth 100000 in
set_option maxHeartbeats 8000000 in
theorem imgCuts_any (SI : ImgSaid) (b : List UInt8) (bv : Value) (w : World) (hb : Row1 w bv (b.map bval)) :
    Calls Try.prog 3 #[bv] w fun e w' => e = .returned (.bool true) ∧ Below w.heap.size w w' := by
  obtain ⟨i0, hi, hz0, hz1, hz2⟩ := info_parts Try.info5
  have HI0 := Lib.hid hi
  have HZ0 := Lib.hid hz0
  have HZ1 := Lib.hid hz1
  have HZ2 := Lib.hid hz2
  clear hi hz0 hz1 hz2
  obtain ⟨ab, cb, hbv, -⟩ := id hb
  rw [List.length_map] at hbv
  subst hbv
  have HSI := Lib.hid SI
  have HB := Lib.hid hb
  have HAL := Lib.hid (alive_any18 SI w)
  clear hb SI
  go_enter Try.func3, Try.ntmps3
  go_wp2_with fail
  refine HAL.out.mono ?_
  rintro e w1 ⟨rfl, hb⟩
  have HE : Hid (Ext w w1) := Lib.hid hb
  clear hb HAL
  by_cases h1 : 5000 < b.length
  · have h2 : decide ((5000 : Int) < (b.length : Int)) = true := decide_eq_true (by omega)
    go_wp2_with fail
    go_ret
    exact ⟨rfl, HE.out⟩
  have h2 : decide ((5000 : Int) < (b.length : Int)) = false := decide_eq_false (by omega)
  have HBL : Hid (b.length ≤ 5000) := Lib.hid (by omega)
  have HC1 := Lib.hid (HSI.out.cut b _ w1 (HB.out.below HE.out) HBL.out)
  obtain ⟨L, hL⟩ : ∃ L, L = cutL b := ⟨_, rfl⟩
  obtain ⟨E, hE⟩ : ∃ E, E = cutE b := ⟨_, rfl⟩
  have HL32 : Hid (L.length ≤ 32) := Lib.hid (by rw [hL]; exact cutL_le b)
  have HLM : Hid (∀ (k : Nat) (x : List UInt8), L[k]? = some x → x.length = 64) := Lib.hid (fun k x h => by rw [hL] at h; exact cutL_mem h)
  have HFL : Hid (∀ k, (L.take k).flatten.length ≤ 64 * k) := Lib.hid (fun k => by rw [hL]; exact flat_le b k)
  have HC2 := Lib.hid (fun (w' : World) (h : Row1 w' (.slice ab b.length cb) (b.map bval)) => rCut_any b _ w' h)
  rw [← hL, ← hE] at HC1 HC2
  have HLB := Lib.hid hL
  have HEB := Lib.hid hE
  go_upto_region 4 with (fail)
  clear h1 h2 hL hE
  go_wp2_with fail
  refine HC1.out.mono ?_
  rintro e w2 ⟨x0, rfl, hr0, hb⟩
  have HR0 := Lib.hid hr0
  have HE := Lib.hid (HE.out.trans hb)
  clear hr0 hb HC1
  go_wp2_with fail
  refine (HC2.out w2 (HB.out.below HE.out)).mono ?_
  rintro e w3 ⟨x1, rfl, hr1, hb⟩
  have HS := Lib.hid (same18_any L L x0 x1 w3 (HR0.out.below hb) hr1 (by have := HL32.out; omega))
  rw [decide_eq_true (rfl : L = L)] at HS
  have HR0 := Lib.hid (HR0.out.below hb)
  have HE := Lib.hid (HE.out.trans hb)
  clear hr1 hb HC2
  go_wp2_with fail
  refine (num18 E w3).mono ?_
  rintro e w' ⟨rfl, rfl⟩
  go_wp2_with fail
  refine HS.out.mono ?_
  rintro e w4 ⟨rfl, hb⟩
  have HR0 := Lib.hid (HR0.out.below hb)
  have HE := Lib.hid (HE.out.trans hb)
  clear hb HS
  obtain ⟨vals, hr, hll, hxs⟩ := HR0.out
  obtain ⟨la, lc, hlv, -, -, -, hlc⟩ := id hr
  rw [hll] at hlv hlc
  subst hlv
  have HLL := Lib.hid hll
  have HXS := Lib.hid hxs
  have HLC0 := Lib.hid hlc
  clear hr hll hxs hlc HR0
  go_wp2_with fail
  go_loopw [8, 9] (fun v i wr => ∃ k : Nat, k ≤ L.length ∧ i = .int .i64 (k : Int) ∧ wr.ownsRow w4.heap.size 5 1 v (L.take k).flatten.length ((L.take k).flatten.map bval) ∧ Ext w4 wr) (fun _ i _ => 33 - (intOf i).toNat)
  case atStart => exact ⟨0, Nat.zero_le _, rfl, World.ownsRow_nil _ _ _ _, Ext.refl _⟩
  case round =>
    obtain ⟨k, hk, rfl, ho, hE⟩ := hrel
    have HO := Lib.hid ho
    have HE1 := Lib.hid hE
    have HK := Lib.hid hk
    clear ho hE hk
    by_cases hlt : k < L.length
    · have HLT := Lib.hid hlt
      have hlt2 : (k : Int) < (L.length : Int) := by omega
      have k0 : (0 : Int) ≤ (k : Int) := Int.natCast_nonneg _
      obtain ⟨lb, lo, rfl, -, hc1⟩ := HLC0.out (by intro e; have h := HLL.out; rw [e] at h; simp at h; omega)
      obtain ⟨xi, hxi⟩ : ∃ x, vals[k]? = some x := ⟨_, List.getElem?_eq_getElem (by rw [HLL.out]; exact hlt)⟩
      obtain ⟨li, hli⟩ : ∃ x, L[k]? = some x := ⟨_, List.getElem?_eq_getElem hlt⟩
      have HXI := Lib.hid ((HXS.out k xi li hxi hli).below HE1.out)
      have HL64 := Lib.hid (HLM.out k li hli)
      have hcell : wr.cell? ⟨lb, lo + k, none⟩ = some xi := by
        have h := (hc1 k hlt).trans hxi
        exact (Below.cell HE1.out (World.block_lt_of_cell? w4 _ h)).trans h
      have HLI := Lib.hid hli
      have HN := Lib.hid (HFL.out k)
      obtain ⟨q, hq⟩ : ∃ q, q = (L.take k).flatten.length := ⟨_, rfl⟩
      rw [← hq] at HN HO
      have HQ := Lib.hid hq
      clear hc1 hxi hli hq
      go_upto_region 11 with (at_builtin; refine wpList_append_row rfl _ _ 22 rfl w4.heap.size 5 i0 (.int .u8 0) 1 Try.underlying22 HI0.out HZ0.out HZ1.out HZ2.out rfl _ q _ rfl HO.out rfl HXI.out (bval_one _) (by have := HL64.out; have := HN.out; have := HL32.out; have := HLT.out; rw [List.length_map]; unfold maxLen; omega) (by have := HL64.out; have := HN.out; have := HL32.out; have := HLT.out; rw [List.length_map]; omega) HE1.out.size ?_; intro v3 w5 ho3 hg3)
      have HO3 := Lib.hid ho3
      have HE3 := Lib.hid (ext_own HE1.out HO.out (Nat.le_refl _) hg3)
      clear ho3 hg3 hcell
      have hw1 : (k : Int) + 1 ≤ 9223372036854775807 := by have := HL32.out; have := HLT.out; omega
      have hw0 : -9223372036854775808 ≤ (k : Int) + 1 := by omega
      go_wp2_with fail
      go_roundw
      case rel => exact ⟨k + 1, by have := HLT.out; omega, by go_num, by have e := flat_next HLI.out; rw [e, List.length_append, ← HQ.out]; exact own_eq HO3.out (by rw [List.length_map]) (by rw [List.map_append]), HE3.out⟩
      case measure => simp [intOf]; have := HL32.out; have := HLT.out; omega
    · have hge : (L.length : Int) ≤ (k : Int) := by omega
      have hd : decide (k < L.length) = false := decide_eq_false hlt
      have HO2 := HO.out
      rw [List.take_of_length_le (by omega)] at HO2
      have HR := Lib.hid (Row1.of_own HO2)
      have HE := Lib.hid (HE.out.trans HE1.out)
      obtain ⟨aa, ca, hv, -⟩ := id HR.out
      rw [List.length_map] at hv
      subst hv
      obtain ⟨fl, hfl⟩ : ∃ fl, fl = L.flatten := ⟨_, rfl⟩
      obtain ⟨N, hN⟩ : ∃ N, N = L.flatten.length := ⟨_, rfl⟩
      rw [← hN, ← hfl] at HR
      have HV := HR
      have HNF : Hid (N = fl.length) := Lib.hid (by rw [hN, hfl])
      rw [← hN]
      have HFF := Lib.hid hfl
      have HB4 := Lib.hid (HB.out.below HE.out)
      clear HO2 HO hfl hN
      by_cases hle : b.length ≤ 2048
      · obtain rfl : E = 0 := HEB.out.trans (if_pos hle)
        have hLf : L = cutF b := HLB.out.trans (if_pos hle)
        have hcf := cut_flat b
        rw [← hLf, ← HFF.out, ← HNF.out] at hcf
        obtain ⟨va, hva, hcu⟩ := row_upto (P := Try.prog) Try.underlying22 Try.sizeOf5 HV.out b.length (by rw [List.length_map, ← HNF.out]; exact hcf.1)
        rw [← List.map_take, hcf.2] at hva
        have HVA := Lib.hid hva
        have HCU := Lib.hid hcu
        have hge2 : (b.length : Int) ≤ (N : Int) := by have := hcf.1; omega
        have hge3 : b.length ≤ N := hcf.1
        clear hLf hcf hva hcu hle
        go_upto_region 13 with (fail)
        have B0 : Ext wr wr.drew := Ext.drew _
        refine wp_region_held_drew (S := fun w' => Ext wr w') (by kernel_rfl) B0 (fun hHeld => ?_)
        refine wpAnyH_take (i := 0) (v := .int .i64 0) rfl (by kernel_rfl) (by kernel_rfl) (by kernel_rfl) (fun _ _ _ h => h) (yi_move _ (.int .i64 0) (by rfl) rfl rfl) hHeld ?_
        simp only [Act.put, List.getElem_toArray, List.getElem_cons_zero, List.getElem_cons_succ, List.setIfInBounds_toArray, List.set_cons_zero, List.set_cons_succ]
        refine wpAnyH_take (i := 1) (v := .bool false) rfl (by kernel_rfl) (by kernel_rfl) (by kernel_rfl) (fun _ _ _ h => h) (yi_neI .i64 _ _ _ _ 0 (0) false (rfl) (by rfl) rfl rfl rfl) hHeld ?_
        simp only [Act.put, List.getElem_toArray, List.getElem_cons_zero, List.getElem_cons_succ, List.setIfInBounds_toArray, List.set_cons_zero, List.set_cons_succ]
        refine wpAnyH_take (i := 2) (v := .bool false) rfl (by kernel_rfl) (by kernel_rfl) (by kernel_rfl) (fun _ _ _ h => h) (yi_move _ (.bool false) (by rfl) rfl rfl) hHeld ?_
        simp only [Act.put, List.getElem_toArray, List.getElem_cons_zero, List.getElem_cons_succ, List.setIfInBounds_toArray, List.set_cons_zero, List.set_cons_succ]
        refine wpAnyH_take (i := 3) (v := .slice aa N ca) rfl (by kernel_rfl) (by kernel_rfl) (by kernel_rfl) (fun _ _ _ h => h) (yi_move _ (.slice aa N ca) (by rfl) rfl rfl) hHeld ?_
        simp only [Act.put, List.getElem_toArray, List.getElem_cons_zero, List.getElem_cons_succ, List.setIfInBounds_toArray, List.set_cons_zero, List.set_cons_succ]
        refine wpAnyH_take (i := 4) (v := .int .i64 ((N : Nat) : Int)) rfl (by kernel_rfl) (by kernel_rfl) (by kernel_rfl) (fun _ _ _ h => h) (yi_len _ _ _ _ _ _ Try.underlying22 (by rfl) rfl rfl) hHeld ?_
        simp only [Act.put, List.getElem_toArray, List.getElem_cons_zero, List.getElem_cons_succ, List.setIfInBounds_toArray, List.set_cons_zero, List.set_cons_succ]
        refine wpAnyH_take (i := 5) (v := .slice ab b.length cb) rfl (by kernel_rfl) (by kernel_rfl) (by kernel_rfl) (fun _ _ _ h => h) (yi_move _ (.slice ab b.length cb) (by rfl) rfl rfl) hHeld ?_
        simp only [Act.put, List.getElem_toArray, List.getElem_cons_zero, List.getElem_cons_succ, List.setIfInBounds_toArray, List.set_cons_zero, List.set_cons_succ]
        refine wpAnyH_take (i := 6) (v := .int .i64 ((b.length : Nat) : Int)) rfl (by kernel_rfl) (by kernel_rfl) (by kernel_rfl) (fun _ _ _ h => h) (yi_len _ _ _ _ _ _ Try.underlying22 (by rfl) rfl rfl) hHeld ?_
        simp only [Act.put, List.getElem_toArray, List.getElem_cons_zero, List.getElem_cons_succ, List.setIfInBounds_toArray, List.set_cons_zero, List.set_cons_succ]
        refine wpAnyH_take (i := 7) (v := .bool true) rfl (by kernel_rfl) (by kernel_rfl) (by kernel_rfl) (fun _ _ _ h => h) (yi_val (.bool true) (by rfl) (fun w _ => by go_simp)) hHeld ?_
        simp only [Act.put, List.getElem_toArray, List.getElem_cons_zero, List.getElem_cons_succ, List.setIfInBounds_toArray, List.set_cons_zero, List.set_cons_succ]
        refine wpAnyH_take (i := 8) (v := .bool true) rfl (by kernel_rfl) (by kernel_rfl) (by kernel_rfl) (fun _ _ _ h => h) (yi_move _ (.bool true) (by rfl) rfl rfl) hHeld ?_
        simp only [Act.put, List.getElem_toArray, List.getElem_cons_zero, List.getElem_cons_succ, List.setIfInBounds_toArray, List.set_cons_zero, List.set_cons_succ]
        refine wpAnyH_take (i := 9) (v := .slice aa N ca) rfl (by kernel_rfl) (by kernel_rfl) (by kernel_rfl) (fun _ _ _ h => h) (yi_move _ (.slice aa N ca) (by rfl) rfl rfl) hHeld ?_
        simp only [Act.put, List.getElem_toArray, List.getElem_cons_zero, List.getElem_cons_succ, List.setIfInBounds_toArray, List.set_cons_zero, List.set_cons_succ]
        refine wpAnyH_take (i := 10) (v := .slice ab b.length cb) rfl (by kernel_rfl) (by kernel_rfl) (by kernel_rfl) (fun _ _ _ h => h) (yi_move _ (.slice ab b.length cb) (by rfl) rfl rfl) hHeld ?_
        simp only [Act.put, List.getElem_toArray, List.getElem_cons_zero, List.getElem_cons_succ, List.setIfInBounds_toArray, List.set_cons_zero, List.set_cons_succ]
        refine wpAnyH_take (i := 11) (v := .int .i64 ((b.length : Nat) : Int)) rfl (by kernel_rfl) (by kernel_rfl) (by kernel_rfl) (fun _ _ _ h => h) (yi_len _ _ _ _ _ _ Try.underlying22 (by rfl) rfl rfl) hHeld ?_
        simp only [Act.put, List.getElem_toArray, List.getElem_cons_zero, List.getElem_cons_succ, List.setIfInBounds_toArray, List.set_cons_zero, List.set_cons_succ]
        refine wpAnyH_take (i := 12) (v := va) rfl (by kernel_rfl) (by kernel_rfl) (by kernel_rfl) (fun _ _ _ h => h) (yi_slice _ _ _ _ (.slice aa N ca) va none (some (.int .i64 ((b.length : Nat) : Int))) (by rfl) rfl rfl rfl rfl HCU.out) hHeld ?_
        simp only [Act.put, List.getElem_toArray, List.getElem_cons_zero, List.getElem_cons_succ, List.setIfInBounds_toArray, List.set_cons_zero, List.set_cons_succ]
        refine wpAnyH_take (i := 13) (v := .string ⟨(b).toArray⟩) rfl (by kernel_rfl) (by kernel_rfl) (by kernel_rfl) (fun _ _ _ h => h) (yi_conv _ _ _ (va) _ (by rfl) rfl rfl (fun w h => run_string_row _ _ 5 Try.underlying22 Try.underlying5 Try.underlying9 ((HVA.out).below h))) hHeld ?_
        simp only [Act.put, List.getElem_toArray, List.getElem_cons_zero, List.getElem_cons_succ, List.setIfInBounds_toArray, List.set_cons_zero, List.set_cons_succ]
        refine wpAnyH_take (i := 14) (v := .slice ab b.length cb) rfl (by kernel_rfl) (by kernel_rfl) (by kernel_rfl) (fun _ _ _ h => h) (yi_move _ (.slice ab b.length cb) (by rfl) rfl rfl) hHeld ?_
        simp only [Act.put, List.getElem_toArray, List.getElem_cons_zero, List.getElem_cons_succ, List.setIfInBounds_toArray, List.set_cons_zero, List.set_cons_succ]
        refine wpAnyH_take (i := 15) (v := .string ⟨(b).toArray⟩) rfl (by kernel_rfl) (by kernel_rfl) (by kernel_rfl) (fun _ _ _ h => h) (yi_conv _ _ _ (.slice ab b.length cb) _ (by rfl) rfl rfl (fun w h => run_string_row _ _ 5 Try.underlying22 Try.underlying5 Try.underlying9 ((HB4.out).below h))) hHeld ?_
        simp only [Act.put, List.getElem_toArray, List.getElem_cons_zero, List.getElem_cons_succ, List.setIfInBounds_toArray, List.set_cons_zero, List.set_cons_succ]
        refine wpAnyH_take (i := 16) (v := .bool true) rfl (by kernel_rfl) (by kernel_rfl) (by kernel_rfl) (fun _ _ _ h => h) (yi_eqt _ _ _ _ (b) (b) true (decide_eq_true (rfl)) (by rfl) rfl rfl rfl) hHeld ?_
        simp only [Act.put, List.getElem_toArray, List.getElem_cons_zero, List.getElem_cons_succ, List.setIfInBounds_toArray, List.set_cons_zero, List.set_cons_succ]
        refine wpAnyH_take (i := 17) (v := .bool true) rfl (by kernel_rfl) (by kernel_rfl) (by kernel_rfl) (fun _ _ _ h => h) (yi_pick _ _ _ true _ (by rfl) rfl rfl rfl) hHeld ?_
        simp only [Act.put, List.getElem_toArray, List.getElem_cons_zero, List.getElem_cons_succ, List.setIfInBounds_toArray, List.set_cons_zero, List.set_cons_succ]
        refine wpAnyH_take (i := 18) (v := .bool true) rfl (by kernel_rfl) (by kernel_rfl) (by kernel_rfl) (fun _ _ _ h => h) (yi_pick _ _ _ false _ (by rfl) rfl rfl rfl) hHeld ?_
        simp only [Act.put, List.getElem_toArray, List.getElem_cons_zero, List.getElem_cons_succ, List.setIfInBounds_toArray, List.set_cons_zero, List.set_cons_succ]
        refine wpAnyH_ready (rs := [19]) (by kernel_rfl) (by simp) (AllReadyH.cons rfl (fun K hK => ?_) AllReadyH.nil)
        go_simp
        refine hK.out _ _ B0 (fun hHeld => ?_)
        clear hK K
        try simp only [Act.put, List.getElem_toArray, List.getElem_cons_zero, List.getElem_cons_succ, List.setIfInBounds_toArray, List.set_cons_zero, List.set_cons_succ]
        refine wpAnyH_done (by kernel_rfl) ?_ _
        go_wp2_with fail
        go_ret
        exact ⟨rfl, HE.out.trans B0⟩
      · obtain rfl : E = 3 := HEB.out.trans (if_neg hle)
        clear hle
        go_upto_region 13 with (fail)
        have B0 : Ext wr wr.drew := Ext.drew _
        refine wp_region_held_drew (S := fun w' => Ext wr w') (by kernel_rfl) B0 (fun hHeld => ?_)
        refine wpAnyH_take (i := 0) (v := .int .i64 3) rfl (by kernel_rfl) (by kernel_rfl) (by kernel_rfl) (fun _ _ _ h => h) (yi_move _ (.int .i64 3) (by rfl) rfl rfl) hHeld ?_
        simp only [Act.put, List.getElem_toArray, List.getElem_cons_zero, List.getElem_cons_succ, List.setIfInBounds_toArray, List.set_cons_zero, List.set_cons_succ]
        refine wpAnyH_take (i := 1) (v := .bool true) rfl (by kernel_rfl) (by kernel_rfl) (by kernel_rfl) (fun _ _ _ h => h) (yi_neI .i64 _ _ _ _ 3 (0) true (rfl) (by rfl) rfl rfl rfl) hHeld ?_
        simp only [Act.put, List.getElem_toArray, List.getElem_cons_zero, List.getElem_cons_succ, List.setIfInBounds_toArray, List.set_cons_zero, List.set_cons_succ]
        refine wpAnyH_take (i := 2) (v := .bool true) rfl (by kernel_rfl) (by kernel_rfl) (by kernel_rfl) (fun _ _ _ h => h) (yi_move _ (.bool true) (by rfl) rfl rfl) hHeld ?_
        simp only [Act.put, List.getElem_toArray, List.getElem_cons_zero, List.getElem_cons_succ, List.setIfInBounds_toArray, List.set_cons_zero, List.set_cons_succ]
        refine wpAnyH_take (i := 3) (v := undef) rfl (by kernel_rfl) (by kernel_rfl) (by kernel_rfl) (fun _ _ _ h => h) (yi_skip (by rfl)) hHeld ?_
        simp only [Act.put, List.getElem_toArray, List.getElem_cons_zero, List.getElem_cons_succ, List.setIfInBounds_toArray, List.set_cons_zero, List.set_cons_succ]
        refine wpAnyH_take (i := 4) (v := undef) rfl (by kernel_rfl) (by kernel_rfl) (by kernel_rfl) (fun _ _ _ h => h) (yi_skip (by rfl)) hHeld ?_
        simp only [Act.put, List.getElem_toArray, List.getElem_cons_zero, List.getElem_cons_succ, List.setIfInBounds_toArray, List.set_cons_zero, List.set_cons_succ]
        refine wpAnyH_take (i := 5) (v := undef) rfl (by kernel_rfl) (by kernel_rfl) (by kernel_rfl) (fun _ _ _ h => h) (yi_skip (by rfl)) hHeld ?_
        simp only [Act.put, List.getElem_toArray, List.getElem_cons_zero, List.getElem_cons_succ, List.setIfInBounds_toArray, List.set_cons_zero, List.set_cons_succ]
        refine wpAnyH_take (i := 6) (v := undef) rfl (by kernel_rfl) (by kernel_rfl) (by kernel_rfl) (fun _ _ _ h => h) (yi_skip (by rfl)) hHeld ?_
        simp only [Act.put, List.getElem_toArray, List.getElem_cons_zero, List.getElem_cons_succ, List.setIfInBounds_toArray, List.set_cons_zero, List.set_cons_succ]
        refine wpAnyH_take (i := 7) (v := undef) rfl (by kernel_rfl) (by kernel_rfl) (by kernel_rfl) (fun _ _ _ h => h) (yi_skip (by rfl)) hHeld ?_
        simp only [Act.put, List.getElem_toArray, List.getElem_cons_zero, List.getElem_cons_succ, List.setIfInBounds_toArray, List.set_cons_zero, List.set_cons_succ]
        refine wpAnyH_take (i := 8) (v := undef) rfl (by kernel_rfl) (by kernel_rfl) (by kernel_rfl) (fun _ _ _ h => h) (yi_skip (by rfl)) hHeld ?_
        simp only [Act.put, List.getElem_toArray, List.getElem_cons_zero, List.getElem_cons_succ, List.setIfInBounds_toArray, List.set_cons_zero, List.set_cons_succ]
        refine wpAnyH_take (i := 9) (v := undef) rfl (by kernel_rfl) (by kernel_rfl) (by kernel_rfl) (fun _ _ _ h => h) (yi_skip (by rfl)) hHeld ?_
        simp only [Act.put, List.getElem_toArray, List.getElem_cons_zero, List.getElem_cons_succ, List.setIfInBounds_toArray, List.set_cons_zero, List.set_cons_succ]
        refine wpAnyH_take (i := 10) (v := undef) rfl (by kernel_rfl) (by kernel_rfl) (by kernel_rfl) (fun _ _ _ h => h) (yi_skip (by rfl)) hHeld ?_
        simp only [Act.put, List.getElem_toArray, List.getElem_cons_zero, List.getElem_cons_succ, List.setIfInBounds_toArray, List.set_cons_zero, List.set_cons_succ]
        refine wpAnyH_take (i := 11) (v := undef) rfl (by kernel_rfl) (by kernel_rfl) (by kernel_rfl) (fun _ _ _ h => h) (yi_skip (by rfl)) hHeld ?_
        simp only [Act.put, List.getElem_toArray, List.getElem_cons_zero, List.getElem_cons_succ, List.setIfInBounds_toArray, List.set_cons_zero, List.set_cons_succ]
        refine wpAnyH_take (i := 12) (v := undef) rfl (by kernel_rfl) (by kernel_rfl) (by kernel_rfl) (fun _ _ _ h => h) (yi_skip (by rfl)) hHeld ?_
        simp only [Act.put, List.getElem_toArray, List.getElem_cons_zero, List.getElem_cons_succ, List.setIfInBounds_toArray, List.set_cons_zero, List.set_cons_succ]
        refine wpAnyH_take (i := 13) (v := undef) rfl (by kernel_rfl) (by kernel_rfl) (by kernel_rfl) (fun _ _ _ h => h) (yi_skip (by rfl)) hHeld ?_
        simp only [Act.put, List.getElem_toArray, List.getElem_cons_zero, List.getElem_cons_succ, List.setIfInBounds_toArray, List.set_cons_zero, List.set_cons_succ]
        refine wpAnyH_take (i := 14) (v := undef) rfl (by kernel_rfl) (by kernel_rfl) (by kernel_rfl) (fun _ _ _ h => h) (yi_skip (by rfl)) hHeld ?_
        simp only [Act.put, List.getElem_toArray, List.getElem_cons_zero, List.getElem_cons_succ, List.setIfInBounds_toArray, List.set_cons_zero, List.set_cons_succ]
        refine wpAnyH_take (i := 15) (v := undef) rfl (by kernel_rfl) (by kernel_rfl) (by kernel_rfl) (fun _ _ _ h => h) (yi_skip (by rfl)) hHeld ?_
        simp only [Act.put, List.getElem_toArray, List.getElem_cons_zero, List.getElem_cons_succ, List.setIfInBounds_toArray, List.set_cons_zero, List.set_cons_succ]
        refine wpAnyH_take (i := 16) (v := undef) rfl (by kernel_rfl) (by kernel_rfl) (by kernel_rfl) (fun _ _ _ h => h) (yi_skip (by rfl)) hHeld ?_
        simp only [Act.put, List.getElem_toArray, List.getElem_cons_zero, List.getElem_cons_succ, List.setIfInBounds_toArray, List.set_cons_zero, List.set_cons_succ]
        refine wpAnyH_take (i := 17) (v := undef) rfl (by kernel_rfl) (by kernel_rfl) (by kernel_rfl) (fun _ _ _ h => h) (yi_skip (by rfl)) hHeld ?_
        simp only [Act.put, List.getElem_toArray, List.getElem_cons_zero, List.getElem_cons_succ, List.setIfInBounds_toArray, List.set_cons_zero, List.set_cons_succ]
        refine wpAnyH_take (i := 18) (v := .bool true) rfl (by kernel_rfl) (by kernel_rfl) (by kernel_rfl) (fun _ _ _ h => h) (yi_pick _ _ _ true _ (by rfl) rfl rfl rfl) hHeld ?_
        simp only [Act.put, List.getElem_toArray, List.getElem_cons_zero, List.getElem_cons_succ, List.setIfInBounds_toArray, List.set_cons_zero, List.set_cons_succ]
        refine wpAnyH_ready (rs := [19]) (by kernel_rfl) (by simp) (AllReadyH.cons rfl (fun K hK => ?_) AllReadyH.nil)
        go_simp
        refine hK.out _ _ B0 (fun hHeld => ?_)
        clear hK K
        try simp only [Act.put, List.getElem_toArray, List.getElem_cons_zero, List.getElem_cons_succ, List.setIfInBounds_toArray, List.set_cons_zero, List.set_cons_succ]
        refine wpAnyH_done (by kernel_rfl) ?_ _
        go_wp2_with fail
        go_ret
        exact ⟨rfl, HE.out.trans B0⟩
end Go.Proofs.Ytjnnhkodkbhbbaa

/- ImageEnds walks to true. Each theorem names its own conditions. -/
namespace Go.Proofs.Ytjnnhkodkbhbbaa
open Go.RowKit
set_option linter.unusedVariables false
set_option linter.unusedSimpArgs false

theorem cut_fill {N i k : Nat} {v : UInt8} (hk : k < 64) : (cutAt (List.replicate N v) i)[k]? = some (if 64 * i + k < N then v else 0) := by
  unfold cutAt
  rw [List.drop_replicate, List.take_replicate, List.length_replicate]
  by_cases h : 64 * i + k < N
  · rw [if_pos h, List.getElem?_append_left (by rw [List.length_replicate]; omega), List.getElem?_replicate, if_pos (by omega)]
  · rw [if_neg h, List.getElem?_append_right (by rw [List.length_replicate]; omega), List.length_replicate, List.getElem?_replicate, if_pos (by omega)]
def fillB (N k : Nat) (v : UInt8) : List UInt8 := List.replicate k v ++ List.replicate (N - k) 0
theorem fillB_length {N k : Nat} {v : UInt8} (h : k ≤ N) : (fillB N k v).length = N := by simp [fillB]; omega
theorem fillB_set {N k : Nat} {v : UInt8} (h : k < N) : ((fillB N k v).map bval).set k (bval v) = (fillB N (k + 1) v).map bval := by
  have e : ((fillB N k v).map bval).set k (bval v) = ((fillB N k v).set k v).map bval := by rw [List.map_set]
  rw [e]
  congr 1
  unfold fillB
  apply List.ext_getElem?
  intro j
  by_cases h1 : j = k
  · subst h1
    rw [List.getElem?_set_self (by simp; omega), List.getElem?_append_left (by simp), List.getElem?_replicate, if_pos (by omega)]
  · rw [List.getElem?_set_ne (by omega)]
    by_cases h2 : j < k
    · rw [List.getElem?_append_left (by simp; omega), List.getElem?_append_left (by simp; omega), List.getElem?_replicate, List.getElem?_replicate, if_pos h2, if_pos (by omega)]
    · rw [List.getElem?_append_right (by simp; omega), List.getElem?_append_right (by simp; omega), List.length_replicate, List.length_replicate, List.getElem?_replicate, List.getElem?_replicate]
      by_cases h3 : j < N
      · rw [if_pos (by omega), if_pos (by omega)]
      · rw [if_neg (by omega), if_neg (by omega)]
theorem fillB_zero (N : Nat) (v : UInt8) : fillB N 0 v = zB N := by simp [fillB, zB]
theorem fillB_all (N : Nat) (v : UInt8) : fillB N N v = List.replicate N v := by simp [fillB]

set_option maxRecDepth 100000 in
set_option maxHeartbeats 8000000 in
theorem imgEnds_any (SI : ImgSaid) (n : Int) (v : UInt8) (w : World) :
    Calls Try.prog 7 #[.int .i64 n, .int .u8 (v.toNat : Int)] w fun e w' => e = .returned (.bool true) ∧ Below w.heap.size w w' := by
  obtain ⟨i0, hi, hz0, hz1, hz2⟩ := info_parts Try.info5
  have HI0 := Lib.hid hi
  have HZ0 := Lib.hid hz0
  have HZ1 := Lib.hid hz1
  have HZ2 := Lib.hid hz2
  clear hi hz0 hz1 hz2
  have HSI := Lib.hid SI
  have HAL := Lib.hid (alive_any18 SI w)
  clear SI
  by_cases h1 : n < 0
  · have h2 : decide (n < 0) = true := decide_eq_true h1
    go_enter Try.func7, Try.ntmps7
    go_wp2_with fail
    refine HAL.out.mono ?_
    rintro e w1 ⟨rfl, hb⟩
    go_wp2_with fail
    go_ret
    exact ⟨rfl, hb⟩
  by_cases h3 : 3000 < n
  · have h2 : decide (n < 0) = false := decide_eq_false h1
    have h4 : decide (3000 < n) = true := decide_eq_true h3
    go_enter Try.func7, Try.ntmps7
    go_wp2_with fail
    refine HAL.out.mono ?_
    rintro e w1 ⟨rfl, hb⟩
    go_wp2_with fail
    go_ret
    exact ⟨rfl, hb⟩
  obtain ⟨N, rfl⟩ : ∃ N : Nat, n = (N : Int) := ⟨n.toNat, by omega⟩
  have HN : Hid (N ≤ 3000) := Lib.hid (by omega)
  have h2 : decide ((N : Int) < 0) = false := decide_eq_false h1
  have h4 : decide (3000 < (N : Int)) = false := decide_eq_false h3
  clear h1 h3
  go_enter Try.func7, Try.ntmps7
  go_wp2_with fail
  refine HAL.out.mono ?_
  rintro e w1 ⟨rfl, hb⟩
  have HE : Hid (Ext w w1) := Lib.hid hb
  clear hb HAL
  go_upto_region 4 with (fail)
  clear h2 h4
  have hmk : (Instr.makeSlice 22 (.int .i64 (N : Int)) (.int .i64 (N : Int))).run Try.prog w1 = .ok (.slice (some ⟨w1.heap.size, 0, none⟩) N N) (w1.alloc (.cells ((zB N).map bval).toArray 5)) := run_make_zeros w1 _ _ Try.underlying22 i0 HI0.out HZ0.out HZ1.out HZ2.out N (by have := HN.out; omega)
  have HB := Lib.hid (Blk.made w1 ((zB N).map bval) 5)
  have HE1 := Lib.hid (Ext.alloc w1 (.cells ((zB N).map bval).toArray 5))
  go_upto_region 5 with (fail)
  clear hmk
  obtain ⟨B, hB⟩ : ∃ B, B = w1.heap.size := ⟨_, rfl⟩
  generalize w1.alloc (.cells ((zB N).map bval).toArray 5) = w2 at *
  rw [← hB] at HB ⊢
  have HBB : Hid (w.heap.size ≤ B) := Lib.hid (by rw [hB]; exact HE.out.size)
  have HE2 : Hid (Ext w w2) := Lib.hid (HE.out.trans HE1.out)
  rw [← fillB_zero N v] at HB
  clear hB HE HE1
  go_wp2_with fail
  go_loopw [7] (fun i wr => ∃ k : Nat, k ≤ N ∧ i = .int .i64 (k : Int) ∧ Blk wr B ((fillB N k v).map bval) 5 ∧ Ext w wr) (fun i _ => 3001 - (intOf i).toNat)
  case atStart => exact ⟨0, Nat.zero_le _, rfl, HB.out, HE2.out⟩
  case round =>
    obtain ⟨k, hk, rfl, hBk, hE⟩ := hrel
    have HK := Lib.hid hk
    have HBK := Lib.hid hBk
    have HE := Lib.hid hE
    clear hk hBk hE
    by_cases hlt : k < N
    · have HLT := Lib.hid hlt
      have hlt2 : (k : Int) < (N : Int) := by omega
      have k0 : (0 : Int) ≤ (k : Int) := Int.natCast_nonneg _
      obtain ⟨ck, hck⟩ : ∃ x, ((fillB N k v).map bval)[k]? = some x := ⟨_, List.getElem?_eq_getElem (by rw [List.length_map, fillB_length (by omega)]; exact hlt)⟩
      have hc1 : wr.cell? ⟨B, k, none⟩ = some ck := (HBK.out.cell k).trans hck
      have hf1 := HBK.out.free k
      clear hck
      go_upto_region 7 with (fail)
      clear hc1 hf1
      have hw1 : (k : Int) + 1 ≤ 9223372036854775807 := by have := HN.out; have := HLT.out; omega
      have hw0 : -9223372036854775808 ≤ (k : Int) + 1 := by omega
      go_wp2_with fail
      go_roundw
      case rel => exact ⟨k + 1, by have := HLT.out; omega, by go_num, by rw [← fillB_set HLT.out]; exact HBK.out.set k _, ext_grown HE.out (grownBy_set (World.grownBy.refl wr (some B)) k _) HBB.out⟩
      case measure => simp [intOf]; have := HN.out; have := HLT.out; omega
    · have hge : (N : Int) ≤ (k : Int) := by omega
      have hkn : k = N := by have := HK.out; omega
      have hBN := HBK.out
      rw [hkn, fillB_all] at hBN
      obtain ⟨b, hb⟩ : ∃ b, b = List.replicate N v := ⟨_, rfl⟩
      rw [← hb] at hBN
      have HBL : Hid (b.length = N) := Lib.hid (by rw [hb, List.length_replicate])
      have HBF : Hid (∀ i k, k < 64 → (cutAt b i)[k]? = some (if 64 * i + k < N then v else 0)) := Lib.hid (fun i k h => by rw [hb]; exact cut_fill h)
      have HBR := Lib.hid (blk_row (n := N) hBN (by rw [List.length_map, HBL.out]) (by have := HN.out; unfold maxLen; omega))
      have HC := Lib.hid (HSI.out.cut b _ wr HBR.out (by rw [HBL.out]; have := HN.out; omega))
      have hd : decide ((k : Int) < (N : Int)) = false := decide_eq_false (by omega)
      clear hkn hBN hb HBK HB HBR
      go_upto_region 9 with (fail)
      clear hd hge hlt
      go_wp2_with fail
      refine HC.out.mono ?_
      rintro e w5 ⟨x, rfl, hr, hb⟩
      have HE := Lib.hid (HE.out.trans hb)
      clear hb HC
      by_cases h5 : 2048 < N
      · have h6 : (2048 : Int) < (N : Int) := by omega
        have e1 : cutE b = 3 := if_neg (by rw [HBL.out]; omega)
        have e2 : cutL b = [] := if_neg (by rw [HBL.out]; omega)
        rw [e2] at hr
        obtain ⟨vals, hr1, hr2, -⟩ := hr
        obtain ⟨a, c, hx, -⟩ := id hr1
        rw [hr2] at hx
        have hx2 : x = .slice a 0 c := hx
        subst hx2
        rw [e1]
        clear e1 e2 hr1 hr2 hx h5
        go_wp2_with fail
        refine (num18 3 w5).mono ?_
        rintro e w' ⟨rfl, rfl⟩
        go_wp2_with fail
        go_ret
        exact ⟨rfl, HE.out⟩
      have HN2 : Hid (N ≤ 2048) := Lib.hid (by omega)
      have h6 : decide ((2048 : Int) < (N : Int)) = false := decide_eq_false (by omega)
      have e1 : cutE b = 0 := if_pos (by rw [HBL.out]; omega)
      have e2 : cutL b = cutF b := if_pos (by rw [HBL.out]; omega)
      rw [e1]
      rw [e2] at hr
      obtain ⟨M, hM⟩ : ∃ M, M = cutN b := ⟨_, rfl⟩
      have HM32 : Hid (M ≤ 32) := Lib.hid (by rw [hM]; exact cutN_le (by rw [HBL.out]; omega))
      obtain ⟨vals, hr1, hr2, hxs⟩ := hr
      rw [cutF_length, ← hM] at hr2
      obtain ⟨la, lc, hlx, -, -, -, hcell⟩ := id hr1
      obtain ⟨lb, lo, hla, -, hc⟩ := hcell (by intro e; rw [e] at hr2; have := cutN_pos b; simp at hr2; omega)
      subst hla
      rw [hr2] at hlx hc
      subst hlx
      have HVL := Lib.hid hr2
      have HCC := Lib.hid hc
      have HXS : Hid (∀ j x, vals[j]? = some x → Row1 w5 x ((cutAt b j).map bval)) := Lib.hid (fun j x h => by
        refine hxs j x (cutAt b j) h ?_
        obtain ⟨hj, -⟩ := List.getElem?_eq_some_iff.1 h
        unfold cutF
        rw [List.getElem?_map, List.getElem?_range (by omega)]
        rfl)
      have HMQ : Hid (if N = 0 then M = 1 else M = (N + 63) / 64) := Lib.hid (by
        rw [hM]
        split
        · rename_i h
          have : b = [] := List.length_eq_zero_iff.1 (by rw [HBL.out, h])
          rw [this]
          rfl
        · rename_i h
          rw [cutN_of (by rw [HBL.out]; omega), HBL.out])
      clear e1 e2 hM hr1 hr2 hxs hcell hc h5
      go_upto_region 12 with (fail)
      clear h6
      obtain ⟨q, hq⟩ : ∃ q : Nat, q = (N + 63) / 64 := ⟨_, rfl⟩
      have hx1 : (N : Int) + 63 ≤ 9223372036854775807 := by have := HN.out; omega
      have hx3 : ((N : Int) + 63).tdiv 64 = (q : Int) := by rw [hq, Int.tdiv_eq_ediv_of_nonneg (by omega)]; omega
      have hx4 : (q : Int) ≤ 9223372036854775807 := by have := HN.out; omega
      have hx5 : -9223372036854775808 ≤ (q : Int) := by omega
      have HQ := Lib.hid hq
      clear hq
      go_upto_if 56 with (fail)
      clear hx1 hx3 hx4 hx5
      go_cut [10] from 52 to 56 (fun s wc => s = .int .i64 (M : Int) ∧ wc = w5)
      case first =>
        by_cases h0 : N = 0
        · have h01 : ((N : Int) == 0) = true := by simp; omega
          have hm : M = 1 := by have := HMQ.out; rwa [if_pos h0] at this
          have HM := Lib.hid hm
          clear hm
          go_wp2_with fail
          go_meet
          exact ⟨by rw [HM.out]; rfl, rfl⟩
        · have h01 : ((N : Int) == 0) = false := by simp; omega
          have HM : Hid (M = q) := Lib.hid (by have := HMQ.out; rw [if_neg h0] at this; rw [this, HQ.out])
          go_wp2_with fail
          go_meet
          exact ⟨by rw [HM.out], rfl⟩
      case rest =>
        obtain ⟨rfl, rfl⟩ := hcut
        go_wp2_with fail
        refine (num18 0 wc).mono ?_
        rintro e w' ⟨rfl, rfl⟩
        go_wp2_with fail
        go_loop [11] (fun i => ∃ j : Nat, j ≤ M ∧ i = .int .i64 (j : Int)) (fun i => 33 - (intOf i).toNat)
        case atStart => exact ⟨0, Nat.zero_le _, rfl⟩
        case round =>
          obtain ⟨j, hj, rfl⟩ := hrel
          have HJ := Lib.hid hj
          clear hj
          by_cases hjl : j < M
          · have HJL := Lib.hid hjl
            have hjl2 : (j : Int) < (M : Int) := by omega
            have j0 : (0 : Int) ≤ (j : Int) := Int.natCast_nonneg _
            obtain ⟨xi, hxi⟩ : ∃ x, vals[j]? = some x := ⟨_, List.getElem?_eq_getElem (by rw [HVL.out]; exact hjl)⟩
            have hrx := HXS.out j xi hxi
            obtain ⟨xa, xc, hxf, -, -, -, hxcl⟩ := id hrx
            rw [List.length_map, cutAt_length] at hxf hxcl
            obtain ⟨xb, xo, hxa, -, hxc⟩ := hxcl (by intro e; have h := congrArg List.length e; rw [List.length_map, cutAt_length] at h; exact absurd h (by decide))
            subst hxa
            subst hxf
            have HXC := Lib.hid hxc
            have hlc : wc.cell? ⟨lb, lo + j, none⟩ = some (.slice (some ⟨xb, xo, none⟩) 64 xc) := (HCC.out j hjl).trans hxi
            have hwj1 : 64 * (j : Int) ≤ 9223372036854775807 := by have := HM32.out; omega
            have hwj0 : -9223372036854775808 ≤ 64 * (j : Int) := by omega
            clear hrx hxcl hxc hxi hjl
            go_wp2_with fail
            go_loop [12] (fun i => ∃ k : Nat, k ≤ 64 ∧ i = .int .i64 (k : Int)) (fun i => 65 - (intOf i).toNat)
            case atStart => exact ⟨0, Nat.zero_le _, rfl⟩
            case round =>
              obtain ⟨k2, hk2, rfl⟩ := hrel
              have HK2 := Lib.hid hk2
              clear hk2
              by_cases hkl : k2 < 64
              · have HKL := Lib.hid hkl
                have hkl2 : (k2 : Int) < 64 := by omega
                have k20 : (0 : Int) ≤ (k2 : Int) := Int.natCast_nonneg _
                have hcv := HBF.out j k2 hkl
                have hce := HXC.out k2 (by omega)
                rw [List.getElem?_map, hcv] at hce
                have hs1 : 64 * (j : Int) + (k2 : Int) ≤ 9223372036854775807 := by have := HM32.out; omega
                have hs0 : -9223372036854775808 ≤ 64 * (j : Int) + (k2 : Int) := by omega
                by_cases hin : 64 * j + k2 < N
                · have hin2 : 64 * (j : Int) + (k2 : Int) < (N : Int) := by omega
                  rw [if_pos hin] at hce
                  have hce2 : wc.cell? ⟨xb, xo + k2, none⟩ = some (.int .u8 (v.toNat : Int)) := hce
                  clear hce hcv hin hkl
                  go_wp2_with fail
                  go_round
                  case rel => exact ⟨k2 + 1, by have := HKL.out; omega, by go_num⟩
                  case measure => simp [intOf]; have := HKL.out; omega
                · have hin2 : decide (64 * (j : Int) + (k2 : Int) < (N : Int)) = false := decide_eq_false (by omega)
                  rw [if_neg hin] at hce
                  have hce2 : wc.cell? ⟨xb, xo + k2, none⟩ = some (.int .u8 0) := hce
                  clear hce hcv hin hkl
                  go_wp2_with fail
                  go_round
                  case rel => exact ⟨k2 + 1, by have := HKL.out; omega, by go_num⟩
                  case measure => simp [intOf]; have := HKL.out; omega
              · have hge2 : (64 : Int) ≤ (k2 : Int) := by omega
                have hd2 : decide ((k2 : Int) < 64) = false := decide_eq_false (by omega)
                have hw1 : (j : Int) + 1 ≤ 9223372036854775807 := by have := HM32.out; omega
                have hw0 : -9223372036854775808 ≤ (j : Int) + 1 := by omega
                go_wp2_with fail
                go_round
                case rel => exact ⟨j + 1, by have := HJL.out; omega, by go_num⟩
                case measure => simp [intOf]; have := HJL.out; have := HM32.out; omega
          · have hge2 : (M : Int) ≤ (j : Int) := by omega
            have hd2 : decide ((j : Int) < (M : Int)) = false := decide_eq_false (by omega)
            go_wp2_with fail
            go_ret
            exact ⟨rfl, HE.out⟩

end Go.Proofs.Ytjnnhkodkbhbbaa
