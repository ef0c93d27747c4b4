/- Texts that belong together, one behind the other; each says in its own first remark what it shows. -/
import Derived.Test.YtjnnhkodkbhbbaaAllC3
import Derived.Test.YtjnnhkodkbhbbaaAllC1

/- Same of the laws of chapter 18. Laid by wip/gen/gimgl2.py. Each theorem names its own conditions. -/
namespace Go.Proofs.Ytjnnhkodkbhbbaa
open Go.RowKit
set_option linter.unusedVariables false
set_option linter.unusedSimpArgs false

theorem take_next {α : Type} {l m : List α} {k : Nat} {x : α} (h : l.take k = m.take k) (hl : l[k]? = some x) (hm : m[k]? = some x) : l.take (k + 1) = m.take (k + 1) := by
  rw [List.take_add_one, List.take_add_one, h, hl, hm]
set_option maxRecDepth 100000 in
set_option maxHeartbeats 8000000 in
theorem same18_any (l m : List (List UInt8)) (lv mv : Value) (w : World) (hl : RowB w lv l) (hm : RowB w mv m) (hn : l.length ≤ 1000000) :
    Calls Try.prog 12 #[lv, mv] w fun e w' => e = .returned (.bool (decide (l = m))) ∧ Below w.heap.size w w' := by
  obtain ⟨rr, hrr⟩ : ∃ rr, rr = decide (l = m) := ⟨_, rfl⟩
  rw [← hrr]
  have HRR := Lib.hid hrr
  obtain ⟨vl, hr, hll, hxs⟩ := hl
  obtain ⟨vm, hs, hml, hys⟩ := hm
  obtain ⟨la, lc, hlv, -, -, -, hlc⟩ := id hr
  obtain ⟨ma, mc, hmv, -, -, -, hmc⟩ := id hs
  rw [hll] at hlv hlc
  rw [hml] at hmv hmc
  subst hlv hmv
  have HLL := Lib.hid hll
  have HML := Lib.hid hml
  have HXS := Lib.hid hxs
  have HYS := Lib.hid hys
  have HLC0 := Lib.hid hlc
  have HMC0 := Lib.hid hmc
  have HN := Lib.hid hn
  clear hrr hr hs hll hml hxs hys hlc hmc hn
  go_enter Try.func12, Try.ntmps12
  by_cases hne : l.length = m.length
  · have HNE := Lib.hid hne
    have h1 : ((l.length : Int) != (m.length : Int)) = false := by simp [hne]
    clear hne
    go_wp2_with fail
    clear h1
    go_loopw [5] (fun i wr => ∃ k : Nat, k ≤ l.length ∧ i = .int .i64 (k : Int) ∧ l.take k = m.take k ∧ Ext w wr) (fun i _ => 1000001 - (intOf i).toNat)
    case atStart => exact ⟨0, Nat.zero_le _, rfl, rfl, Ext.refl _⟩
    case round =>
      obtain ⟨k, hk, rfl, ht, hE⟩ := hrel
      have HT := Lib.hid ht
      have HE := Lib.hid hE
      have HK := Lib.hid hk
      clear ht hE hk
      by_cases hlt : k < l.length
      · have HLT := Lib.hid hlt
        have hlt2 : (k : Int) < (l.length : Int) := by omega
        have hlm : k < m.length := by have := HNE.out; omega
        have hlt3 : (k : Int) < (m.length : Int) := by omega
        have k0 : (0 : Int) ≤ (k : Int) := Int.natCast_nonneg _
        obtain ⟨lb, lo, rfl, -, hc1⟩ := HLC0.out (by intro e; have h := HLL.out; rw [e] at h; simp at h; omega)
        obtain ⟨mb, mo, rfl, -, hc2⟩ := HMC0.out (by intro e; have h := HML.out; rw [e] at h; simp at h; omega)
        obtain ⟨xi, hxi⟩ : ∃ x, vl[k]? = some x := ⟨_, List.getElem?_eq_getElem (by rw [HLL.out]; exact hlt)⟩
        obtain ⟨yi, hyi⟩ : ∃ x, vm[k]? = some x := ⟨_, List.getElem?_eq_getElem (by rw [HML.out]; exact hlm)⟩
        obtain ⟨li, hli⟩ : ∃ x, l[k]? = some x := ⟨_, List.getElem?_eq_getElem hlt⟩
        obtain ⟨mi, hmi⟩ : ∃ x, m[k]? = some x := ⟨_, List.getElem?_eq_getElem hlm⟩
        have HXI := Lib.hid ((HXS.out k xi li hxi hli).below HE.out)
        have HYI := Lib.hid ((HYS.out k yi mi hyi hmi).below HE.out)
        have HLC : Hid (wr.cell? ⟨lb, lo + k, none⟩ = some xi) := Lib.hid (by
          have h := (hc1 k hlt).trans hxi
          exact (Below.cell HE.out (World.block_lt_of_cell? w _ h)).trans h)
        have HMC : Hid (wr.cell? ⟨mb, mo + k, none⟩ = some yi) := Lib.hid (by
          have h := (hc2 k hlm).trans hyi
          exact (Below.cell HE.out (World.block_lt_of_cell? w _ h)).trans h)
        have HLI := Lib.hid hli
        have HMI := Lib.hid hmi
        clear hc1 hc2 hxi hyi hli hmi HLC0 HMC0
        go_upto_region 6 with (fail)
        by_cases heq : li = mi
        · have HEQ := Lib.hid heq
          have B0 : Ext wr wr.drew := Ext.drew _
          refine wp_region_held_drew (S := fun w' => Ext wr w') (by kernel_rfl) B0 (fun hHeld => ?_)
          refine wpAnyH_take (i := 0) (v := .slice (some ⟨lb, lo, none⟩) l.length lc) rfl (by kernel_rfl) (by kernel_rfl) (by kernel_rfl) (fun _ _ _ h => h) (yi_move _ (.slice (some ⟨lb, lo, none⟩) l.length lc) (by rfl) rfl rfl) hHeld ?_
          simp only [Act.put, List.getElem_toArray, List.getElem_cons_zero, List.getElem_cons_succ, List.setIfInBounds_toArray, List.set_cons_zero, List.set_cons_succ]
          refine wpAnyH_take (i := 1) (v := .int .i64 (k : Int)) rfl (by kernel_rfl) (by kernel_rfl) (by kernel_rfl) (fun _ _ _ h => h) (yi_move _ (.int .i64 (k : Int)) (by rfl) rfl rfl) hHeld ?_
          simp only [Act.put, List.getElem_toArray, List.getElem_cons_zero, List.getElem_cons_succ, List.setIfInBounds_toArray, List.set_cons_zero, List.set_cons_succ]
          refine wpAnyH_take (i := 2) (v := .pointer (some ⟨lb, lo + k, none⟩)) rfl (by kernel_rfl) (by kernel_rfl) (by kernel_rfl) (fun _ _ _ h => h) (yi_val (.pointer (some ⟨lb, lo + k, none⟩)) (by rfl) (fun w _ => by go_simp)) hHeld ?_
          simp only [Act.put, List.getElem_toArray, List.getElem_cons_zero, List.getElem_cons_succ, List.setIfInBounds_toArray, List.set_cons_zero, List.set_cons_succ]
          refine wpAnyH_take (i := 3) (v := xi) rfl (by kernel_rfl) (by kernel_rfl) (by kernel_rfl) (fun _ _ _ h => h) (yi_val xi (by rfl) (fun w h => by have hc := (Below.cell h (World.block_lt_of_cell? wr _ HLC.out)).trans HLC.out; go_simp)) hHeld ?_
          simp only [Act.put, List.getElem_toArray, List.getElem_cons_zero, List.getElem_cons_succ, List.setIfInBounds_toArray, List.set_cons_zero, List.set_cons_succ]
          refine wpAnyH_take (i := 4) (v := .string ⟨(li).toArray⟩) rfl (by kernel_rfl) (by kernel_rfl) (by kernel_rfl) (fun _ _ _ h => h) (yi_conv _ _ _ (xi) _ (by rfl) rfl rfl (fun w h => run_string_row _ _ 5 Try.underlying22 Try.underlying5 Try.underlying9 ((HXI.out).below h))) hHeld ?_
          simp only [Act.put, List.getElem_toArray, List.getElem_cons_zero, List.getElem_cons_succ, List.setIfInBounds_toArray, List.set_cons_zero, List.set_cons_succ]
          refine wpAnyH_take (i := 5) (v := .slice (some ⟨mb, mo, none⟩) m.length mc) rfl (by kernel_rfl) (by kernel_rfl) (by kernel_rfl) (fun _ _ _ h => h) (yi_move _ (.slice (some ⟨mb, mo, none⟩) m.length mc) (by rfl) rfl rfl) hHeld ?_
          simp only [Act.put, List.getElem_toArray, List.getElem_cons_zero, List.getElem_cons_succ, List.setIfInBounds_toArray, List.set_cons_zero, List.set_cons_succ]
          refine wpAnyH_take (i := 6) (v := .int .i64 (k : Int)) rfl (by kernel_rfl) (by kernel_rfl) (by kernel_rfl) (fun _ _ _ h => h) (yi_move _ (.int .i64 (k : Int)) (by rfl) rfl rfl) hHeld ?_
          simp only [Act.put, List.getElem_toArray, List.getElem_cons_zero, List.getElem_cons_succ, List.setIfInBounds_toArray, List.set_cons_zero, List.set_cons_succ]
          refine wpAnyH_take (i := 7) (v := .pointer (some ⟨mb, mo + k, none⟩)) rfl (by kernel_rfl) (by kernel_rfl) (by kernel_rfl) (fun _ _ _ h => h) (yi_val (.pointer (some ⟨mb, mo + k, none⟩)) (by rfl) (fun w _ => by go_simp)) hHeld ?_
          simp only [Act.put, List.getElem_toArray, List.getElem_cons_zero, List.getElem_cons_succ, List.setIfInBounds_toArray, List.set_cons_zero, List.set_cons_succ]
          refine wpAnyH_take (i := 8) (v := yi) rfl (by kernel_rfl) (by kernel_rfl) (by kernel_rfl) (fun _ _ _ h => h) (yi_val yi (by rfl) (fun w h => by have hc := (Below.cell h (World.block_lt_of_cell? wr _ HMC.out)).trans HMC.out; go_simp)) hHeld ?_
          simp only [Act.put, List.getElem_toArray, List.getElem_cons_zero, List.getElem_cons_succ, List.setIfInBounds_toArray, List.set_cons_zero, List.set_cons_succ]
          refine wpAnyH_take (i := 9) (v := .string ⟨(mi).toArray⟩) rfl (by kernel_rfl) (by kernel_rfl) (by kernel_rfl) (fun _ _ _ h => h) (yi_conv _ _ _ (yi) _ (by rfl) rfl rfl (fun w h => run_string_row _ _ 5 Try.underlying22 Try.underlying5 Try.underlying9 ((HYI.out).below h))) hHeld ?_
          simp only [Act.put, List.getElem_toArray, List.getElem_cons_zero, List.getElem_cons_succ, List.setIfInBounds_toArray, List.set_cons_zero, List.set_cons_succ]
          refine wpAnyH_take (i := 10) (v := .bool false) rfl (by kernel_rfl) (by kernel_rfl) (by kernel_rfl) (fun _ _ _ h => h) (yi_net _ _ _ _ li mi false (decide_eq_true heq) (by rfl) rfl rfl rfl) hHeld ?_
          simp only [Act.put, List.getElem_toArray, List.getElem_cons_zero, List.getElem_cons_succ, List.setIfInBounds_toArray, List.set_cons_zero, List.set_cons_succ]
          refine wpAnyH_done (by kernel_rfl) ?_ _
          have HX := Lib.hid B0
          generalize wr.drew = w2 at *
          have hw1 : (k : Int) + 1 ≤ 9223372036854775807 := by have := HN.out; have := HLT.out; omega
          have hw0 : -9223372036854775808 ≤ (k : Int) + 1 := by omega
          clear heq
          go_wp2_with fail
          go_roundw
          case rel => exact ⟨k + 1, by have := HLT.out; omega, by go_num, take_next HT.out HLI.out (by rw [HMI.out, HEQ.out]), HE.out.trans HX.out⟩
          case measure => simp [intOf]; have := HN.out; have := HLT.out; omega
        · have HEQ : Hid (rr = false) := Lib.hid (by
            rw [HRR.out]
            refine decide_eq_false (fun e => heq ?_)
            have h := HLI.out
            rw [e, HMI.out] at h
            exact (Option.some.inj h).symm)
          have B0 : Ext wr wr.drew := Ext.drew _
          refine wp_region_held_drew (S := fun w' => Ext wr w') (by kernel_rfl) B0 (fun hHeld => ?_)
          refine wpAnyH_take (i := 0) (v := .slice (some ⟨lb, lo, none⟩) l.length lc) rfl (by kernel_rfl) (by kernel_rfl) (by kernel_rfl) (fun _ _ _ h => h) (yi_move _ (.slice (some ⟨lb, lo, none⟩) l.length lc) (by rfl) rfl rfl) hHeld ?_
          simp only [Act.put, List.getElem_toArray, List.getElem_cons_zero, List.getElem_cons_succ, List.setIfInBounds_toArray, List.set_cons_zero, List.set_cons_succ]
          refine wpAnyH_take (i := 1) (v := .int .i64 (k : Int)) rfl (by kernel_rfl) (by kernel_rfl) (by kernel_rfl) (fun _ _ _ h => h) (yi_move _ (.int .i64 (k : Int)) (by rfl) rfl rfl) hHeld ?_
          simp only [Act.put, List.getElem_toArray, List.getElem_cons_zero, List.getElem_cons_succ, List.setIfInBounds_toArray, List.set_cons_zero, List.set_cons_succ]
          refine wpAnyH_take (i := 2) (v := .pointer (some ⟨lb, lo + k, none⟩)) rfl (by kernel_rfl) (by kernel_rfl) (by kernel_rfl) (fun _ _ _ h => h) (yi_val (.pointer (some ⟨lb, lo + k, none⟩)) (by rfl) (fun w _ => by go_simp)) hHeld ?_
          simp only [Act.put, List.getElem_toArray, List.getElem_cons_zero, List.getElem_cons_succ, List.setIfInBounds_toArray, List.set_cons_zero, List.set_cons_succ]
          refine wpAnyH_take (i := 3) (v := xi) rfl (by kernel_rfl) (by kernel_rfl) (by kernel_rfl) (fun _ _ _ h => h) (yi_val xi (by rfl) (fun w h => by have hc := (Below.cell h (World.block_lt_of_cell? wr _ HLC.out)).trans HLC.out; go_simp)) hHeld ?_
          simp only [Act.put, List.getElem_toArray, List.getElem_cons_zero, List.getElem_cons_succ, List.setIfInBounds_toArray, List.set_cons_zero, List.set_cons_succ]
          refine wpAnyH_take (i := 4) (v := .string ⟨(li).toArray⟩) rfl (by kernel_rfl) (by kernel_rfl) (by kernel_rfl) (fun _ _ _ h => h) (yi_conv _ _ _ (xi) _ (by rfl) rfl rfl (fun w h => run_string_row _ _ 5 Try.underlying22 Try.underlying5 Try.underlying9 ((HXI.out).below h))) hHeld ?_
          simp only [Act.put, List.getElem_toArray, List.getElem_cons_zero, List.getElem_cons_succ, List.setIfInBounds_toArray, List.set_cons_zero, List.set_cons_succ]
          refine wpAnyH_take (i := 5) (v := .slice (some ⟨mb, mo, none⟩) m.length mc) rfl (by kernel_rfl) (by kernel_rfl) (by kernel_rfl) (fun _ _ _ h => h) (yi_move _ (.slice (some ⟨mb, mo, none⟩) m.length mc) (by rfl) rfl rfl) hHeld ?_
          simp only [Act.put, List.getElem_toArray, List.getElem_cons_zero, List.getElem_cons_succ, List.setIfInBounds_toArray, List.set_cons_zero, List.set_cons_succ]
          refine wpAnyH_take (i := 6) (v := .int .i64 (k : Int)) rfl (by kernel_rfl) (by kernel_rfl) (by kernel_rfl) (fun _ _ _ h => h) (yi_move _ (.int .i64 (k : Int)) (by rfl) rfl rfl) hHeld ?_
          simp only [Act.put, List.getElem_toArray, List.getElem_cons_zero, List.getElem_cons_succ, List.setIfInBounds_toArray, List.set_cons_zero, List.set_cons_succ]
          refine wpAnyH_take (i := 7) (v := .pointer (some ⟨mb, mo + k, none⟩)) rfl (by kernel_rfl) (by kernel_rfl) (by kernel_rfl) (fun _ _ _ h => h) (yi_val (.pointer (some ⟨mb, mo + k, none⟩)) (by rfl) (fun w _ => by go_simp)) hHeld ?_
          simp only [Act.put, List.getElem_toArray, List.getElem_cons_zero, List.getElem_cons_succ, List.setIfInBounds_toArray, List.set_cons_zero, List.set_cons_succ]
          refine wpAnyH_take (i := 8) (v := yi) rfl (by kernel_rfl) (by kernel_rfl) (by kernel_rfl) (fun _ _ _ h => h) (yi_val yi (by rfl) (fun w h => by have hc := (Below.cell h (World.block_lt_of_cell? wr _ HMC.out)).trans HMC.out; go_simp)) hHeld ?_
          simp only [Act.put, List.getElem_toArray, List.getElem_cons_zero, List.getElem_cons_succ, List.setIfInBounds_toArray, List.set_cons_zero, List.set_cons_succ]
          refine wpAnyH_take (i := 9) (v := .string ⟨(mi).toArray⟩) rfl (by kernel_rfl) (by kernel_rfl) (by kernel_rfl) (fun _ _ _ h => h) (yi_conv _ _ _ (yi) _ (by rfl) rfl rfl (fun w h => run_string_row _ _ 5 Try.underlying22 Try.underlying5 Try.underlying9 ((HYI.out).below h))) hHeld ?_
          simp only [Act.put, List.getElem_toArray, List.getElem_cons_zero, List.getElem_cons_succ, List.setIfInBounds_toArray, List.set_cons_zero, List.set_cons_succ]
          refine wpAnyH_take (i := 10) (v := .bool true) rfl (by kernel_rfl) (by kernel_rfl) (by kernel_rfl) (fun _ _ _ h => h) (yi_net _ _ _ _ li mi true (decide_eq_false heq) (by rfl) rfl rfl rfl) hHeld ?_
          simp only [Act.put, List.getElem_toArray, List.getElem_cons_zero, List.getElem_cons_succ, List.setIfInBounds_toArray, List.set_cons_zero, List.set_cons_succ]
          refine wpAnyH_done (by kernel_rfl) ?_ _
          have HX := Lib.hid B0
          generalize wr.drew = w2 at *
          obtain rfl : rr = false := HEQ.out
          clear heq
          go_wp2_with fail
          go_ret
          exact ⟨rfl, HE.out.trans HX.out⟩
      · have hge : (l.length : Int) ≤ (k : Int) := by omega
        have hd : decide (k < l.length) = false := decide_eq_false hlt
        have HEQ : Hid (rr = true) := Lib.hid (by
          rw [HRR.out]
          refine decide_eq_true ?_
          have h := HT.out
          have := HK.out
          have := HNE.out
          rwa [List.take_of_length_le (by omega), List.take_of_length_le (by omega)] at h)
        obtain rfl : rr = true := HEQ.out
        go_wp2_with fail
        go_ret
        exact ⟨rfl, HE.out⟩
  · have h1 : ((l.length : Int) != (m.length : Int)) = true := by simp; omega
    have HEQ : Hid (rr = false) := Lib.hid (by
      rw [HRR.out]
      exact decide_eq_false (fun e => hne (by rw [e])))
    obtain rfl : rr = false := HEQ.out
    clear hne
    go_wp2_with fail
    go_ret
    exact ⟨rfl, Below.refl _ _⟩

end Go.Proofs.Ytjnnhkodkbhbbaa

/- Further operations of a held region: greater, not the same, the rest, exclusive or of numbers. Nothing here speaks of a program. Each theorem names its own conditions. -/
namespace Go.Proofs.Ytjnnhkodkbhbbaa
open Go.RowKit
set_option linter.unusedVariables false
set_option linter.unusedSimpArgs false

section
variable {P : Program} {ops : Array Oper} {S : World → Prop}
theorem yi_gti {o : Oper} {a : Act} (k : IntKind) (ty rt : TypeId) (x y : Operand) (b c : Int) (r : Bool) (hr : decide (c < b) = r) (hw : Region.wanted o (yielded ops a.tmps) = true) (ho : o.op = .binOp .gtr ty x y rt) (hx : a.eval x = .int k b) (hy : a.eval y = .int k c) : YieldsIf P ops S o (.bool r) a :=
  yi_val _ hw (fun w _ => by
    subst hr
    unfold execOp
    simp only [ho, hx, hy]
    simp [eqGuard, binOp, Op.intCmp, Result.andThen])
theorem yi_neI {o : Oper} {a : Act} (k : IntKind) (ty rt : TypeId) (x y : Operand) (b c : Int) (r : Bool) (hr : decide (b = c) = !r) (hw : Region.wanted o (yielded ops a.tmps) = true) (ho : o.op = .binOp .neq ty x y rt) (hx : a.eval x = .int k b) (hy : a.eval y = .int k c) : YieldsIf P ops S o (.bool r) a :=
  yi_val _ hw (fun w _ => by
    have hr2 : r = !decide (b = c) := by rw [hr, Bool.not_not]
    subst hr2
    unfold execOp
    simp only [ho, hx, hy]
    simp [eqGuard, binOp, Op.intCmp, Result.andThen]
    try rw [Bool.eq_iff_iff]; simp)
end

end Go.Proofs.Ytjnnhkodkbhbbaa

/- ImageCuts walks to true. Laid by wip/gen/gimgl3.py. Each theorem names its own conditions. -/
namespace Go.Proofs.Ytjnnhkodkbhbbaa
open Go.RowKit
set_option linter.unusedVariables false
set_option linter.unusedSimpArgs false

theorem flat_next {l : List (List UInt8)} {k : Nat} {x : List UInt8} (h : l[k]? = some x) : (l.take (k + 1)).flatten = (l.take k).flatten ++ x := by
  rw [List.take_add_one, List.flatten_append, h]
  simp
theorem cutL_mem {b : List UInt8} {k : Nat} {x : List UInt8} (h : (cutL b)[k]? = some x) : x.length = 64 := by
  unfold cutL at h
  split at h
  · unfold cutF at h
    rw [List.getElem?_map] at h
    cases hk : (List.range (cutN b))[k]? with
    | none => rw [hk] at h; cases h
    | some j =>
      rw [hk] at h
      injection h with h
      rw [← h]
      exact cutAt_length _ _
  · simp at h
theorem cutL_le (b : List UInt8) : (cutL b).length ≤ 32 := by
  unfold cutL
  split
  · rename_i h
    rw [cutF_length]
    exact cutN_le h
  · simp
theorem flat_le (b : List UInt8) : ∀ k, ((cutL b).take k).flatten.length ≤ 64 * k
  | 0 => by simp
  | k + 1 => by
    cases h : (cutL b)[k]? with
    | none =>
      have h1 := flat_le b k
      rw [List.take_add_one, h, Option.toList_none, List.append_nil]
      omega
    | some x =>
      rw [flat_next h, List.length_append, cutL_mem h]
      have h1 := flat_le b k
      omega
set_option maxRecDepth 100000 in
set_option maxHeartbeats 8000000 in
theorem imgCuts_any (SI : ImgSaid) (b : List UInt8) (bv : Value) (w : World) (hb : Row1 w bv (b.map bval)) :
    Calls Try.prog 3 #[bv] w fun e w' => e = .returned (.bool true) ∧ Below w.heap.size w w' := by
  obtain ⟨i0, hi, hz0, hz1, hz2⟩ := info_parts Try.info5
  have HI0 := Lib.hid hi
  have HZ0 := Lib.hid hz0
  have HZ1 := Lib.hid hz1
  have HZ2 := Lib.hid hz2
  clear hi hz0 hz1 hz2
  obtain ⟨ab, cb, hbv, -⟩ := id hb
  rw [List.length_map] at hbv
  subst hbv
  have HSI := Lib.hid SI
  have HB := Lib.hid hb
  have HAL := Lib.hid (alive_any18 SI w)
  clear hb SI
  go_enter Try.func3, Try.ntmps3
  go_wp2_with fail
  refine HAL.out.mono ?_
  rintro e w1 ⟨rfl, hb⟩
  have HE : Hid (Ext w w1) := Lib.hid hb
  clear hb HAL
  by_cases h1 : 5000 < b.length
  · have h2 : decide ((5000 : Int) < (b.length : Int)) = true := decide_eq_true (by omega)
    go_wp2_with fail
    go_ret
    exact ⟨rfl, HE.out⟩
  have h2 : decide ((5000 : Int) < (b.length : Int)) = false := decide_eq_false (by omega)
  have HBL : Hid (b.length ≤ 5000) := Lib.hid (by omega)
  have HC1 := Lib.hid (HSI.out.cut b _ w1 (HB.out.below HE.out) HBL.out)
  obtain ⟨L, hL⟩ : ∃ L, L = cutL b := ⟨_, rfl⟩
  obtain ⟨E, hE⟩ : ∃ E, E = cutE b := ⟨_, rfl⟩
  have HL32 : Hid (L.length ≤ 32) := Lib.hid (by rw [hL]; exact cutL_le b)
  have HLM : Hid (∀ (k : Nat) (x : List UInt8), L[k]? = some x → x.length = 64) := Lib.hid (fun k x h => by rw [hL] at h; exact cutL_mem h)
  have HFL : Hid (∀ k, (L.take k).flatten.length ≤ 64 * k) := Lib.hid (fun k => by rw [hL]; exact flat_le b k)
  have HC2 := Lib.hid (fun (w' : World) (h : Row1 w' (.slice ab b.length cb) (b.map bval)) => rCut_any b _ w' h)
  rw [← hL, ← hE] at HC1 HC2
  have HLB := Lib.hid hL
  have HEB := Lib.hid hE
  go_upto_region 4 with (fail)
  clear h1 h2 hL hE
  go_wp2_with fail
  refine HC1.out.mono ?_
  rintro e w2 ⟨x0, rfl, hr0, hb⟩
  have HR0 := Lib.hid hr0
  have HE := Lib.hid (HE.out.trans hb)
  clear hr0 hb HC1
  go_wp2_with fail
  refine (HC2.out w2 (HB.out.below HE.out)).mono ?_
  rintro e w3 ⟨x1, rfl, hr1, hb⟩
  have HS := Lib.hid (same18_any L L x0 x1 w3 (HR0.out.below hb) hr1 (by have := HL32.out; omega))
  rw [decide_eq_true (rfl : L = L)] at HS
  have HR0 := Lib.hid (HR0.out.below hb)
  have HE := Lib.hid (HE.out.trans hb)
  clear hr1 hb HC2
  go_wp2_with fail
  refine (num18 E w3).mono ?_
  rintro e w' ⟨rfl, rfl⟩
  go_wp2_with fail
  refine HS.out.mono ?_
  rintro e w4 ⟨rfl, hb⟩
  have HR0 := Lib.hid (HR0.out.below hb)
  have HE := Lib.hid (HE.out.trans hb)
  clear hb HS
  obtain ⟨vals, hr, hll, hxs⟩ := HR0.out
  obtain ⟨la, lc, hlv, -, -, -, hlc⟩ := id hr
  rw [hll] at hlv hlc
  subst hlv
  have HLL := Lib.hid hll
  have HXS := Lib.hid hxs
  have HLC0 := Lib.hid hlc
  clear hr hll hxs hlc HR0
  go_wp2_with fail
  go_loopw [8, 9] (fun v i wr => ∃ k : Nat, k ≤ L.length ∧ i = .int .i64 (k : Int) ∧ wr.ownsRow w4.heap.size 5 1 v (L.take k).flatten.length ((L.take k).flatten.map bval) ∧ Ext w4 wr) (fun _ i _ => 33 - (intOf i).toNat)
  case atStart => exact ⟨0, Nat.zero_le _, rfl, World.ownsRow_nil _ _ _ _, Ext.refl _⟩
  case round =>
    obtain ⟨k, hk, rfl, ho, hE⟩ := hrel
    have HO := Lib.hid ho
    have HE1 := Lib.hid hE
    have HK := Lib.hid hk
    clear ho hE hk
    by_cases hlt : k < L.length
    · have HLT := Lib.hid hlt
      have hlt2 : (k : Int) < (L.length : Int) := by omega
      have k0 : (0 : Int) ≤ (k : Int) := Int.natCast_nonneg _
      obtain ⟨lb, lo, rfl, -, hc1⟩ := HLC0.out (by intro e; have h := HLL.out; rw [e] at h; simp at h; omega)
      obtain ⟨xi, hxi⟩ : ∃ x, vals[k]? = some x := ⟨_, List.getElem?_eq_getElem (by rw [HLL.out]; exact hlt)⟩
      obtain ⟨li, hli⟩ : ∃ x, L[k]? = some x := ⟨_, List.getElem?_eq_getElem hlt⟩
      have HXI := Lib.hid ((HXS.out k xi li hxi hli).below HE1.out)
      have HL64 := Lib.hid (HLM.out k li hli)
      have hcell : wr.cell? ⟨lb, lo + k, none⟩ = some xi := by
        have h := (hc1 k hlt).trans hxi
        exact (Below.cell HE1.out (World.block_lt_of_cell? w4 _ h)).trans h
      have HLI := Lib.hid hli
      have HN := Lib.hid (HFL.out k)
      obtain ⟨q, hq⟩ : ∃ q, q = (L.take k).flatten.length := ⟨_, rfl⟩
      rw [← hq] at HN HO
      have HQ := Lib.hid hq
      clear hc1 hxi hli hq
      go_upto_region 11 with (at_builtin; refine wpList_append_row rfl _ _ 22 rfl w4.heap.size 5 i0 (.int .u8 0) 1 Try.underlying22 HI0.out HZ0.out HZ1.out HZ2.out rfl _ q _ rfl HO.out rfl HXI.out (bval_one _) (by have := HL64.out; have := HN.out; have := HL32.out; have := HLT.out; rw [List.length_map]; unfold maxLen; omega) (by have := HL64.out; have := HN.out; have := HL32.out; have := HLT.out; rw [List.length_map]; omega) HE1.out.size ?_; intro v3 w5 ho3 hg3)
      have HO3 := Lib.hid ho3
      have HE3 := Lib.hid (ext_own HE1.out HO.out (Nat.le_refl _) hg3)
      clear ho3 hg3 hcell
      have hw1 : (k : Int) + 1 ≤ 9223372036854775807 := by have := HL32.out; have := HLT.out; omega
      have hw0 : -9223372036854775808 ≤ (k : Int) + 1 := by omega
      go_wp2_with fail
      go_roundw
      case rel => exact ⟨k + 1, by have := HLT.out; omega, by go_num, by have e := flat_next HLI.out; rw [e, List.length_append, ← HQ.out]; exact own_eq HO3.out (by rw [List.length_map]) (by rw [List.map_append]), HE3.out⟩
      case measure => simp [intOf]; have := HL32.out; have := HLT.out; omega
    · have hge : (L.length : Int) ≤ (k : Int) := by omega
      have hd : decide (k < L.length) = false := decide_eq_false hlt
      have HO2 := HO.out
      rw [List.take_of_length_le (by omega)] at HO2
      have HR := Lib.hid (Row1.of_own HO2)
      have HE := Lib.hid (HE.out.trans HE1.out)
      obtain ⟨aa, ca, hv, -⟩ := id HR.out
      rw [List.length_map] at hv
      subst hv
      obtain ⟨fl, hfl⟩ : ∃ fl, fl = L.flatten := ⟨_, rfl⟩
      obtain ⟨N, hN⟩ : ∃ N, N = L.flatten.length := ⟨_, rfl⟩
      rw [← hN, ← hfl] at HR
      have HV := HR
      have HNF : Hid (N = fl.length) := Lib.hid (by rw [hN, hfl])
      rw [← hN]
      have HFF := Lib.hid hfl
      have HB4 := Lib.hid (HB.out.below HE.out)
      clear HO2 HO hfl hN
      by_cases hle : b.length ≤ 2048
      · obtain rfl : E = 0 := HEB.out.trans (if_pos hle)
        have hLf : L = cutF b := HLB.out.trans (if_pos hle)
        have hcf := cut_flat b
        rw [← hLf, ← HFF.out, ← HNF.out] at hcf
        obtain ⟨va, hva, hcu⟩ := row_upto (P := Try.prog) Try.underlying22 Try.sizeOf5 HV.out b.length (by rw [List.length_map, ← HNF.out]; exact hcf.1)
        rw [← List.map_take, hcf.2] at hva
        have HVA := Lib.hid hva
        have HCU := Lib.hid hcu
        have hge2 : (b.length : Int) ≤ (N : Int) := by have := hcf.1; omega
        have hge3 : b.length ≤ N := hcf.1
        clear hLf hcf hva hcu hle
        go_upto_region 13 with (fail)
        have B0 : Ext wr wr.drew := Ext.drew _
        refine wp_region_held_drew (S := fun w' => Ext wr w') (by kernel_rfl) B0 (fun hHeld => ?_)
        refine wpAnyH_take (i := 0) (v := .int .i64 0) rfl (by kernel_rfl) (by kernel_rfl) (by kernel_rfl) (fun _ _ _ h => h) (yi_move _ (.int .i64 0) (by rfl) rfl rfl) hHeld ?_
        simp only [Act.put, List.getElem_toArray, List.getElem_cons_zero, List.getElem_cons_succ, List.setIfInBounds_toArray, List.set_cons_zero, List.set_cons_succ]
        refine wpAnyH_take (i := 1) (v := .bool false) rfl (by kernel_rfl) (by kernel_rfl) (by kernel_rfl) (fun _ _ _ h => h) (yi_neI .i64 _ _ _ _ 0 (0) false (rfl) (by rfl) rfl rfl rfl) hHeld ?_
        simp only [Act.put, List.getElem_toArray, List.getElem_cons_zero, List.getElem_cons_succ, List.setIfInBounds_toArray, List.set_cons_zero, List.set_cons_succ]
        refine wpAnyH_take (i := 2) (v := .bool false) rfl (by kernel_rfl) (by kernel_rfl) (by kernel_rfl) (fun _ _ _ h => h) (yi_move _ (.bool false) (by rfl) rfl rfl) hHeld ?_
        simp only [Act.put, List.getElem_toArray, List.getElem_cons_zero, List.getElem_cons_succ, List.setIfInBounds_toArray, List.set_cons_zero, List.set_cons_succ]
        refine wpAnyH_take (i := 3) (v := .slice aa N ca) rfl (by kernel_rfl) (by kernel_rfl) (by kernel_rfl) (fun _ _ _ h => h) (yi_move _ (.slice aa N ca) (by rfl) rfl rfl) hHeld ?_
        simp only [Act.put, List.getElem_toArray, List.getElem_cons_zero, List.getElem_cons_succ, List.setIfInBounds_toArray, List.set_cons_zero, List.set_cons_succ]
        refine wpAnyH_take (i := 4) (v := .int .i64 ((N : Nat) : Int)) rfl (by kernel_rfl) (by kernel_rfl) (by kernel_rfl) (fun _ _ _ h => h) (yi_len _ _ _ _ _ _ Try.underlying22 (by rfl) rfl rfl) hHeld ?_
        simp only [Act.put, List.getElem_toArray, List.getElem_cons_zero, List.getElem_cons_succ, List.setIfInBounds_toArray, List.set_cons_zero, List.set_cons_succ]
        refine wpAnyH_take (i := 5) (v := .slice ab b.length cb) rfl (by kernel_rfl) (by kernel_rfl) (by kernel_rfl) (fun _ _ _ h => h) (yi_move _ (.slice ab b.length cb) (by rfl) rfl rfl) hHeld ?_
        simp only [Act.put, List.getElem_toArray, List.getElem_cons_zero, List.getElem_cons_succ, List.setIfInBounds_toArray, List.set_cons_zero, List.set_cons_succ]
        refine wpAnyH_take (i := 6) (v := .int .i64 ((b.length : Nat) : Int)) rfl (by kernel_rfl) (by kernel_rfl) (by kernel_rfl) (fun _ _ _ h => h) (yi_len _ _ _ _ _ _ Try.underlying22 (by rfl) rfl rfl) hHeld ?_
        simp only [Act.put, List.getElem_toArray, List.getElem_cons_zero, List.getElem_cons_succ, List.setIfInBounds_toArray, List.set_cons_zero, List.set_cons_succ]
        refine wpAnyH_take (i := 7) (v := .bool true) rfl (by kernel_rfl) (by kernel_rfl) (by kernel_rfl) (fun _ _ _ h => h) (yi_val (.bool true) (by rfl) (fun w _ => by go_simp)) hHeld ?_
        simp only [Act.put, List.getElem_toArray, List.getElem_cons_zero, List.getElem_cons_succ, List.setIfInBounds_toArray, List.set_cons_zero, List.set_cons_succ]
        refine wpAnyH_take (i := 8) (v := .bool true) rfl (by kernel_rfl) (by kernel_rfl) (by kernel_rfl) (fun _ _ _ h => h) (yi_move _ (.bool true) (by rfl) rfl rfl) hHeld ?_
        simp only [Act.put, List.getElem_toArray, List.getElem_cons_zero, List.getElem_cons_succ, List.setIfInBounds_toArray, List.set_cons_zero, List.set_cons_succ]
        refine wpAnyH_take (i := 9) (v := .slice aa N ca) rfl (by kernel_rfl) (by kernel_rfl) (by kernel_rfl) (fun _ _ _ h => h) (yi_move _ (.slice aa N ca) (by rfl) rfl rfl) hHeld ?_
        simp only [Act.put, List.getElem_toArray, List.getElem_cons_zero, List.getElem_cons_succ, List.setIfInBounds_toArray, List.set_cons_zero, List.set_cons_succ]
        refine wpAnyH_take (i := 10) (v := .slice ab b.length cb) rfl (by kernel_rfl) (by kernel_rfl) (by kernel_rfl) (fun _ _ _ h => h) (yi_move _ (.slice ab b.length cb) (by rfl) rfl rfl) hHeld ?_
        simp only [Act.put, List.getElem_toArray, List.getElem_cons_zero, List.getElem_cons_succ, List.setIfInBounds_toArray, List.set_cons_zero, List.set_cons_succ]
        refine wpAnyH_take (i := 11) (v := .int .i64 ((b.length : Nat) : Int)) rfl (by kernel_rfl) (by kernel_rfl) (by kernel_rfl) (fun _ _ _ h => h) (yi_len _ _ _ _ _ _ Try.underlying22 (by rfl) rfl rfl) hHeld ?_
        simp only [Act.put, List.getElem_toArray, List.getElem_cons_zero, List.getElem_cons_succ, List.setIfInBounds_toArray, List.set_cons_zero, List.set_cons_succ]
        refine wpAnyH_take (i := 12) (v := va) rfl (by kernel_rfl) (by kernel_rfl) (by kernel_rfl) (fun _ _ _ h => h) (yi_slice _ _ _ _ (.slice aa N ca) va none (some (.int .i64 ((b.length : Nat) : Int))) (by rfl) rfl rfl rfl rfl HCU.out) hHeld ?_
        simp only [Act.put, List.getElem_toArray, List.getElem_cons_zero, List.getElem_cons_succ, List.setIfInBounds_toArray, List.set_cons_zero, List.set_cons_succ]
        refine wpAnyH_take (i := 13) (v := .string ⟨(b).toArray⟩) rfl (by kernel_rfl) (by kernel_rfl) (by kernel_rfl) (fun _ _ _ h => h) (yi_conv _ _ _ (va) _ (by rfl) rfl rfl (fun w h => run_string_row _ _ 5 Try.underlying22 Try.underlying5 Try.underlying9 ((HVA.out).below h))) hHeld ?_
        simp only [Act.put, List.getElem_toArray, List.getElem_cons_zero, List.getElem_cons_succ, List.setIfInBounds_toArray, List.set_cons_zero, List.set_cons_succ]
        refine wpAnyH_take (i := 14) (v := .slice ab b.length cb) rfl (by kernel_rfl) (by kernel_rfl) (by kernel_rfl) (fun _ _ _ h => h) (yi_move _ (.slice ab b.length cb) (by rfl) rfl rfl) hHeld ?_
        simp only [Act.put, List.getElem_toArray, List.getElem_cons_zero, List.getElem_cons_succ, List.setIfInBounds_toArray, List.set_cons_zero, List.set_cons_succ]
        refine wpAnyH_take (i := 15) (v := .string ⟨(b).toArray⟩) rfl (by kernel_rfl) (by kernel_rfl) (by kernel_rfl) (fun _ _ _ h => h) (yi_conv _ _ _ (.slice ab b.length cb) _ (by rfl) rfl rfl (fun w h => run_string_row _ _ 5 Try.underlying22 Try.underlying5 Try.underlying9 ((HB4.out).below h))) hHeld ?_
        simp only [Act.put, List.getElem_toArray, List.getElem_cons_zero, List.getElem_cons_succ, List.setIfInBounds_toArray, List.set_cons_zero, List.set_cons_succ]
        refine wpAnyH_take (i := 16) (v := .bool true) rfl (by kernel_rfl) (by kernel_rfl) (by kernel_rfl) (fun _ _ _ h => h) (yi_eqt _ _ _ _ (b) (b) true (decide_eq_true (rfl)) (by rfl) rfl rfl rfl) hHeld ?_
        simp only [Act.put, List.getElem_toArray, List.getElem_cons_zero, List.getElem_cons_succ, List.setIfInBounds_toArray, List.set_cons_zero, List.set_cons_succ]
        refine wpAnyH_take (i := 17) (v := .bool true) rfl (by kernel_rfl) (by kernel_rfl) (by kernel_rfl) (fun _ _ _ h => h) (yi_pick _ _ _ true _ (by rfl) rfl rfl rfl) hHeld ?_
        simp only [Act.put, List.getElem_toArray, List.getElem_cons_zero, List.getElem_cons_succ, List.setIfInBounds_toArray, List.set_cons_zero, List.set_cons_succ]
        refine wpAnyH_take (i := 18) (v := .bool true) rfl (by kernel_rfl) (by kernel_rfl) (by kernel_rfl) (fun _ _ _ h => h) (yi_pick _ _ _ false _ (by rfl) rfl rfl rfl) hHeld ?_
        simp only [Act.put, List.getElem_toArray, List.getElem_cons_zero, List.getElem_cons_succ, List.setIfInBounds_toArray, List.set_cons_zero, List.set_cons_succ]
        refine wpAnyH_ready (rs := [19]) (by kernel_rfl) (by simp) (AllReadyH.cons rfl (fun K hK => ?_) AllReadyH.nil)
        go_simp
        refine hK.out _ _ B0 (fun hHeld => ?_)
        clear hK K
        try simp only [Act.put, List.getElem_toArray, List.getElem_cons_zero, List.getElem_cons_succ, List.setIfInBounds_toArray, List.set_cons_zero, List.set_cons_succ]
        refine wpAnyH_done (by kernel_rfl) ?_ _
        go_wp2_with fail
        go_ret
        exact ⟨rfl, HE.out.trans B0⟩
      · obtain rfl : E = 3 := HEB.out.trans (if_neg hle)
        clear hle
        go_upto_region 13 with (fail)
        have B0 : Ext wr wr.drew := Ext.drew _
        refine wp_region_held_drew (S := fun w' => Ext wr w') (by kernel_rfl) B0 (fun hHeld => ?_)
        refine wpAnyH_take (i := 0) (v := .int .i64 3) rfl (by kernel_rfl) (by kernel_rfl) (by kernel_rfl) (fun _ _ _ h => h) (yi_move _ (.int .i64 3) (by rfl) rfl rfl) hHeld ?_
        simp only [Act.put, List.getElem_toArray, List.getElem_cons_zero, List.getElem_cons_succ, List.setIfInBounds_toArray, List.set_cons_zero, List.set_cons_succ]
        refine wpAnyH_take (i := 1) (v := .bool true) rfl (by kernel_rfl) (by kernel_rfl) (by kernel_rfl) (fun _ _ _ h => h) (yi_neI .i64 _ _ _ _ 3 (0) true (rfl) (by rfl) rfl rfl rfl) hHeld ?_
        simp only [Act.put, List.getElem_toArray, List.getElem_cons_zero, List.getElem_cons_succ, List.setIfInBounds_toArray, List.set_cons_zero, List.set_cons_succ]
        refine wpAnyH_take (i := 2) (v := .bool true) rfl (by kernel_rfl) (by kernel_rfl) (by kernel_rfl) (fun _ _ _ h => h) (yi_move _ (.bool true) (by rfl) rfl rfl) hHeld ?_
        simp only [Act.put, List.getElem_toArray, List.getElem_cons_zero, List.getElem_cons_succ, List.setIfInBounds_toArray, List.set_cons_zero, List.set_cons_succ]
        refine wpAnyH_take (i := 3) (v := undef) rfl (by kernel_rfl) (by kernel_rfl) (by kernel_rfl) (fun _ _ _ h => h) (yi_skip (by rfl)) hHeld ?_
        simp only [Act.put, List.getElem_toArray, List.getElem_cons_zero, List.getElem_cons_succ, List.setIfInBounds_toArray, List.set_cons_zero, List.set_cons_succ]
        refine wpAnyH_take (i := 4) (v := undef) rfl (by kernel_rfl) (by kernel_rfl) (by kernel_rfl) (fun _ _ _ h => h) (yi_skip (by rfl)) hHeld ?_
        simp only [Act.put, List.getElem_toArray, List.getElem_cons_zero, List.getElem_cons_succ, List.setIfInBounds_toArray, List.set_cons_zero, List.set_cons_succ]
        refine wpAnyH_take (i := 5) (v := undef) rfl (by kernel_rfl) (by kernel_rfl) (by kernel_rfl) (fun _ _ _ h => h) (yi_skip (by rfl)) hHeld ?_
        simp only [Act.put, List.getElem_toArray, List.getElem_cons_zero, List.getElem_cons_succ, List.setIfInBounds_toArray, List.set_cons_zero, List.set_cons_succ]
        refine wpAnyH_take (i := 6) (v := undef) rfl (by kernel_rfl) (by kernel_rfl) (by kernel_rfl) (fun _ _ _ h => h) (yi_skip (by rfl)) hHeld ?_
        simp only [Act.put, List.getElem_toArray, List.getElem_cons_zero, List.getElem_cons_succ, List.setIfInBounds_toArray, List.set_cons_zero, List.set_cons_succ]
        refine wpAnyH_take (i := 7) (v := undef) rfl (by kernel_rfl) (by kernel_rfl) (by kernel_rfl) (fun _ _ _ h => h) (yi_skip (by rfl)) hHeld ?_
        simp only [Act.put, List.getElem_toArray, List.getElem_cons_zero, List.getElem_cons_succ, List.setIfInBounds_toArray, List.set_cons_zero, List.set_cons_succ]
        refine wpAnyH_take (i := 8) (v := undef) rfl (by kernel_rfl) (by kernel_rfl) (by kernel_rfl) (fun _ _ _ h => h) (yi_skip (by rfl)) hHeld ?_
        simp only [Act.put, List.getElem_toArray, List.getElem_cons_zero, List.getElem_cons_succ, List.setIfInBounds_toArray, List.set_cons_zero, List.set_cons_succ]
        refine wpAnyH_take (i := 9) (v := undef) rfl (by kernel_rfl) (by kernel_rfl) (by kernel_rfl) (fun _ _ _ h => h) (yi_skip (by rfl)) hHeld ?_
        simp only [Act.put, List.getElem_toArray, List.getElem_cons_zero, List.getElem_cons_succ, List.setIfInBounds_toArray, List.set_cons_zero, List.set_cons_succ]
        refine wpAnyH_take (i := 10) (v := undef) rfl (by kernel_rfl) (by kernel_rfl) (by kernel_rfl) (fun _ _ _ h => h) (yi_skip (by rfl)) hHeld ?_
        simp only [Act.put, List.getElem_toArray, List.getElem_cons_zero, List.getElem_cons_succ, List.setIfInBounds_toArray, List.set_cons_zero, List.set_cons_succ]
        refine wpAnyH_take (i := 11) (v := undef) rfl (by kernel_rfl) (by kernel_rfl) (by kernel_rfl) (fun _ _ _ h => h) (yi_skip (by rfl)) hHeld ?_
        simp only [Act.put, List.getElem_toArray, List.getElem_cons_zero, List.getElem_cons_succ, List.setIfInBounds_toArray, List.set_cons_zero, List.set_cons_succ]
        refine wpAnyH_take (i := 12) (v := undef) rfl (by kernel_rfl) (by kernel_rfl) (by kernel_rfl) (fun _ _ _ h => h) (yi_skip (by rfl)) hHeld ?_
        simp only [Act.put, List.getElem_toArray, List.getElem_cons_zero, List.getElem_cons_succ, List.setIfInBounds_toArray, List.set_cons_zero, List.set_cons_succ]
        refine wpAnyH_take (i := 13) (v := undef) rfl (by kernel_rfl) (by kernel_rfl) (by kernel_rfl) (fun _ _ _ h => h) (yi_skip (by rfl)) hHeld ?_
        simp only [Act.put, List.getElem_toArray, List.getElem_cons_zero, List.getElem_cons_succ, List.setIfInBounds_toArray, List.set_cons_zero, List.set_cons_succ]
        refine wpAnyH_take (i := 14) (v := undef) rfl (by kernel_rfl) (by kernel_rfl) (by kernel_rfl) (fun _ _ _ h => h) (yi_skip (by rfl)) hHeld ?_
        simp only [Act.put, List.getElem_toArray, List.getElem_cons_zero, List.getElem_cons_succ, List.setIfInBounds_toArray, List.set_cons_zero, List.set_cons_succ]
        refine wpAnyH_take (i := 15) (v := undef) rfl (by kernel_rfl) (by kernel_rfl) (by kernel_rfl) (fun _ _ _ h => h) (yi_skip (by rfl)) hHeld ?_
        simp only [Act.put, List.getElem_toArray, List.getElem_cons_zero, List.getElem_cons_succ, List.setIfInBounds_toArray, List.set_cons_zero, List.set_cons_succ]
        refine wpAnyH_take (i := 16) (v := undef) rfl (by kernel_rfl) (by kernel_rfl) (by kernel_rfl) (fun _ _ _ h => h) (yi_skip (by rfl)) hHeld ?_
        simp only [Act.put, List.getElem_toArray, List.getElem_cons_zero, List.getElem_cons_succ, List.setIfInBounds_toArray, List.set_cons_zero, List.set_cons_succ]
        refine wpAnyH_take (i := 17) (v := undef) rfl (by kernel_rfl) (by kernel_rfl) (by kernel_rfl) (fun _ _ _ h => h) (yi_skip (by rfl)) hHeld ?_
        simp only [Act.put, List.getElem_toArray, List.getElem_cons_zero, List.getElem_cons_succ, List.setIfInBounds_toArray, List.set_cons_zero, List.set_cons_succ]
        refine wpAnyH_take (i := 18) (v := .bool true) rfl (by kernel_rfl) (by kernel_rfl) (by kernel_rfl) (fun _ _ _ h => h) (yi_pick _ _ _ true _ (by rfl) rfl rfl rfl) hHeld ?_
        simp only [Act.put, List.getElem_toArray, List.getElem_cons_zero, List.getElem_cons_succ, List.setIfInBounds_toArray, List.set_cons_zero, List.set_cons_succ]
        refine wpAnyH_ready (rs := [19]) (by kernel_rfl) (by simp) (AllReadyH.cons rfl (fun K hK => ?_) AllReadyH.nil)
        go_simp
        refine hK.out _ _ B0 (fun hHeld => ?_)
        clear hK K
        try simp only [Act.put, List.getElem_toArray, List.getElem_cons_zero, List.getElem_cons_succ, List.setIfInBounds_toArray, List.set_cons_zero, List.set_cons_succ]
        refine wpAnyH_done (by kernel_rfl) ?_ _
        go_wp2_with fail
        go_ret
        exact ⟨rfl, HE.out.trans B0⟩
end Go.Proofs.Ytjnnhkodkbhbbaa

/- ImageMakes walks to true. Laid by wip/gen/gimgl4.py. Each theorem names its own conditions. -/
namespace Go.Proofs.Ytjnnhkodkbhbbaa
open Go.RowKit
set_option linter.unusedVariables false
set_option linter.unusedSimpArgs false

theorem num18b (n : Int) (w : World) : Calls Try.prog 11 #[.int .i64 n] w fun e w' => e = .returned (.int .i64 n) ∧ Below w.heap.size w w' :=
  (num18 n w).mono fun e w' h => ⟨h.1, by rw [h.2]; exact Below.refl _ _⟩
theorem makL_le (key : List UInt8) (ver : Int) (b : List UInt8) : (makL key ver b).length ≤ 32 := by
  unfold makL
  split
  · rename_i h
    split
    · rw [makF_length]
      exact cutN_le h
    · simp
  · simp
theorem makL_get {key : List UInt8} {ver : Int} {b : List UInt8} {k : Nat} {x : List UInt8} (h : (makL key ver b)[k]? = some x) : smallB ver = true ∧ k ≤ 31 ∧ x = blkS key ver k (cutAt b k) ∧ (cutL b)[k]? = some (cutAt b k) := by
  have hk := (List.getElem?_eq_some_iff.1 h).1
  have hl := makL_le key ver b
  unfold makL at h
  split at h
  · rename_i h1
    split at h
    · rename_i h2
      unfold makF at h
      rw [List.getElem?_map] at h
      cases hr : (List.range (cutN b))[k]? with
      | none => rw [hr] at h; cases h
      | some j =>
        have hj : k < cutN b ∧ j = k := by
          obtain ⟨q1, q2⟩ := List.getElem?_eq_some_iff.1 hr
          rw [List.getElem_range] at q2
          exact ⟨by simpa using q1, q2.symm⟩
        rw [hr] at h
        injection h with h
        obtain ⟨hj1, rfl⟩ := hj
        refine ⟨h2, by omega, h.symm, ?_⟩
        unfold cutL
        rw [if_pos h1]
        unfold cutF
        rw [List.getElem?_map, hr]
        rfl
    · simp at h
  · simp at h
set_option maxRecDepth 100000 in
set_option maxHeartbeats 8000000 in
theorem imgMakes_any (SI : ImgSaid) (key : List UInt8) (ver : Int) (b : List UInt8) (bv : Value) (w : World) (hk : key.length = 32) (hb : Row1 w bv (b.map bval)) :
    Calls Try.prog 4 #[.agg (key.map bval).toArray, .int .i64 ver, bv] w fun e w' => e = .returned (.bool true) ∧ Below w.heap.size w w' := by
  obtain ⟨ab, cb, hbv, -⟩ := id hb
  rw [List.length_map] at hbv
  subst hbv
  have HSI := Lib.hid SI
  have HKL := Lib.hid hk
  have HIK := Lib.hid (num_size hk)
  have HB := Lib.hid hb
  clear hk hb SI
  have HB := Lib.hid (And.intro (Blk.made w (key.map bval) 34) (Ext.alloc w (.cells (key.map bval).toArray 34)))
  go_enter Try.func4, Try.ntmps4
  go_upto_region 1 with (fail)
  obtain ⟨h0, hE⟩ := HB.out
  change Code.wp _ _ _ _ (w.alloc (.cells (key.map bval).toArray 34))
  generalize w.alloc (.cells (key.map bval).toArray 34) = wa at *
  obtain ⟨A, hA⟩ : ∃ X, X = w.heap.size := ⟨_, rfl⟩
  rw [← hA] at h0 ⊢
  have HA := Lib.hid h0
  have HE : Hid (Ext w wa) := Lib.hid hE
  have HO : Hid (w.heap.size = A) := Lib.hid (by omega)
  clear HB hE h0 hA
  have HAL := Lib.hid (alive_any18 HSI.out wa)
  go_wp2_with fail
  refine HAL.out.mono ?_
  rintro e w1 ⟨rfl, hb⟩
  have HA := Lib.hid (ext_blk HA.out hb)
  have HE : Hid (Ext w w1) := Lib.hid (HE.out.trans hb)
  clear hb HAL
  by_cases h1 : 2100 < b.length
  · have h2 : decide ((2100 : Int) < (b.length : Int)) = true := decide_eq_true (by omega)
    go_wp2_with fail
    go_ret
    exact ⟨rfl, HE.out⟩
  have h2 : decide ((2100 : Int) < (b.length : Int)) = false := decide_eq_false (by omega)
  have HC1 := Lib.hid (HSI.out.mak key ver b _ w1 HKL.out (HB.out.below HE.out) (by omega))
  obtain ⟨L, hL⟩ : ∃ L, L = makL key ver b := ⟨_, rfl⟩
  obtain ⟨M, hM⟩ : ∃ M, M = cutL b := ⟨_, rfl⟩
  obtain ⟨E, hE⟩ : ∃ E, E = makE ver b := ⟨_, rfl⟩
  obtain ⟨F, hF⟩ : ∃ F, F = cutE b := ⟨_, rfl⟩
  have HL32 : Hid (L.length ≤ 32) := Lib.hid (by rw [hL]; exact makL_le key ver b)
  have HLG : Hid (∀ (k : Nat) (x : List UInt8), L[k]? = some x → smallB ver = true ∧ k ≤ 31 ∧ x = blkS key ver k (cutAt b k) ∧ M[k]? = some (cutAt b k)) := Lib.hid (fun k x h => by rw [hL] at h; rw [hM]; exact makL_get h)
  have HC2 := Lib.hid (fun (w' : World) (h : Row1 w' (.slice ab b.length cb) (b.map bval)) => rMake_any key ver b _ w' HKL.out h)
  have HC3 := Lib.hid (fun (w' : World) (h : Row1 w' (.slice ab b.length cb) (b.map bval)) => rCut_any b _ w' h)
  rw [← hL, ← hE] at HC1 HC2
  rw [← hM, ← hF] at HC3
  go_upto_region 4 with (fail)
  clear h1 h2 hL hE hM hF
  go_wp2_with (refine wpList_load_blk rfl _ _ rfl A rfl _ _ _ _ HA.out Try.underlying34 HIK.out ?_)
  refine HC1.out.mono ?_
  rintro e w2 ⟨x0, rfl, hr0, hb⟩
  have HR0 := Lib.hid hr0
  have HA := Lib.hid (ext_blk HA.out hb)
  have HE := Lib.hid (HE.out.trans hb)
  clear hr0 hb HC1
  go_wp2_with (refine wpList_load_blk rfl _ _ rfl A rfl _ _ _ _ HA.out Try.underlying34 HIK.out ?_)
  refine (HC2.out w2 (HB.out.below HE.out)).mono ?_
  rintro e w3 ⟨x1, rfl, hr1, hb⟩
  have HS := Lib.hid (same18_any L L x0 x1 w3 (HR0.out.below hb) hr1 (by have := HL32.out; omega))
  rw [decide_eq_true (rfl : L = L)] at HS
  have HR0 := Lib.hid (HR0.out.below hb)
  have HA := Lib.hid (ext_blk HA.out hb)
  have HE := Lib.hid (HE.out.trans hb)
  clear hr1 hb HC2
  go_wp2_with fail
  refine (num18 E w3).mono ?_
  rintro e w' ⟨rfl, rfl⟩
  go_wp2_with fail
  refine HS.out.mono ?_
  rintro e w4 ⟨rfl, hb⟩
  have HR0 := Lib.hid (HR0.out.below hb)
  have HA := Lib.hid (ext_blk HA.out hb)
  have HE := Lib.hid (HE.out.trans hb)
  clear hb HS
  go_wp2_with fail
  refine (HC3.out w4 (HB.out.below HE.out)).mono ?_
  rintro e w5 ⟨x2, rfl, hr2, hb⟩
  have HR0 := Lib.hid (HR0.out.below hb)
  have HA := Lib.hid (ext_blk HA.out hb)
  have HE := Lib.hid (HE.out.trans hb)
  clear hb HC3
  obtain ⟨vals, hr, hll, hxs⟩ := HR0.out
  obtain ⟨la, lc, hlv, -, -, -, hlc⟩ := id hr
  obtain ⟨vam, hs, hml, hys⟩ := hr2
  obtain ⟨ma, mc, hmv, -, -, -, hmc⟩ := id hs
  rw [hll] at hlv hlc
  rw [hml] at hmv hmc
  subst hlv hmv
  have HLL := Lib.hid hll
  have HXS := Lib.hid hxs
  have HLC0 := Lib.hid hlc
  have HML := Lib.hid hml
  have HYS := Lib.hid hys
  have HMC0 := Lib.hid hmc
  clear hr hll hxs hlc hs hml hys hmc HR0
  go_wp2_with fail
  go_loopw [14] (fun i wr => ∃ k : Nat, k ≤ L.length ∧ i = .int .i64 (k : Int) ∧ Ext w5 wr) (fun i _ => 33 - (intOf i).toNat)
  case atStart => exact ⟨0, Nat.zero_le _, rfl, Ext.refl _⟩
  case round =>
    obtain ⟨k, hk, rfl, hE⟩ := hrel
    have HE1 := Lib.hid hE
    have HK := Lib.hid hk
    clear hE hk
    by_cases hlt : k < L.length
    · have HLT := Lib.hid hlt
      have hlt2 : (k : Int) < (L.length : Int) := by omega
      have k0 : (0 : Int) ≤ (k : Int) := Int.natCast_nonneg _
      obtain ⟨li, hli⟩ : ∃ x, L[k]? = some x := ⟨_, List.getElem?_eq_getElem hlt⟩
      obtain ⟨g1, g2, g3, g4⟩ := HLG.out k li hli
      have hlm : k < M.length := (List.getElem?_eq_some_iff.1 g4).1
      have hlt3 : (k : Int) < (M.length : Int) := by omega
      obtain ⟨lb, lo, rfl, -, hc1⟩ := HLC0.out (by intro e; have h := HLL.out; rw [e] at h; simp at h; omega)
      obtain ⟨mb, mo, rfl, -, hc2⟩ := HMC0.out (by intro e; have h := HML.out; rw [e] at h; simp at h; omega)
      obtain ⟨xi, hxi⟩ : ∃ x, vals[k]? = some x := ⟨_, List.getElem?_eq_getElem (by rw [HLL.out]; exact hlt)⟩
      obtain ⟨yi, hyi⟩ : ∃ x, vam[k]? = some x := ⟨_, List.getElem?_eq_getElem (by rw [HML.out]; exact hlm)⟩
      obtain ⟨ci, hci⟩ : ∃ c, c = cutAt b k := ⟨_, rfl⟩
      have HL80 : Hid (li.length = 80) := Lib.hid (by rw [g3]; exact blkS_length (cutAt_length _ _))
      have HOE : Hid (opnE key ver (k : Int) li = 0 ∧ opnL key ver (k : Int) li = ci) := Lib.hid (by rw [g3, hci]; exact opn_seal g1 g2 (cutAt_length _ _))
      rw [← hci] at g4
      have HXI := Lib.hid ((HXS.out k xi li hxi hli).below HE1.out)
      have HYI0 := Lib.hid ((HYS.out k yi ci hyi g4).below HE1.out)
      have HLC : Hid (wr.cell? ⟨lb, lo + k, none⟩ = some xi) := Lib.hid (by
        have h := (hc1 k hlt).trans hxi
        exact (Below.cell HE1.out (World.block_lt_of_cell? w5 _ h)).trans h)
      have HMC0' : Hid (wr.cell? ⟨mb, mo + k, none⟩ = some yi) := Lib.hid (by
        have h := (hc2 k hlm).trans hyi
        exact (Below.cell HE1.out (World.block_lt_of_cell? w5 _ h)).trans h)
      have HA1 := Lib.hid (ext_blk HA.out HE1.out)
      clear hli g1 g2 g3 g4 hc1 hc2 hxi hyi hci
      go_upto_region 12 with (fail)
      have B0 : Ext wr wr.drew := Ext.drew _
      refine wp_region_held_drew (S := fun w' => Ext wr w') (by kernel_rfl) B0 (fun hHeld => ?_)
      refine wpAnyH_take (i := 0) (v := .agg ((key).map bval).toArray) rfl (by kernel_rfl) (by kernel_rfl) (by kernel_rfl) (fun _ _ _ h => h) (yieldsIf_load_mid (by rfl) _ _ rfl A 0 rfl _ _ (fun w h => bl_range HA1.out h) Try.underlying34 rfl HIK.out) hHeld ?_
      simp only [Act.put, List.getElem_toArray, List.getElem_cons_zero, List.getElem_cons_succ, List.setIfInBounds_toArray, List.set_cons_zero, List.set_cons_succ]
      refine wpAnyH_take (i := 1) (v := .int .i64 ver) rfl (by kernel_rfl) (by kernel_rfl) (by kernel_rfl) (fun _ _ _ h => h) (yi_move _ (.int .i64 ver) (by rfl) rfl rfl) hHeld ?_
      simp only [Act.put, List.getElem_toArray, List.getElem_cons_zero, List.getElem_cons_succ, List.setIfInBounds_toArray, List.set_cons_zero, List.set_cons_succ]
      refine wpAnyH_take (i := 2) (v := .int .i64 (k : Int)) rfl (by kernel_rfl) (by kernel_rfl) (by kernel_rfl) (fun _ _ _ h => h) (yi_move _ (.int .i64 (k : Int)) (by rfl) rfl rfl) hHeld ?_
      simp only [Act.put, List.getElem_toArray, List.getElem_cons_zero, List.getElem_cons_succ, List.setIfInBounds_toArray, List.set_cons_zero, List.set_cons_succ]
      refine wpAnyH_take (i := 3) (v := .slice (some ⟨lb, lo, none⟩) L.length lc) rfl (by kernel_rfl) (by kernel_rfl) (by kernel_rfl) (fun _ _ _ h => h) (yi_move _ (.slice (some ⟨lb, lo, none⟩) L.length lc) (by rfl) rfl rfl) hHeld ?_
      simp only [Act.put, List.getElem_toArray, List.getElem_cons_zero, List.getElem_cons_succ, List.setIfInBounds_toArray, List.set_cons_zero, List.set_cons_succ]
      refine wpAnyH_take (i := 4) (v := .int .i64 (k : Int)) rfl (by kernel_rfl) (by kernel_rfl) (by kernel_rfl) (fun _ _ _ h => h) (yi_move _ (.int .i64 (k : Int)) (by rfl) rfl rfl) hHeld ?_
      simp only [Act.put, List.getElem_toArray, List.getElem_cons_zero, List.getElem_cons_succ, List.setIfInBounds_toArray, List.set_cons_zero, List.set_cons_succ]
      refine wpAnyH_take (i := 5) (v := .pointer (some ⟨lb, lo + k, none⟩)) rfl (by kernel_rfl) (by kernel_rfl) (by kernel_rfl) (fun _ _ _ h => h) (yi_val (.pointer (some ⟨lb, lo + k, none⟩)) (by rfl) (fun w _ => by go_simp)) hHeld ?_
      simp only [Act.put, List.getElem_toArray, List.getElem_cons_zero, List.getElem_cons_succ, List.setIfInBounds_toArray, List.set_cons_zero, List.set_cons_succ]
      refine wpAnyH_take (i := 6) (v := xi) rfl (by kernel_rfl) (by kernel_rfl) (by kernel_rfl) (fun _ _ _ h => h) (yi_val xi (by rfl) (fun w h => by have hc := (Below.cell h (World.block_lt_of_cell? wr _ HLC.out)).trans HLC.out; go_simp)) hHeld ?_
      simp only [Act.put, List.getElem_toArray, List.getElem_cons_zero, List.getElem_cons_succ, List.setIfInBounds_toArray, List.set_cons_zero, List.set_cons_succ]
      refine wpAnyH_ready (rs := [7]) (by kernel_rfl) (by simp) (AllReadyH.cons rfl (fun K hK => ?_) AllReadyH.nil)
      have hop := HSI.out.opn key ver (k : Int) li xi wr.drew HKL.out (HXI.out.below B0) (by rw [HL80.out]; decide)
      rw [HOE.out.1, HOE.out.2] at hop
      go_simp
      refine hop.mono ?_
      rintro e m1 ⟨x1, rfl, r1, b1⟩
      clear hop
      have HX1 := Lib.hid r1
      clear r1
      have N1 : Ext wr m1 := B0.trans b1
      refine hK.out _ _ N1 (fun hHeld => ?_)
      clear hK K
      try simp only [Act.put, List.getElem_toArray, List.getElem_cons_zero, List.getElem_cons_succ, List.setIfInBounds_toArray, List.set_cons_zero, List.set_cons_succ]
      refine wpAnyH_take (i := 8) (v := .tuple #[x1, .int .i64 0]) rfl (by kernel_rfl) (by kernel_rfl) (by kernel_rfl) (fun _ _ _ h => h) (yi_move _ (.tuple #[x1, .int .i64 0]) (by rfl) rfl rfl) hHeld ?_
      simp only [Act.put, List.getElem_toArray, List.getElem_cons_zero, List.getElem_cons_succ, List.setIfInBounds_toArray, List.set_cons_zero, List.set_cons_succ]
      refine wpAnyH_take (i := 9) (v := x1) rfl (by kernel_rfl) (by kernel_rfl) (by kernel_rfl) (fun _ _ _ h => h) (yi_val (x1) (by rfl) (fun w _ => by go_simp)) hHeld ?_
      simp only [Act.put, List.getElem_toArray, List.getElem_cons_zero, List.getElem_cons_succ, List.setIfInBounds_toArray, List.set_cons_zero, List.set_cons_succ]
      refine wpAnyH_take (i := 10) (v := .int .i64 0) rfl (by kernel_rfl) (by kernel_rfl) (by kernel_rfl) (fun _ _ _ h => h) (yi_val (.int .i64 0) (by rfl) (fun w _ => by go_simp)) hHeld ?_
      simp only [Act.put, List.getElem_toArray, List.getElem_cons_zero, List.getElem_cons_succ, List.setIfInBounds_toArray, List.set_cons_zero, List.set_cons_succ]
      refine wpAnyH_take (i := 11) (v := x1) rfl (by kernel_rfl) (by kernel_rfl) (by kernel_rfl) (fun _ _ _ h => h) (yi_assign _ (x1) (by rfl) rfl rfl) hHeld ?_
      simp only [Act.put, List.getElem_toArray, List.getElem_cons_zero, List.getElem_cons_succ, List.setIfInBounds_toArray, List.set_cons_zero, List.set_cons_succ]
      refine wpAnyH_ready (rs := [12]) (by kernel_rfl) (by simp) (AllReadyH.cons rfl (fun K hK => ?_) AllReadyH.nil)
      go_simp
      refine hK.out _ _ N1 (fun hHeld => ?_)
      clear hK K
      try simp only [Act.put, List.getElem_toArray, List.getElem_cons_zero, List.getElem_cons_succ, List.setIfInBounds_toArray, List.set_cons_zero, List.set_cons_succ]
      refine wpAnyH_done (by kernel_rfl) ?_ _
      have HX := Lib.hid N1
      generalize m1 = w8 at HX HX1 ⊢
      generalize x1 = xo at HX1 ⊢
      have HYI := Lib.hid (HYI0.out.below HX.out)
      have HMC : Hid (w8.cell? ⟨mb, mo + k, none⟩ = some yi) := Lib.hid ((Below.cell HX.out (World.block_lt_of_cell? wr _ HMC0'.out)).trans HMC0'.out)
      clear HXI HLC HYI0 HMC0' HA1
      go_upto_region 13 with (fail)
      have B0 : Ext w8 w8.drew := Ext.drew _
      refine wp_region_held_drew (S := fun w' => Ext w8 w') (by kernel_rfl) B0 (fun hHeld => ?_)
      refine wpAnyH_take (i := 0) (v := .int .i64 0) rfl (by kernel_rfl) (by kernel_rfl) (by kernel_rfl) (fun _ _ _ h => h) (yi_move _ (.int .i64 0) (by rfl) rfl rfl) hHeld ?_
      simp only [Act.put, List.getElem_toArray, List.getElem_cons_zero, List.getElem_cons_succ, List.setIfInBounds_toArray, List.set_cons_zero, List.set_cons_succ]
      refine wpAnyH_ready (rs := [1]) (by kernel_rfl) (by simp) (AllReadyH.cons rfl (fun K hK => ?_) AllReadyH.nil)
      go_simp
      refine (num18b 0 w8.drew).mono ?_
      rintro e m1 ⟨rfl, b1⟩
      have N1 : Ext w8 m1 := B0.trans b1
      refine hK.out _ _ N1 (fun hHeld => ?_)
      clear hK K
      try simp only [Act.put, List.getElem_toArray, List.getElem_cons_zero, List.getElem_cons_succ, List.setIfInBounds_toArray, List.set_cons_zero, List.set_cons_succ]
      refine wpAnyH_take (i := 2) (v := .bool false) rfl (by kernel_rfl) (by kernel_rfl) (by kernel_rfl) (fun _ _ _ h => h) (yi_neI .i64 _ _ _ _ 0 (0) false (rfl) (by rfl) rfl rfl rfl) hHeld ?_
      simp only [Act.put, List.getElem_toArray, List.getElem_cons_zero, List.getElem_cons_succ, List.setIfInBounds_toArray, List.set_cons_zero, List.set_cons_succ]
      refine wpAnyH_take (i := 3) (v := .bool false) rfl (by kernel_rfl) (by kernel_rfl) (by kernel_rfl) (fun _ _ _ h => h) (yi_move _ (.bool false) (by rfl) rfl rfl) hHeld ?_
      simp only [Act.put, List.getElem_toArray, List.getElem_cons_zero, List.getElem_cons_succ, List.setIfInBounds_toArray, List.set_cons_zero, List.set_cons_succ]
      refine wpAnyH_take (i := 4) (v := xo) rfl (by kernel_rfl) (by kernel_rfl) (by kernel_rfl) (fun _ _ _ h => h) (yi_move _ (xo) (by rfl) rfl rfl) hHeld ?_
      simp only [Act.put, List.getElem_toArray, List.getElem_cons_zero, List.getElem_cons_succ, List.setIfInBounds_toArray, List.set_cons_zero, List.set_cons_succ]
      refine wpAnyH_take (i := 5) (v := .string ⟨(ci).toArray⟩) rfl (by kernel_rfl) (by kernel_rfl) (by kernel_rfl) (fun _ _ _ h => h) (yi_conv _ _ _ (xo) _ (by rfl) rfl rfl (fun w h => run_string_row _ _ 5 Try.underlying22 Try.underlying5 Try.underlying9 ((HX1.out).below h))) hHeld ?_
      simp only [Act.put, List.getElem_toArray, List.getElem_cons_zero, List.getElem_cons_succ, List.setIfInBounds_toArray, List.set_cons_zero, List.set_cons_succ]
      refine wpAnyH_take (i := 6) (v := .slice (some ⟨mb, mo, none⟩) M.length mc) rfl (by kernel_rfl) (by kernel_rfl) (by kernel_rfl) (fun _ _ _ h => h) (yi_move _ (.slice (some ⟨mb, mo, none⟩) M.length mc) (by rfl) rfl rfl) hHeld ?_
      simp only [Act.put, List.getElem_toArray, List.getElem_cons_zero, List.getElem_cons_succ, List.setIfInBounds_toArray, List.set_cons_zero, List.set_cons_succ]
      refine wpAnyH_take (i := 7) (v := .int .i64 (k : Int)) rfl (by kernel_rfl) (by kernel_rfl) (by kernel_rfl) (fun _ _ _ h => h) (yi_move _ (.int .i64 (k : Int)) (by rfl) rfl rfl) hHeld ?_
      simp only [Act.put, List.getElem_toArray, List.getElem_cons_zero, List.getElem_cons_succ, List.setIfInBounds_toArray, List.set_cons_zero, List.set_cons_succ]
      refine wpAnyH_take (i := 8) (v := .pointer (some ⟨mb, mo + k, none⟩)) rfl (by kernel_rfl) (by kernel_rfl) (by kernel_rfl) (fun _ _ _ h => h) (yi_val (.pointer (some ⟨mb, mo + k, none⟩)) (by rfl) (fun w _ => by go_simp)) hHeld ?_
      simp only [Act.put, List.getElem_toArray, List.getElem_cons_zero, List.getElem_cons_succ, List.setIfInBounds_toArray, List.set_cons_zero, List.set_cons_succ]
      refine wpAnyH_take (i := 9) (v := yi) rfl (by kernel_rfl) (by kernel_rfl) (by kernel_rfl) (fun _ _ _ h => h) (yi_val yi (by rfl) (fun w h => by have hc := (Below.cell h (World.block_lt_of_cell? w8 _ HMC.out)).trans HMC.out; go_simp)) hHeld ?_
      simp only [Act.put, List.getElem_toArray, List.getElem_cons_zero, List.getElem_cons_succ, List.setIfInBounds_toArray, List.set_cons_zero, List.set_cons_succ]
      refine wpAnyH_take (i := 10) (v := .string ⟨(ci).toArray⟩) rfl (by kernel_rfl) (by kernel_rfl) (by kernel_rfl) (fun _ _ _ h => h) (yi_conv _ _ _ (yi) _ (by rfl) rfl rfl (fun w h => run_string_row _ _ 5 Try.underlying22 Try.underlying5 Try.underlying9 ((HYI.out).below h))) hHeld ?_
      simp only [Act.put, List.getElem_toArray, List.getElem_cons_zero, List.getElem_cons_succ, List.setIfInBounds_toArray, List.set_cons_zero, List.set_cons_succ]
      refine wpAnyH_take (i := 11) (v := .bool false) rfl (by kernel_rfl) (by kernel_rfl) (by kernel_rfl) (fun _ _ _ h => h) (yi_net _ _ _ _ ci ci false (decide_eq_true rfl) (by rfl) rfl rfl rfl) hHeld ?_
      simp only [Act.put, List.getElem_toArray, List.getElem_cons_zero, List.getElem_cons_succ, List.setIfInBounds_toArray, List.set_cons_zero, List.set_cons_succ]
      refine wpAnyH_take (i := 12) (v := .bool false) rfl (by kernel_rfl) (by kernel_rfl) (by kernel_rfl) (fun _ _ _ h => h) (yi_pick _ _ _ false _ (by rfl) rfl rfl rfl) hHeld ?_
      simp only [Act.put, List.getElem_toArray, List.getElem_cons_zero, List.getElem_cons_succ, List.setIfInBounds_toArray, List.set_cons_zero, List.set_cons_succ]
      refine wpAnyH_done (by kernel_rfl) ?_ _
      have HY := Lib.hid N1
      generalize m1 = w9 at *
      have hw1 : (k : Int) + 1 ≤ 9223372036854775807 := by have := HL32.out; have := HLT.out; omega
      have hw0 : -9223372036854775808 ≤ (k : Int) + 1 := by omega
      go_wp2_with fail
      go_roundw
      case rel => exact ⟨k + 1, by have := HLT.out; omega, by go_num, HE1.out.trans (HX.out.trans HY.out)⟩
      case measure => simp [intOf]; have := HL32.out; have := HLT.out; omega
    · have hge : (L.length : Int) ≤ (k : Int) := by omega
      have hd : decide (k < L.length) = false := decide_eq_false hlt
      go_wp2_with fail
      go_ret
      exact ⟨rfl, HE.out.trans HE1.out⟩

end Go.Proofs.Ytjnnhkodkbhbbaa
