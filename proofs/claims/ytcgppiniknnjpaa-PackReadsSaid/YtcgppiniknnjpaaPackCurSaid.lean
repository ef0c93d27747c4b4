/- Package pack's cursor keeps the contracts. Each theorem names its own conditions. -/
import Derived.Test.YtcgppiniknnjpaaPackCurMore
namespace Go.Proofs.Ytcgppiniknnjpaa
open Go.RowKit
set_option linter.unusedVariables false

theorem PCur.lt {w : World} {B c : Nat} {l : List UInt8} {p : Nat} {bad : Bool} (h : PCur w B c l p bad) : c < B ∧ B ≤ w.heap.size := by
  obtain ⟨v, h1, h2, h3, _⟩ := h
  exact ⟨h2, h3⟩
theorem PCur.grown {w w' : World} {B c : Nat} {l : List UInt8} {p : Nat} {bad : Bool} (h : PCur w B c l p bad) (hg : w.grownBy w' none) : PCur w' B c l p bad :=
  h.keep (fun k hk => hg.block k (Nat.lt_of_lt_of_le hk h.lt.2) (by simp)) hg.size

set_option maxHeartbeats 400000 in
theorem pnew (v : Value) (l : List UInt8) (w : World) (hv : Row1 w v (l.map bval)) (hl : l.length ≤ 1099511627776) :
    Calls Try.prog 13 #[v] w fun e w' => ∃ B c, e = .returned (.pointer (some ⟨c, 0, none⟩)) ∧ PCur w' B c l 0 false ∧ w.heap.size ≤ c ∧ Below w.heap.size w w' := by
  obtain ⟨i0, hi, hz0, hz1, hz2⟩ := info_parts Try.info5
  have HV := Lib.hid hv
  have hbl : Hid ((l.map bval).length = l.length) := Lib.hid (by simp)
  clear hv
  go_enter Try.func13, Try.ntmps13
  go_wp2_with (at_builtin; refine wpList_append_row rfl _ _ 22 rfl w.heap.size 5 i0 (.int .u8 0) 1 Try.underlying22 hi hz0 hz1 hz2 rfl _ 0 [] rfl (World.ownsRow_nil _ _ _ _) rfl HV.out (bval_one _) (by rw [hbl.out]; unfold maxLen; omega) (by rw [hbl.out]; omega) (Nat.le_refl _) ?_; intro v1 w1 hown1 hgrow1; obtain ⟨a1, cap1, rfl, _, _, _, _⟩ := id (Row1.of_own hown1))
  go_ret
  have HG := Lib.hid hgrow1
  rw [List.nil_append, hbl.out] at hown1
  have HO := Lib.hid hown1
  have hb : Below w.heap.size w w1 := (Below.refl _ _).grown HG.out (Nat.le_refl _) (fun r hr => by cases hr)
  refine ⟨w1.heap.size + 1, w1.heap.size, rfl, ⟨_, Blk.made _ _ _, by omega, by simp, Nat.zero_le _, hl, ?_, (fun e => by cases e), (fun _ => ?_)⟩, HG.out.size, hb.alloc HG.out.size _⟩
  · intro k hk
    have := (HO.out.lt k hk).2
    exact ⟨by omega, by omega⟩
  · rw [List.drop_zero]
    exact (Row1.of_own HO.out).alloc _

set_option maxHeartbeats 400000 in
theorem pint_no (w : World) (B c : Nat) (l : List UInt8) (p : Nat) (bad : Bool) (h : PCur w B c l p bad) (hn : bad = true ∨ l.length < p + 8) :
    Calls Try.prog 14 #[.pointer (some ⟨c, 0, none⟩)] w fun e w' => e = .returned (.int .i64 0) ∧ PCur w' B c l p true ∧ w.grownBy w' (some c) := by
  have HR := Lib.hid (pread_no w B c l p bad 8 h (hn.elim Or.inl fun h => Or.inr (Or.inr (by omega))))
  clear h hn
  go_enter Try.func14, Try.ntmps14
  go_wp2_with fail
  refine HR.out.mono ?_
  rintro e w1 ⟨rfl, hp, hg⟩
  obtain ⟨a, len, cap, g1, _⟩ := hp.open
  have c1 := g1.cell 1
  simp only [List.getElem?_cons_zero, List.getElem?_cons_succ] at c1
  have HP := Lib.hid hp
  have HG := Lib.hid hg
  clear hp hg g1
  go_wp2_with fail
  go_ret
  exact ⟨rfl, HP.out, HG.out⟩

set_option maxHeartbeats 400000 in
theorem pint_yes (w : World) (B c : Nat) (l : List UInt8) (p : Nat) (h : PCur w B c l p false) (hn : p + 8 ≤ l.length) :
    Calls Try.prog 14 #[.pointer (some ⟨c, 0, none⟩)] w fun e w' => e = .returned (.int .i64 (decI ((l.drop p).take 8))) ∧ PCur w' B c l (p + 8) false ∧ w.grownBy w' (some c) := by
  have HR := Lib.hid (pread_yes w B c l p 8 h hn)
  have hl8 : Hid (((l.drop p).take 8).length = 8) := Lib.hid (by simp; omega)
  have ht : Hid (((l.drop p).take 8).take 8 = (l.drop p).take 8) := Lib.hid (by rw [List.take_take]; rfl)
  clear h hn
  go_enter Try.func14, Try.ntmps14
  go_wp2_with fail
  refine HR.out.mono ?_
  rintro e w1 ⟨v, rfl, hv, _, hp, hg⟩
  obtain ⟨a, len, cap, g1, _⟩ := hp.open
  have c1 := g1.cell 1
  simp only [List.getElem?_cons_zero, List.getElem?_cons_succ] at c1
  have hnum := number_any w1 hv (by rw [hl8.out]; omega)
  rw [ht.out] at hnum
  have HN := Lib.hid hnum
  have HP := Lib.hid hp
  have HG := Lib.hid hg
  clear hp hg g1 hv hnum
  go_wp2_with fail
  refine HN.out.mono ?_
  rintro e w' ⟨rfl, rfl⟩
  go_wp2_with fail
  go_ret
  exact ⟨rfl, HP.out, HG.out⟩

set_option maxHeartbeats 400000 in
theorem praw_no (w : World) (B c : Nat) (l : List UInt8) (p : Nat) (bad : Bool) (n : Int) (h : PCur w B c l p bad) (hn : bad = true ∨ n < 0 ∨ (l.length : Int) - p < n) :
    Calls Try.prog 18 #[.pointer (some ⟨c, 0, none⟩), .int .i64 n] w fun e w' => ∃ v, e = .returned v ∧ w'.ownsRow w.heap.size 5 1 v 0 [] ∧ PCur w' B c l p true ∧ w.grownBy w' (some c) := by
  obtain ⟨i0, hi, hz0, hz1, hz2⟩ := info_parts Try.info5
  have HR := Lib.hid (pread_no w B c l p bad n h hn)
  clear h hn
  go_enter Try.func18, Try.ntmps18
  go_wp2_with fail
  refine HR.out.mono ?_
  rintro e w1 ⟨rfl, hp, hg⟩
  have HP := Lib.hid hp
  have HG := Lib.hid hg
  clear hp hg
  go_wp2_with (at_builtin; refine wpList_append_row rfl _ _ 22 rfl w.heap.size 5 i0 (.int .u8 0) 1 Try.underlying22 hi hz0 hz1 hz2 rfl _ 0 [] rfl (World.ownsRow_nil _ _ _ _) rfl (Row1.nil w1) (fun u hu => by cases hu) (by unfold maxLen; simp) (by simp) HG.out.size ?_; intro v1 w2 hown1 hgrow1)
  have HO := Lib.hid hown1
  have HG2 := Lib.hid hgrow1
  clear hown1 hgrow1
  go_wp2_with fail
  go_ret
  exact ⟨_, rfl, HO.out, HP.out.grown HG2.out, grownBy_trans HG.out (grownBy_of_none HG2.out)⟩

set_option maxHeartbeats 400000 in
theorem praw_yes (w : World) (B c : Nat) (l : List UInt8) (p n : Nat) (h : PCur w B c l p false) (hn : p + n ≤ l.length) :
    Calls Try.prog 18 #[.pointer (some ⟨c, 0, none⟩), .int .i64 n] w fun e w' => ∃ v, e = .returned v ∧ w'.ownsRow w.heap.size 5 1 v n (((l.drop p).take n).map bval) ∧ PCur w' B c l (p + n) false ∧ w.grownBy w' (some c) := by
  obtain ⟨i0, hi, hz0, hz1, hz2⟩ := info_parts Try.info5
  have HR := Lib.hid (pread_yes w B c l p n h hn)
  have hll : l.length ≤ 1099511627776 := by obtain ⟨v, _, _, _, _, h5, _⟩ := h; exact h5
  have hbl : Hid ((((l.drop p).take n).map bval).length = n) := Lib.hid (by simp; omega)
  have hn40 : n ≤ 1099511627776 := by omega
  clear h hn hll
  go_enter Try.func18, Try.ntmps18
  go_wp2_with fail
  refine HR.out.mono ?_
  rintro e w1 ⟨v, rfl, hv, _, hp, hg⟩
  have HV := Lib.hid hv
  have HP := Lib.hid hp
  have HG := Lib.hid hg
  clear hp hg hv
  go_wp2_with (at_builtin; refine wpList_append_row rfl _ _ 22 rfl w.heap.size 5 i0 (.int .u8 0) 1 Try.underlying22 hi hz0 hz1 hz2 rfl _ 0 [] rfl (World.ownsRow_nil _ _ _ _) rfl HV.out (bval_one _) (by rw [hbl.out]; unfold maxLen; omega) (by rw [hbl.out]; omega) HG.out.size ?_; intro v1 w2 hown1 hgrow1)
  rw [List.nil_append, hbl.out, Nat.zero_add] at hown1
  have HO := Lib.hid hown1
  have HG2 := Lib.hid hgrow1
  clear hown1 hgrow1
  go_wp2_with fail
  go_ret
  exact ⟨_, rfl, HO.out, HP.out.grown HG2.out, grownBy_trans HG.out (grownBy_of_none HG2.out)⟩

set_option maxHeartbeats 400000 in
theorem pbytes_no (w : World) (B c : Nat) (l : List UInt8) (p : Nat) (bad : Bool) (h : PCur w B c l p bad)
    (hn : bad = true ∨ l.length < p + 8 ∨ (p + 8 ≤ l.length ∧ (decI ((l.drop p).take 8) < 0 ∨ (l.length : Int) - (p + 8 : Nat) < decI ((l.drop p).take 8)))) :
    Calls Try.prog 16 #[.pointer (some ⟨c, 0, none⟩)] w fun e w' => ∃ v q, e = .returned v ∧ w'.ownsRow w.heap.size 5 1 v 0 [] ∧ PCur w' B c l q true ∧ w.grownBy w' (some c) := by
  obtain ⟨i0, hi, hz0, hz1, hz2⟩ := info_parts Try.info5
  have hr : ∃ q, Calls Try.prog 28 #[.pointer (some ⟨c, 0, none⟩), .int .i64 0, .bool true] w fun e w' => e = .returned (.slice none 0 0) ∧ PCur w' B c l q true ∧ w.grownBy w' (some c) := by
    rcases hn with hb | hb | ⟨hb, hd⟩
    · exact ⟨p, preadc_none w B c l p bad h (Or.inl hb)⟩
    · exact ⟨p, preadc_none w B c l p bad h (Or.inr hb)⟩
    · cases bad with
      | true => exact ⟨p, preadc_none w B c l p true h (Or.inl rfl)⟩
      | false => exact ⟨p + 8, preadc_short w B c l p h hb hd⟩
  obtain ⟨q, hr⟩ := hr
  have HR := Lib.hid hr
  clear h hn hr
  go_enter Try.func16, Try.ntmps16
  go_wp2_with fail
  refine HR.out.mono ?_
  rintro e w1 ⟨rfl, hp, hg⟩
  have HP := Lib.hid hp
  have HG := Lib.hid hg
  clear hp hg
  go_wp2_with (at_builtin; refine wpList_append_row rfl _ _ 22 rfl w.heap.size 5 i0 (.int .u8 0) 1 Try.underlying22 hi hz0 hz1 hz2 rfl _ 0 [] rfl (World.ownsRow_nil _ _ _ _) rfl (Row1.nil w1) (fun u hu => by cases hu) (by unfold maxLen; simp) (by simp) HG.out.size ?_; intro v1 w2 hown1 hgrow1)
  have HO := Lib.hid hown1
  have HG2 := Lib.hid hgrow1
  clear hown1 hgrow1
  go_wp2_with fail
  go_ret
  exact ⟨_, q, rfl, HO.out, HP.out.grown HG2.out, grownBy_trans HG.out (grownBy_of_none HG2.out)⟩

set_option maxHeartbeats 400000 in
theorem pbytes_yes (w : World) (B c : Nat) (l : List UInt8) (p n : Nat) (h : PCur w B c l p false) (hn : p + 8 + n ≤ l.length) (hd : decI ((l.drop p).take 8) = (n : Int)) :
    Calls Try.prog 16 #[.pointer (some ⟨c, 0, none⟩)] w fun e w' => ∃ v, e = .returned v ∧ w'.ownsRow w.heap.size 5 1 v n (((l.drop (p + 8)).take n).map bval) ∧ PCur w' B c l (p + 8 + n) false ∧ w.grownBy w' (some c) := by
  obtain ⟨i0, hi, hz0, hz1, hz2⟩ := info_parts Try.info5
  have HR := Lib.hid (preadc_yes w B c l p n h hn hd)
  have hll : l.length ≤ 1099511627776 := by obtain ⟨v, _, _, _, _, h5, _⟩ := h; exact h5
  have hbl : Hid ((((l.drop (p + 8)).take n).map bval).length = n) := Lib.hid (by simp; omega)
  have hn40 : n ≤ 1099511627776 := by omega
  clear h hn hd hll
  go_enter Try.func16, Try.ntmps16
  go_wp2_with fail
  refine HR.out.mono ?_
  rintro e w1 ⟨v, rfl, hv, _, hp, hg⟩
  have HV := Lib.hid hv
  have HP := Lib.hid hp
  have HG := Lib.hid hg
  clear hp hg hv
  go_wp2_with (at_builtin; refine wpList_append_row rfl _ _ 22 rfl w.heap.size 5 i0 (.int .u8 0) 1 Try.underlying22 hi hz0 hz1 hz2 rfl _ 0 [] rfl (World.ownsRow_nil _ _ _ _) rfl HV.out (bval_one _) (by rw [hbl.out]; unfold maxLen; omega) (by rw [hbl.out]; omega) HG.out.size ?_; intro v1 w2 hown1 hgrow1)
  rw [List.nil_append, hbl.out, Nat.zero_add] at hown1
  have HO := Lib.hid hown1
  have HG2 := Lib.hid hgrow1
  clear hown1 hgrow1
  go_wp2_with fail
  go_ret
  exact ⟨_, rfl, HO.out, HP.out.grown HG2.out, grownBy_trans HG.out (grownBy_of_none HG2.out)⟩

set_option maxHeartbeats 400000 in
theorem pleft (w : World) (B c : Nat) (l : List UInt8) (p : Nat) (bad : Bool) (h : PCur w B c l p bad) :
    Calls Try.prog 20 #[.pointer (some ⟨c, 0, none⟩)] w fun e w' => e = .returned (.int .i64 (if bad then 0 else (l.length : Int) - p)) ∧ ∃ k, w' = w.drewN k := by
  obtain ⟨a, len, cap, g1, g2, g3, g4, g5, g6, g7, g8⟩ := h.open
  have c0 := g1.cell 0
  simp only [List.getElem?_cons_zero] at c0
  cases bad with
  | true =>
    have hlen : len = 0 := (g7 rfl).2.1
    subst hlen
    clear h g1 g6 g7 g8
    go_enter Try.func20, Try.ntmps20
    go_wp2_with fail
    go_ret
    exact ⟨rfl, 0, rfl⟩
  | false =>
    have hlen : Hid ((len : Int) = (l.length : Int) - p) := Lib.hid (by have := (g8 rfl).2.1; omega)
    rw [show (if false = true then (0 : Int) else (l.length : Int) - p) = (l.length : Int) - p from rfl, ← hlen.out]
    clear h g1 g6 g7 g8
    go_enter Try.func20, Try.ntmps20
    go_wp2_with fail
    go_ret
    exact ⟨rfl, 0, rfl⟩

set_option maxHeartbeats 400000 in
theorem pbad (w : World) (B c : Nat) (l : List UInt8) (p : Nat) (bad : Bool) (h : PCur w B c l p bad) :
    Calls Try.prog 22 #[.pointer (some ⟨c, 0, none⟩)] w fun e w' => e = .returned (.bool bad) ∧ ∃ k, w' = w.drewN k := by
  obtain ⟨a, len, cap, g1, g2, g3, g4, g5, g6, g7, g8⟩ := h.open
  have c1 := g1.cell 1
  simp only [List.getElem?_cons_zero, List.getElem?_cons_succ] at c1
  clear h g1 g6 g7 g8
  go_enter Try.func22, Try.ntmps22
  go_wp2_with fail
  go_ret
  exact ⟨rfl, 0, rfl⟩

set_option maxHeartbeats 400000 in
theorem pend (w : World) (B c : Nat) (l : List UInt8) (p : Nat) (bad : Bool) (h : PCur w B c l p bad) :
    Calls Try.prog 23 #[.pointer (some ⟨c, 0, none⟩)] w fun e w' => e = .returned (.bool (!bad && decide (p = l.length))) ∧ ∃ k, w' = w.drewN k := by
  obtain ⟨a, len, cap, g1, g2, g3, g4, g5, g6, g7, g8⟩ := h.open
  have c0 := g1.cell 0
  have c1 := g1.cell 1
  simp only [List.getElem?_cons_zero, List.getElem?_cons_succ] at c0 c1
  cases bad with
  | true =>
    clear h g1 g6 g7 g8
    go_enter Try.func23, Try.ntmps23
    go_wp2_with fail
    go_ret
    exact ⟨rfl, 0, rfl⟩
  | false =>
    have hl := (g8 rfl).2.1
    by_cases hp : p = l.length
    · have h0 : len = 0 := by omega
      subst h0
      have HD : Hid (decide (p = l.length) = true) := Lib.hid (decide_eq_true hp)
      clear h g1 g6 g7 g8 hp hl
      go_enter Try.func23, Try.ntmps23
      go_wp2_with fail
      go_ret
      exact ⟨by rw [HD.out]; rfl, 0, rfl⟩
    · have h0 : ((len : Int) == 0) = false := by simp; omega
      have HD : Hid (decide (p = l.length) = false) := Lib.hid (decide_eq_false hp)
      clear h g1 g6 g7 g8 hp hl
      go_enter Try.func23, Try.ntmps23
      go_wp2_with fail
      go_ret
      exact ⟨by rw [HD.out]; rfl, 0, rfl⟩

theorem cur_said : CurSaid PCur where
  keep := fun h hh hs => h.keep hh hs
  lt := fun h => h.lt
  new := fun v l w hv hl => pnew v l w hv hl
  int_no := pint_no
  int_yes := pint_yes
  raw_no := praw_no
  raw_yes := praw_yes
  bytes_no := pbytes_no
  bytes_yes := pbytes_yes
  left := pleft
  end_ := pend
  bad_ := pbad

end Go.Proofs.Ytcgppiniknnjpaa
