/- The walk of the law TollOrders: true for every two slices of numbers and every number; no condition beyond that the slices read as lists. -/
import Derived.Test.YtpfjepmdnhmnaaaTollSums
import Derived.Deep.QuietTactic
import Derived.BigQuiet
namespace Go.Proofs.Ytpfjepmdnhmnaaa
open Go.RowKit
set_option linter.unusedVariables false

/-- What Of answers of any two numbers. -/
theorem of_some (a b : Int) : ∃ r : Nat × Nat × Bool, ∀ w, Calls Try.prog 10 #[.int .i64 a, .int .i64 b] w fun e w' => e = .returned (.tuple #[.complex .f64 r.1 r.2.1, .bool r.2.2]) ∧ w' = w := by
  by_cases h : 0 ≤ a ∧ a ≤ 1099511627776 ∧ 0 ≤ b ∧ b ≤ 1099511627776
  · exact ⟨(_, _, true), fun w => (of_yes a b w h.1 h.2.1 h.2.2.1 h.2.2.2).mono fun _ _ ⟨h1, h2⟩ => ⟨h1, h2.symm⟩⟩
  · exact ⟨(0, 0, false), fun w => (of_no a b w (by omega)).mono fun _ _ ⟨h1, h2⟩ => ⟨h1, h2.symm⟩⟩
noncomputable def ofR (a b : Int) : Nat × Nat × Bool := (of_some a b).choose
theorem of_fun (a b : Int) (w : World) : Calls Try.prog 10 #[.int .i64 a, .int .i64 b] w fun e w' => e = .returned (.tuple #[.complex .f64 (ofR a b).1 (ofR a b).2.1, .bool (ofR a b).2.2]) ∧ w' = w := (of_some a b).choose_spec w

theorem own_drewN {w : World} {base : Nat} {e : TypeId} {size : Nat} {v : Value} {n : Nat} {xs : List Value} (h : w.ownsRow base e size v n xs) (k : Nat) : (w.drewN k).ownsRow base e size v n xs := h
theorem below_drewN {B : Nat} {a w : World} (h : Below B a w) (n : Nat) : Below B a (w.drewN n) := h.trans ⟨rfl, rfl, rfl, Nat.le_refl _, fun _ _ => rfl⟩

/-- The complex numbers that have been gathered: just so many. -/
def Gathered (base : Nat) (w : World) (v : Value) (k : Nat) : Prop := ∃ cs : List (Nat × Nat), cs.length = k ∧ w.ownsRow base 24 1 v k (cs.map cval)

theorem gathered_nil (base : Nat) (w : World) : Gathered base w (.slice none 0 0) 0 := ⟨[], rfl, World.ownsRow_nil _ _ _ _⟩
theorem gathered_snoc {base : Nat} {w : World} {v : Value} {k x y : Nat} {cs : List (Nat × Nat)} (hl : cs.length = k) (h : w.ownsRow base 24 1 v (k + 1) (cs.map cval ++ [.complex .f64 x y])) : Gathered base w v (k + 1) :=
  ⟨cs ++ [(x, y)], by simp [hl], by rw [List.map_append]; exact h⟩

/-- append ONTO A ROW OF THE CALL's OWN, as one step of a region that draws. -/
theorem step_append_own {P : Program} {w : World} {ops : Array Oper} {o : Oper} {a : Act} {K : Act → World → Prop} {Q : Exit → Act → World → Prop} {E : Prop} (hgd : o.guard = none) (s x : Operand) (t : TypeId)
    (ho : o.op = .call { callee := .builtin .append, args := #[s, x], argTypes := #[t, t] })
    (base : Nat) (e : TypeId) (i : TypeInfo) (z : Value) (size bytes : Nat) (ht : P.underlying t = some (.slice e)) (hi : P.info? e = some i) (hz : i.zero = some z)
    (hsize : i.size = size) (hby : i.bytes = bytes) (hzs : z.cells.size = size) (hsz : 0 < size)
    (v : Value) (n : Nat) (xs : List Value) (hs : a.eval s = v) (hown : w.ownsRow base e size v n xs)
    (ad : Addr) (m c : Nat) (news : List Value) (hx : a.eval x = .slice (some ad) m c) (hl : news.length = m * size) (hnews : ∀ j u, news[j]? = some u → w.cell? (ad.add j) = some u) (h1 : ∀ u ∈ news, u.oneCell' = true)
    (h63 : n + m ≤ maxLen) (hbytes : (n + m) * bytes ≤ 140737488355328) (hbase : base ≤ w.heap.size)
    (h : ∀ v' w', w'.ownsRow base e size v' (n + m) (xs ++ news) → w.grownBy w' v.ownBlock → (v' = .slice none 0 0 ↔ v = .slice none 0 0 ∧ m = 0) → K (a.put o.dst v') w') :
    if Region.wanted o (yielded ops a.tmps) = true then Oper.wp P o a w K Q else E := by
  have hw : Region.wanted o (yielded ops a.tmps) = true := by simp [Region.wanted, hgd]
  rw [if_pos hw]
  exact wp_append_own w s x t ho base e i z size bytes ht hi hz hsize hby hzs hsz v n xs hs hown ad m c news hx hl hnews h1 h63 hbytes hbase h

theorem cval_one (l : List (Nat × Nat)) : ∀ u ∈ l.map cval, u.oneCell' = true := by
  intro u hu
  obtain ⟨c, _, rfl⟩ := List.mem_map.1 hu
  rfl

theorem own_drop {w : World} {base : Nat} {e : TypeId} {g n cap q : Nat} {cs : List (Nat × Nat)} (h : w.ownsRow base e 1 (.slice (some ⟨g, 0, none⟩) n cap) n (cs.map cval)) (hn : cs.length = n) :
    ∀ j u, ((cs.drop q).map cval)[j]? = some u → w.cell? ((⟨g, q, none⟩ : Addr).add j) = some u := by
  intro j u hu
  have hj : q + j < n := by
    rcases Nat.lt_or_ge (q + j) n with h | h
    · exact h
    · rw [List.getElem?_eq_none (by simp; omega)] at hu
      cases hu
  have := h.cellAt (q + j) (by omega)
  rw [WideShapes.add_plain, this, ← hu]
  simp

theorem own_take {w : World} {base : Nat} {e : TypeId} {g n cap q : Nat} {cs : List (Nat × Nat)} (h : w.ownsRow base e 1 (.slice (some ⟨g, 0, none⟩) n cap) n (cs.map cval)) (hn : cs.length = n) :
    ∀ j u, ((cs.take q).map cval)[j]? = some u → w.cell? ((⟨g, 0, none⟩ : Addr).add j) = some u := by
  intro j u hu
  have hj : j < q ∧ j < n := by
    rcases Nat.lt_or_ge j (min q n) with h | h
    · omega
    · rw [List.getElem?_eq_none (by simp; omega)] at hu
      cases hu
  have := h.cellAt j (by omega)
  rw [WideShapes.add_plain, Nat.zero_add, this, ← hu]
  simp [hj.1]

/-- The parts of a row of the call's own, in a later world. -/
theorem crow_drop {w w2 : World} {base : Nat} {e : TypeId} {g n cap q : Nat} {cs : List (Nat × Nat)} (h : w.ownsRow base e 1 (.slice (some ⟨g, 0, none⟩) n cap) n (cs.map cval)) (hn : cs.length = n)
    (hb : Below w.heap.size w w2) (hg : g < w.heap.size) (hc : n ≤ cap) (hm : cap ≤ maxLen) : CRow w2 (.slice (some ⟨g, q, none⟩) (n - q) (cap - q)) (cs.drop q) := by
  refine Or.inr ⟨g, q, cap - q, by simp [hn], by simp; omega, by omega, fun i hi => ?_⟩
  have hi' : q + i < cs.length := by simp at hi; omega
  rw [hb.cell (p := ⟨g, q + i, none⟩) hg, h.cellAt (q + i) (by omega), List.getElem?_map, List.getElem?_eq_getElem hi']
  simp [cval, List.getD, List.getElem?_eq_getElem hi']

theorem crow_take {w w2 : World} {base : Nat} {e : TypeId} {g n cap q : Nat} {cs : List (Nat × Nat)} (h : w.ownsRow base e 1 (.slice (some ⟨g, 0, none⟩) n cap) n (cs.map cval)) (hn : cs.length = n)
    (hb : Below w.heap.size w w2) (hg : g < w.heap.size) (hc : n ≤ cap) (hm : cap ≤ maxLen) (hq : q ≤ n) : CRow w2 (.slice (some ⟨g, 0, none⟩) q cap) (cs.take q) := by
  refine Or.inr ⟨g, 0, cap, by simp; omega, by simp; omega, hm, fun i hi => ?_⟩
  have hi' : i < q ∧ i < cs.length := by simp at hi; omega
  rw [Nat.zero_add, hb.cell (p := ⟨g, i, none⟩) hg, h.cellAt i (by omega), List.getElem?_map, List.getElem?_eq_getElem hi'.2]
  simp [cval, List.getD, List.getElem?_eq_getElem hi'.2, hi'.1]

theorem sum_turn (cs : List (Nat × Nat)) (q : Nat) (f : Nat × Nat → Nat) : ((cs.drop q ++ cs.take q).map f).sum = (cs.map f).sum := by
  conv => rhs; rw [← List.take_append_drop q cs]
  rw [List.map_append, List.map_append, List.sum_append_nat, List.sum_append_nat, Nat.add_comm]

theorem sA_turn (cs : List (Nat × Nat)) (q : Nat) : sA (cs.drop q ++ cs.take q) = sA cs := by
  unfold sA; rw [sum_turn]
theorem sB_turn (cs : List (Nat × Nat)) (q : Nat) : sB (cs.drop q ++ cs.take q) = sB cs := by
  unfold sB; rw [sum_turn]
theorem SumOf.turn {cs : List (Nat × Nat)} {q : Nat} {s : Value} (h : SumOf (cs.drop q ++ cs.take q) s) : ∃ u v, s = .complex .f64 u v ∧ IsPart u (sA cs) ∧ IsPart v (sB cs) := by
  obtain ⟨u, v, h1, h2, h3⟩ := h
  rw [sA_turn] at h2
  rw [sB_turn] at h3
  exact ⟨u, v, h1, h2, h3⟩

theorem sA_both {cs : List (Nat × Nat)} {q u1 u2 u3 u4 : Nat} (h1 : IsPart u1 (sA (cs.take q))) (h2 : IsPart u2 (sB (cs.take q))) (h3 : IsPart u3 (sA (cs.drop q))) (h4 : IsPart u4 (sB (cs.drop q))) :
    sA [(u1, u2), (u3, u4)] = sA cs ∧ sB [(u1, u2), (u3, u4)] = sB cs := by
  have e1 : sA [(u1, u2), (u3, u4)] = min (sA (cs.take q) + sA (cs.drop q)) 1099511627776 := by
    unfold sA; simp only [List.map_cons, List.map_nil, List.sum_cons, List.sum_nil, tA_eq h1 h2, tA_eq h3 h4]; rfl
  have e2 : sB [(u1, u2), (u3, u4)] = min (sB (cs.take q) + sB (cs.drop q)) 1099511627776 := by
    unfold sB; simp only [List.map_cons, List.map_nil, List.sum_cons, List.sum_nil, tB_eq h1 h2, tB_eq h3 h4]; rfl
  have d1 : ∀ f : Nat × Nat → Nat, (cs.map f).sum = ((cs.take q).map f).sum + ((cs.drop q).map f).sum := by
    intro f
    conv => lhs; rw [← List.take_append_drop q cs]
    rw [List.map_append, List.sum_append_nat]
  refine ⟨e1.trans ?_, e2.trans ?_⟩
  · unfold sA; rw [d1 tA]; omega
  · unfold sB; rw [d1 tB]; omega

theorem crow_two' (w : World) (x0 x1 y0 y1 : Nat) (n : Nat) (h : w.heap.size = n) : CRow (w.alloc (.cells #[.complex .f64 x0 x1, .complex .f64 y0 y1] 24)) (.slice (some ⟨n, 0, none⟩) 2 2) [(x0, x1), (y0, y1)] := by
  subst h
  refine Or.inr ⟨w.heap.size, 0, 2, rfl, Nat.le_refl _, by unfold maxLen; omega, fun i hi => ?_⟩
  rw [World.cell?_alloc_at _ _ _ _ rfl]
  match i, hi with
  | 0, _ => rfl
  | 1, _ => rfl

theorem sum_drew {v : Value} {cs : List (Nat × Nat)} {w : World} (h : CRow w v cs) : Calls Try.prog 14 #[v] w.drew fun e w' => ∃ s, e = .returned s ∧ SumOf cs s ∧ w.drew = w' := sum_any w.drew h

theorem sum_two (w : World) (x0 x1 y0 y1 : Nat) (n : Nat) (h : w.heap.size = n) :
    Calls Try.prog 14 #[.slice (some ⟨n, 0, none⟩) 2 2] (w.alloc (.cells #[.complex .f64 x0 x1, .complex .f64 y0 y1] 24)).drew fun e w' => ∃ s, e = .returned s ∧ SumOf [(x0, x1), (y0, y1)] s ∧ (w.alloc (.cells #[.complex .f64 x0 x1, .complex .f64 y0 y1] 24)).drew = w' :=
  sum_drew (crow_two' w x0 x1 y0 y1 n h)

set_option maxHeartbeats 1000000 in
theorem tollOrders_loop (b off cap b' off' cap' len' n : Nat) (xs ys : List Int) (q : Nat) (w : World) (hxl : xs.length = n) (hn : n ≤ 60) (hlen : ys.length = len') (hle : n ≤ len') (hq : q ≤ n)
    (hcap : n ≤ cap) (hm : cap ≤ maxLen) (hcap' : len' ≤ cap') (hm' : cap' ≤ maxLen) (hb : b < w.heap.size) (hb' : b' < w.heap.size) (hn0 : 0 < n)
    (hx : ∀ i, i < xs.length → w.cell? ⟨b, off + i, none⟩ = some (.int .i64 (xs.getD i 0)))
    (hy : ∀ i, i < ys.length → w.cell? ⟨b', off' + i, none⟩ = some (.int .i64 (ys.getD i 0))) :
    Calls Try.prog 7 #[.slice (some ⟨b, off, none⟩) n cap, .slice (some ⟨b', off', none⟩) len' cap', .int .i64 q] w fun e w' => e = .returned (.bool true) ∧ Below w.heap.size w w' := by
  unfold maxLen at hm hm'
  obtain ⟨i0, hi, hz0, hz1, hz2⟩ := info_parts Try.info24
  have HX := Lib.hid hx
  have HY := Lib.hid hy
  have HL := Lib.hid hlen
  have HXL := Lib.hid hxl
  clear hx hy hlen hxl
  have d1 : decide ((60 : Int) < (n : Int)) = false := decide_eq_false (by omega)
  have d2 : decide (len' < n) = false := decide_eq_false (by omega)
  have d4 : decide ((q : Int) < 0) = false := decide_eq_false (by omega)
  have d3 : decide (n < q) = false := decide_eq_false (by omega)
  go_enter Try.func7, Try.ntmps7
  go_wp2_with fail
  refine (alive_any _).mono ?_
  rintro e w' ⟨rfl, rfl⟩
  go_wp2_with fail
  go_loopw [8, 9] (fun l i wr => ∃ k : Nat, k ≤ n ∧ i = .int .i64 k ∧ Gathered w.heap.size wr l k ∧ Below w.heap.size w wr) (fun _ i _ => n - (intOf i).toNat)
  case atStart => exact ⟨0, Nat.zero_le _, rfl, gathered_nil _ _, Below.refl _ _⟩
  case round =>
    obtain ⟨k, hk, rfl, ⟨cs, hcl, hown⟩, hbel⟩ := hrel
    by_cases hlt : k < n
    · have c1 := hbel.cell (p := ⟨b, off + k, none⟩) hb
      have hl1 := HXL.out
      have hl := HL.out
      rw [HX.out k (by omega)] at c1
      have c2 := hbel.cell (p := ⟨b', off' + k, none⟩) hb'
      rw [HY.out k (by omega)] at c2
      have hsz := hbel.size
      have i0' : (0 : Int) ≤ (k : Int) := Int.natCast_nonneg _
      have i1 : (k : Int) < (n : Int) := by omega
      have i2 : (k : Int) < (len' : Int) := by omega
      generalize xs.getD k 0 = x at *
      generalize ys.getD k 0 = y at *
      have HB := Lib.hid hbel
      have HO := Lib.hid hown
      have HC := Lib.hid hcl
      clear hl hl1 hbel hown hcl
      go_wp2_with fail
      go_quiet ((go_at_call 10; exact Calls.quiet_of_same (of_fun _ _ _)))
      generalize ofR (bits .and .i64 x 2199023255551) (bits .and .i64 y 2199023255551) = rr
      go_wp2_with (at_builtin; refine wpList_append_own _ rfl _ _ 31 rfl w.heap.size 24 i0 (.complex .f64 0 0) 1 16 Try.underlying31 hi hz0 hz1 hz2 rfl (by decide) _ k _ rfl ((own_drewN HO.out _).alloc _) ⟨wr.heap.size, 0, none⟩ 1 1 [.complex .f64 rr.1 rr.2.1] rfl rfl ?c1 ?c2 ?c3 ?c4 ?c5 ?_)
      case c1 => exact World.news_of_block (cs := #[.complex .f64 rr.1 rr.2.1]) (t := 24) (fr := (0, 0)) (heap_alloc_new (wr.drewN nq) _)
      case c2 => simp [Value.oneCell']
      case c3 => unfold maxLen; omega
      case c4 => omega
      case c5 => simp; omega
      intro v' w1 hown1 hgrow _
      have hown2 := gathered_snoc HC.out hown1
      have hbel2 : Below w.heap.size w w1 := ((below_drewN HB.out _).alloc hsz _).grown hgrow (by simp; omega) (fun g hg => (HO.out.lt g hg).1)
      clear hown1 hgrow
      go_wp2_with fail
      go_roundw
      case rel => exact ⟨k + 1, by omega, by go_num, hown2, hbel2⟩
      case measure => simp [intOf]; omega
    · have hk' : k = n := by omega
      subst hk'
      rcases hown.2 with ⟨_, h0⟩ | ⟨g, cap1, cur, rfl, hbg, _, hc1, hc2, _, _⟩
      · omega
      · have hgl := (hown.lt g rfl).2
        have hsz := hbel.size
        have N1 := Lib.hid (own_drop (q := q) hown hcl)
        have N2 := Lib.hid (own_take (q := q) hown hcl)
        have hl1 : Hid (((cs.drop q).map cval).length = (k - q) * 1) := Lib.hid (by simp; omega)
        have hl2 : Hid (((cs.take q).map cval).length = q * 1) := Lib.hid (by simp; omega)
        have HB := Lib.hid hbel
        have HO := Lib.hid hown
        have HC := Lib.hid hcl
        clear hbel hown hcl
        by_cases hcq : q = cap1
        · have hkq : q = k := by omega
          have HZ' : Hid (cs.drop q = []) := Lib.hid (by rw [List.drop_of_length_le (by have := HC.out; omega)])
          subst hcq
          subst hkq
          have hcz : ¬ q = 0 := by omega
          go_wp2_with fail
          go_region_held3 (fun _ => True)
            (trivial)
            (first | (refine step_append_own (by rfl) (.const (.slice none 0 0)) (.tmp 69) _ (by rfl) wr.heap.size 24 i0 _ 1 16 Try.underlying31 hi hz0 hz1 hz2 rfl (by omega) _ 0 [] (by rfl) (World.ownsRow_nil _ _ _ _) ⟨g, 0, none⟩ 0 0 [] (by rfl) (by rfl) (fun j u hu => by simp at hu) (fun u hu => by cases hu) (by unfold maxLen; omega) (by omega) (by simp) ?_; intro v1 w1 hown1 hgrow1 _) | (refine step_append_own (by rfl) (.tmp 70) (.tmp 73) _ (by rfl) wr.heap.size 24 i0 _ 1 16 Try.underlying31 hi hz0 hz1 hz2 rfl (by omega) _ _ _ (by rfl) hown1 ⟨g, 0, none⟩ q q ((cs.take q).map cval) (by rfl) hl2.out (fun j u hu => (hgrow1.cell_far _ (by simp [WideShapes.add_plain]; omega) (by simp [Value.ownBlock])).trans (N2.out j u hu)) (cval_one _) (by unfold maxLen; omega) (by omega) (by have := hgrow1.size; simp at this; omega) ?_; intro v2 w2 hown2 hgrow2 _))
          have hb1 : Below wr.heap.size wr w1 := ((Below.refl wr.heap.size wr).drew).grown hgrow1 (by simp) (fun r hr => by cases hr)
          have hb2 : Below wr.heap.size wr w2 := hb1.grown hgrow2 hb1.size (fun r hr => (hown1.lt r hr).1)
          have R0 := Lib.hid (crow_take (q := q) HO.out HC.out hb2 hgl hc1 hc2 (Nat.le_refl _))
          have R1 := Lib.hid (crow_take (q := q) HO.out HC.out hb2 hgl hc1 hc2 (by omega))
          have R2 : Hid (CRow w2 (.slice (some ⟨g, 0, none⟩) 0 0) (cs.drop q)) := Lib.hid (by rw [HZ'.out]; exact Or.inr ⟨g, 0, 0, rfl, Nat.le_refl _, Nat.zero_le _, fun i hi => by cases hi⟩)
          have hl3 : (cs.drop q ++ cs.take q).length = 0 + 0 + q := by have := HC.out; simp; omega
          have hl4 : (([] : List Value) ++ []) ++ (cs.take q).map cval = (cs.drop q ++ cs.take q).map cval := by rw [HZ'.out]; rfl
          rw [hl4, ← hl3] at hown2
          have R3 := Lib.hid (crow_of_own hown2)
          have HB2 := Lib.hid (HB.out.trans (hb2.mono hsz))
          clear hb1 hb2 hown1 hown2 hgrow1 hgrow2 hl3
          have la := sA_le cs
          have lb := sB_le cs
          have E1 := Lib.hid (sA_turn cs q)
          have E2 := Lib.hid (sB_turn cs q)
          go_wp2_with fail
          refine (sum_any _ R0.out).mono ?_
          rw [List.take_of_length_le (by have := HC.out; omega)]
          rintro e w' ⟨s, rfl, ⟨u1, u2, rfl, p1, p2⟩, rfl⟩
          go_wp2_with fail
          refine (parts_yes _ p1 p2).mono ?_
          rintro e w' ⟨rfl, rfl⟩
          go_wp2_with fail
          have gd1 : decide (((sA cs : Nat) : Int) ≤ 1099511627776) = true := decide_eq_true (by omega)
          have gd2 : decide (((sB cs : Nat) : Int) ≤ 1099511627776) = true := decide_eq_true (by omega)
          go_region_held3 (fun _ => True)
            (trivial)
            (first | (go_at_call 14; (with_reducible refine (sum_drew R3.out).mono ?_); rintro e w' ⟨s, rfl, hs, rfl⟩; obtain ⟨u3, u4, rfl, p3, p4⟩ := hs.turn; have o1 := part_eq p1 p3; have o2 := part_eq p2 p4; rw [← fmt64] at o1 o2) | (go_at_call 14; (with_reducible refine (sum_drew R1.out).mono ?_); rintro e w' ⟨s, rfl, ⟨u5, u6, rfl, p5, p6⟩, rfl⟩) | (go_at_call 14; (with_reducible refine (sum_drew R2.out).mono ?_); rintro e w' ⟨s, rfl, ⟨u7, u8, rfl, p7, p8⟩, rfl⟩) | (go_at_call 14; (with_reducible refine (sum_two _ _ _ _ _ _ ?hsize).mono ?_); (try (case hsize => simp)); rintro e w' ⟨s, rfl, ⟨u9, u10, rfl, p9, p10⟩, rfl⟩; rw [(sA_both p5 p6 p7 p8).1] at p9; rw [(sA_both p5 p6 p7 p8).2] at p10; have o3 := part_eq p1 p9; have o4 := part_eq p2 p10; rw [← fmt64] at o3 o4))
          go_wp2_with fail
          go_ret
          exact ⟨rfl, (HB2.out.alloc HB2.out.size _).drew⟩
        · have hcq' : ¬ cap1 = q := fun e => hcq e.symm
          have hcz : ¬ cap1 = 0 := by omega
          have hqc : q ≤ cap1 := by omega
          go_wp2_with fail
          go_region_held3 (fun _ => True)
            (trivial)
            (first | (refine step_append_own (by rfl) (.const (.slice none 0 0)) (.tmp 69) _ (by rfl) wr.heap.size 24 i0 _ 1 16 Try.underlying31 hi hz0 hz1 hz2 rfl (by omega) _ 0 [] (by rfl) (World.ownsRow_nil _ _ _ _) ⟨g, q, none⟩ (k - q) (cap1 - q) ((cs.drop q).map cval) (by rfl) hl1.out N1.out (cval_one _) (by unfold maxLen; omega) (by omega) (by simp) ?_; intro v1 w1 hown1 hgrow1 _) | (refine step_append_own (by rfl) (.tmp 70) (.tmp 73) _ (by rfl) wr.heap.size 24 i0 _ 1 16 Try.underlying31 hi hz0 hz1 hz2 rfl (by omega) _ _ _ (by rfl) hown1 ⟨g, 0, none⟩ q cap1 ((cs.take q).map cval) (by rfl) hl2.out (fun j u hu => (hgrow1.cell_far _ (by simp [WideShapes.add_plain]; omega) (by simp [Value.ownBlock])).trans (N2.out j u hu)) (cval_one _) (by unfold maxLen; omega) (by omega) (by have := hgrow1.size; simp at this; omega) ?_; intro v2 w2 hown2 hgrow2 _))
          have hb1 : Below wr.heap.size wr w1 := ((Below.refl wr.heap.size wr).drew).grown hgrow1 (by simp) (fun r hr => by cases hr)
          have hb2 : Below wr.heap.size wr w2 := hb1.grown hgrow2 hb1.size (fun r hr => (hown1.lt r hr).1)
          have R0 := Lib.hid (crow_take (q := k) HO.out HC.out hb2 hgl hc1 hc2 (Nat.le_refl _))
          have R1 := Lib.hid (crow_take (q := q) HO.out HC.out hb2 hgl hc1 hc2 (by omega))
          have R2 := Lib.hid (crow_drop (q := q) HO.out HC.out hb2 hgl hc1 hc2)
          have hl3 : (cs.drop q ++ cs.take q).length = 0 + (k - q) + q := by have := HC.out; simp; omega
          rw [List.nil_append, ← List.map_append, ← hl3] at hown2
          have R3 := Lib.hid (crow_of_own hown2)
          have HB2 := Lib.hid (HB.out.trans (hb2.mono hsz))
          clear hb1 hb2 hown1 hown2 hgrow1 hgrow2 hl3
          have la := sA_le cs
          have lb := sB_le cs
          have E1 := Lib.hid (sA_turn cs q)
          have E2 := Lib.hid (sB_turn cs q)
          go_wp2_with fail
          refine (sum_any _ R0.out).mono ?_
          rw [List.take_of_length_le (by have := HC.out; omega)]
          rintro e w' ⟨s, rfl, ⟨u1, u2, rfl, p1, p2⟩, rfl⟩
          go_wp2_with fail
          refine (parts_yes _ p1 p2).mono ?_
          rintro e w' ⟨rfl, rfl⟩
          go_wp2_with fail
          have gd1 : decide (((sA cs : Nat) : Int) ≤ 1099511627776) = true := decide_eq_true (by omega)
          have gd2 : decide (((sB cs : Nat) : Int) ≤ 1099511627776) = true := decide_eq_true (by omega)
          go_region_held3 (fun _ => True)
            (trivial)
            (first | (go_at_call 14; (with_reducible refine (sum_drew R3.out).mono ?_); rintro e w' ⟨s, rfl, hs, rfl⟩; obtain ⟨u3, u4, rfl, p3, p4⟩ := hs.turn; have o1 := part_eq p1 p3; have o2 := part_eq p2 p4; rw [← fmt64] at o1 o2) | (go_at_call 14; (with_reducible refine (sum_drew R1.out).mono ?_); rintro e w' ⟨s, rfl, ⟨u5, u6, rfl, p5, p6⟩, rfl⟩) | (go_at_call 14; (with_reducible refine (sum_drew R2.out).mono ?_); rintro e w' ⟨s, rfl, ⟨u7, u8, rfl, p7, p8⟩, rfl⟩) | (go_at_call 14; (with_reducible refine (sum_two _ _ _ _ _ _ ?hsize).mono ?_); (try (case hsize => simp)); rintro e w' ⟨s, rfl, ⟨u9, u10, rfl, p9, p10⟩, rfl⟩; rw [(sA_both p5 p6 p7 p8).1] at p9; rw [(sA_both p5 p6 p7 p8).2] at p10; have o3 := part_eq p1 p9; have o4 := part_eq p2 p10; rw [← fmt64] at o3 o4))
          go_wp2_with fail
          go_ret
          exact ⟨rfl, (HB2.out.alloc HB2.out.size _).drew⟩

set_option maxHeartbeats 400000 in
theorem tollOrders_out (a a' : Option Addr) (n cap len' cap' : Nat) (q : Int) (w : World) (hcap : n ≤ cap) (hm : cap ≤ maxLen) (hcap' : len' ≤ cap') (hm' : cap' ≤ maxLen) (h : ¬ (n ≤ 60 ∧ n ≤ len' ∧ 0 ≤ q ∧ q ≤ n)) :
    Calls Try.prog 7 #[.slice a n cap, .slice a' len' cap', .int .i64 q] w fun e w' => e = .returned (.bool true) ∧ Below w.heap.size w w' := by
  unfold maxLen at hm hm'
  have hc : 60 < n ∨ (n ≤ 60 ∧ len' < n) ∨ (n ≤ 60 ∧ n ≤ len' ∧ q < 0) ∨ (n ≤ 60 ∧ n ≤ len' ∧ 0 ≤ q ∧ n < q) := by omega
  clear h
  rcases hc with h1 | ⟨h1, h2⟩ | ⟨h1, h2, h3⟩ | ⟨h1, h2, h3, h4⟩
  all_goals
    go_enter Try.func7, Try.ntmps7
    go_wp2_with fail
    refine (alive_any _).mono ?_
    rintro e w' ⟨rfl, rfl⟩
    go_wp2_with fail
    all_goals (go_ret; exact ⟨rfl, Below.refl _ _⟩)

theorem sum_two2 (w : World) (x0 x1 y0 y1 : Nat) (n : Nat) (h : w.heap.size = n) :
    Calls Try.prog 14 #[.slice (some ⟨n, 0, none⟩) 2 2] (w.alloc (.cells #[.complex .f64 x0 x1, .complex .f64 y0 y1] 24)).drew.drew fun e w' => ∃ s, e = .returned s ∧ SumOf [(x0, x1), (y0, y1)] s ∧ (w.alloc (.cells #[.complex .f64 x0 x1, .complex .f64 y0 y1] 24)).drew.drew = w' :=
  sum_any _ (crow_two' w x0 x1 y0 y1 n h : CRow (w.alloc (.cells #[.complex .f64 x0 x1, .complex .f64 y0 y1] 24)).drew.drew _ _)

theorem crow_none (w : World) : CRow w (.slice none 0 0) [] := Or.inl ⟨rfl, rfl⟩

theorem nothing_both {u1 u2 u3 u4 : Nat} (h1 : IsPart u1 (sA [])) (h2 : IsPart u2 (sB [])) (h3 : IsPart u3 (sA [])) (h4 : IsPart u4 (sB [])) :
    sA [(u1, u2), (u3, u4)] = sA [] ∧ sB [(u1, u2), (u3, u4)] = sB [] := sA_both (cs := []) (q := 0) h1 h2 h3 h4

set_option maxHeartbeats 1000000 in
theorem tollOrders_none (a a' : Option Addr) (cap len' cap' : Nat) (w : World) (hm : cap ≤ maxLen) (hcap' : len' ≤ cap') (hm' : cap' ≤ maxLen) :
    Calls Try.prog 7 #[.slice a 0 cap, .slice a' len' cap', .int .i64 0] w fun e w' => e = .returned (.bool true) ∧ Below w.heap.size w w' := by
  unfold maxLen at hm hm'
  have i1 : (0 : Int) ≤ 0 := by omega
  go_enter Try.func7, Try.ntmps7
  go_wp2_with fail
  refine (alive_any _).mono ?_
  rintro e w' ⟨rfl, rfl⟩
  go_wp2_with fail
  refine wp_loop_rounds 1 ?_
  rw [rounds_succ]
  go_wp2_with fail
  go_region_held3 (fun _ => True)
    (trivial)
    (fail)
  go_wp2_with fail
  refine (sum_any _ (crow_none _)).mono ?_
  rintro e w' ⟨s, rfl, ⟨u1, u2, rfl, p1, p2⟩, rfl⟩
  go_wp2_with fail
  refine (parts_yes _ p1 p2).mono ?_
  rintro e w' ⟨rfl, rfl⟩
  have la := sA_le []
  have lb := sB_le []
  have gd1 : decide (((sA [] : Nat) : Int) ≤ 1099511627776) = true := decide_eq_true (by omega)
  have gd2 : decide (((sB [] : Nat) : Int) ≤ 1099511627776) = true := decide_eq_true (by omega)
  go_wp2_with fail
  go_region_held3 (fun _ => True)
    (trivial)
    (first | (go_at_call 14; (with_reducible refine (sum_two2 _ _ _ _ _ _ ?hsize).mono ?_); (try (case hsize => simp)); rintro e w' ⟨s, rfl, ⟨u9, u10, rfl, p9, p10⟩, rfl⟩; rw [(nothing_both p5 p6 p7 p8).1] at p9; rw [(nothing_both p5 p6 p7 p8).2] at p10; have o3 := part_eq p1 p9; have o4 := part_eq p2 p10; rw [← fmt64] at o3 o4) | (go_at_call 14; have := p5; (with_reducible refine (sum_any _ (crow_none _)).mono ?_); rintro e w' ⟨s, rfl, ⟨u7, u8, rfl, p7, p8⟩, rfl⟩) | (go_at_call 14; have := p3; (with_reducible refine (sum_any _ (crow_none _)).mono ?_); rintro e w' ⟨s, rfl, ⟨u5, u6, rfl, p5, p6⟩, rfl⟩) | (go_at_call 14; (with_reducible refine (sum_any _ (crow_none _)).mono ?_); rintro e w' ⟨s, rfl, ⟨u3, u4, rfl, p3, p4⟩, rfl⟩; have o1 := part_eq p1 p3; have o2 := part_eq p2 p4; rw [← fmt64] at o1 o2))
  go_wp2_with fail
  go_ret
  exact ⟨rfl, ((Below.refl w.heap.size w).alloc (Nat.le_refl _) _).drew.drew⟩

theorem row_ints {w : World} {b off : Nat} {zs : List Int} (h : ∀ i, i < (zs.map (Value.int .i64)).length → w.cell? ⟨b, off + i, none⟩ = (zs.map (Value.int .i64))[i]?) :
    ∀ i, i < zs.length → w.cell? ⟨b, off + i, none⟩ = some (.int .i64 (zs.getD i 0)) := by
  intro i hi
  rw [h i (by simpa using hi)]
  simp [List.getD, hi]

theorem tollOrders_any (v v' : Value) (xs ys : List Int) (q : Int) (w : World) (hx : Row1 w v (xs.map (.int .i64))) (hy : Row1 w v' (ys.map (.int .i64))) :
    Calls Try.prog 7 #[v, v', .int .i64 q] w fun e w' => e = .returned (.bool true) ∧ Below w.heap.size w w' := by
  obtain ⟨a, cap, rfl, h1, h2, h3⟩ := hx
  obtain ⟨a', cap', rfl, g1, g2, g3⟩ := hy
  rw [List.length_map] at h1 g1 ⊢
  rw [List.length_map]
  by_cases ho : xs.length ≤ 60 ∧ xs.length ≤ ys.length ∧ 0 ≤ q ∧ q ≤ xs.length
  · obtain ⟨q, rfl⟩ := Int.eq_ofNat_of_zero_le ho.2.2.1
    by_cases h0 : xs = []
    · subst h0
      have hq : q = 0 := by have := ho.2.2.2; rw [List.length_nil] at this; omega
      subst hq
      exact tollOrders_none a a' cap _ cap' w h2 g1 g2
    · have l0 : 0 < xs.length := List.length_pos_iff.2 h0
      obtain ⟨b, off, rfl, hb, hc⟩ := h3 (by simpa using h0)
      obtain ⟨b', off', rfl, hb', hc'⟩ := g3 (by intro e; have := List.map_eq_nil_iff.1 e; subst this; rw [List.length_nil] at ho; omega)
      exact tollOrders_loop b off cap b' off' cap' ys.length xs.length xs ys q w rfl ho.1 rfl ho.2.1 (by omega) h1 h2 g1 g2 hb hb' l0 (row_ints hc) (row_ints hc')
  · exact tollOrders_out a a' _ cap _ cap' q w h1 h2 g1 g2 ho

end Go.Proofs.Ytpfjepmdnhmnaaa
