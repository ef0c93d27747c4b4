/- The walks of package pack's cursor, and that it keeps the contracts. Each theorem names its own conditions. -/
import Derived.Test.YtcgppiniknnjpaaPackCode
import Derived.WalkMore
import Derived.ScopeJumps
import Derived.StillTailTactics
namespace Go.Proofs.Ytcgppiniknnjpaa
open Go.RowKit
set_option linter.unusedVariables false

/-- A scope whose label lies ahead: where the run jumps, what stands behind the label is walked on. -/
theorem wp_scope_fwd {P : Program} {a : Act} {w : World} {Q : Exit → Act → World → Prop} {c rest : Code} (l : Nat) (hf : findLabel c l = some rest) (h : c.wp P (Exit.jump l (fun a w => rest.wp P (Exit.noGoto Q) a w) Q) a w) : (Code.scope c).wp P Q a w :=
  wp_scope_jumps l _ (fun _ _ => 0) hf h (fun a w hJ => Code.wp_mono (fun e a w h => by cases e <;> first | exact h | exact absurd h (by simp [Exit.noGoto])) hJ)

theorem or_byteU (m bt : Nat) (hm : m < 72057594037927936) (hb : bt < 256) : bits .or .u64 (IntKind.u64.wrap ((m : Int) * 256)) (IntKind.u64.wrap (bt : Int)) = ((m * 256 + bt : Nat) : Int) := by
  have e1 : (BitVec.ofInt 64 (IntKind.u64.wrap ((m : Int) * 256))).toNat = m * 256 := by
    rw [BitVec.toNat_ofInt, IntKind.wrap_u64]
    omega
  have e2 : (BitVec.ofInt 64 (IntKind.u64.wrap (bt : Int))).toNat = bt := by
    rw [BitVec.toNat_ofInt, IntKind.wrap_u64]
    omega
  show IntKind.u64.wrap ((BitVec.ofInt 64 (IntKind.u64.wrap ((m : Int) * 256)) ||| BitVec.ofInt 64 (IntKind.u64.wrap (bt : Int))).toNat : Nat) = _
  rw [BitVec.toNat_or, e1, e2]
  have := Nat.two_pow_add_eq_or_of_lt (i := 8) (b := bt) (by simpa using hb) m
  rw [Nat.mul_comm m 256]
  have h2 : 256 * m ||| bt = 256 * m + bt := this.symm
  rw [h2, IntKind.wrap_u64]
  omega

set_option maxHeartbeats 1000000 in
theorem number_any {v : Value} {l : List UInt8} (w : World) (hv : Row1 w v (l.map bval)) (hl : 8 ≤ l.length) :
    Calls Try.prog 29 #[v] w fun e w' => e = .returned (.int .i64 (decI (l.take 8))) ∧ w = w' := by
  obtain ⟨a, cap, rfl, h1, h2, h3, h4⟩ := hv
  rw [List.length_map] at h1 ⊢
  unfold maxLen at h2
  obtain ⟨b, off, rfl, hbw, hc⟩ := h4 (by intro e; have := List.map_eq_nil_iff.1 e; subst this; simp at hl)
  have hcell : ∀ k, k < 8 → w.cell? ⟨b, off + k, none⟩ = some (.int .u8 (l.getD k 0).toNat) := by
    intro k hk
    rw [hc k (by simp; omega), List.getElem?_map, List.getElem?_eq_getElem (by omega)]
    simp [List.getD, show k < l.length from by omega, bval]
  have HC := Lib.hid hcell
  have HL := Lib.hid hl
  have hcap8 : 8 ≤ cap := by omega
  clear h3 h4 hc hcell hl
  go_enter Try.func29, Try.ntmps29
  go_wp2_with fail
  go_loop [3, 9] (fun s i => ∃ k : Nat, k ≤ 8 ∧ i = .int .i64 k ∧ s = .int .u64 (accN (l.take k))) (fun _ i => 8 - (intOf i).toNat)
  case atStart => exact ⟨0, by omega, rfl, by rfl⟩
  case round =>
    obtain ⟨k, hk, rfl, rfl⟩ := hrel
    by_cases hlt : k < 8
    · have hl := HL.out
      have c1 := HC.out k hlt
      have i0' : (0 : Int) ≤ (k : Int) := Int.natCast_nonneg _
      have i1 : (k : Int) < 8 := by omega
      have hm := accN_lt (l.take k)
      have hm2 : 256 ^ (l.take k).length ≤ 256 ^ 7 := Nat.pow_le_pow_right (by omega) (by simp; omega)
      have hm3 : (256 : Nat) ^ 7 = 72057594037927936 := by decide
      have hbt := (l.getD k 0).toNat_lt
      have hnext : bits .or .u64 (IntKind.u64.wrap ((accN (l.take k) : Int) * 256)) (IntKind.u64.wrap ((l.getD k 0).toNat : Int)) = (accN (l.take (k + 1)) : Int) := by
        rw [or_byteU _ _ (by omega) (by simpa using hbt), List.take_succ_eq_append_getElem (by omega), accN_snoc]
        simp [List.getD, show k < l.length from by omega]
      have HN := Lib.hid hnext
      clear hm hm2 hm3 hbt hnext
      generalize (l.getD k 0).toNat = bt at *
      generalize accN (l.take k) = m at *
      go_wp2_with fail
      go_round
      case rel => exact ⟨k + 1, by omega, by go_num, by rw [HN.out]⟩
      case measure => simp [intOf]; omega
    · have hk' : k = 8 := by omega
      subst hk'
      go_wp2_with fail
      go_ret
      exact ⟨by unfold decI; rw [i64wrap]; rfl, rfl⟩

/-- Package pack's cursor in block c: what is left of l from p on, and whether it is bad. -/
def PCur (w : World) (B c : Nat) (l : List UInt8) (p : Nat) (bad : Bool) : Prop :=
  ∃ v, Blk w c [v, .bool bad] 47 ∧ c < B ∧ B ≤ w.heap.size ∧ p ≤ l.length ∧ l.length ≤ 1099511627776 ∧ (∀ k, v.ownBlock = some k → k < B ∧ k ≠ c) ∧
    (bad = true → v = .slice none 0 0) ∧ (bad = false → Row1 w v ((l.drop p).map bval))

theorem PCur.keep {w w' : World} {B c : Nat} {l : List UInt8} {p : Nat} {bad : Bool} (h : PCur w B c l p bad) (hh : ∀ k, k < B → w'.heap[k]? = w.heap[k]?) (hs : w.heap.size ≤ w'.heap.size) : PCur w' B c l p bad := by
  obtain ⟨v, h1, h2, h3, h4, h5, h6, h7, h8⟩ := h
  exact ⟨v, h1.same (hh c h2), h2, Nat.le_trans h3 hs, h4, h5, h6, h7, fun e => (h8 e).same hs fun p hp _ => World.cell?_of_block (hh p.block (h6 p.block hp).1)⟩

theorem Row1.setFar {w : World} {v : Value} {vs : List Value} {c i : Nat} {u : Value} (h : Row1 w v vs) (hne : v.ownBlock ≠ some c) : Row1 (w.setCell ⟨c, i, none⟩ u) v vs := h.store hne u

theorem PCur.open (w : World) {B c : Nat} {l : List UInt8} {p : Nat} {bad : Bool} (h : PCur w B c l p bad) : ∃ a len cap, Blk w c [.slice a len cap, .bool bad] 47 ∧ c < B ∧ B ≤ w.heap.size ∧ p ≤ l.length ∧ l.length ≤ 1099511627776 ∧ (∀ k, (Value.slice a len cap).ownBlock = some k → k < B ∧ k ≠ c) ∧
    (bad = true → a = none ∧ len = 0 ∧ cap = 0) ∧ (bad = false → Row1 w (.slice a len cap) ((l.drop p).map bval) ∧ len = l.length - p ∧ len ≤ cap ∧ cap ≤ maxLen ∧ (a = none → cap = 0)) := by
  obtain ⟨v, h1, h2, h3, h4, h5, h6, h7, h8⟩ := h
  cases bad with
  | true =>
    have := h7 rfl
    subst this
    exact ⟨none, 0, 0, h1, h2, h3, h4, h5, h6, (fun _ => ⟨rfl, rfl, rfl⟩), (fun e => by cases e)⟩
  | false =>
    have hr := h8 rfl
    obtain ⟨a, cap, rfl, g1, g2, g3, g4⟩ := id hr
    exact ⟨a, _, cap, h1, h2, h3, h4, h5, h6, (fun e => by cases e), (fun _ => ⟨hr, by simp, g1, g2, g3⟩)⟩

/-- The cursor, made bad. -/
theorem PCur.spoilt {w w' : World} {B c : Nat} {l : List UInt8} {p : Nat} {bad : Bool} (h : PCur w B c l p bad) (hb : Blk w' c [.slice none 0 0, .bool true] 47) (hs : w.heap.size ≤ w'.heap.size) : PCur w' B c l p true := by
  obtain ⟨v, h1, h2, h3, h4, h5, h6, h7, h8⟩ := h
  exact ⟨_, hb, h2, Nat.le_trans h3 hs, h4, h5, (fun k hk => by simp [Value.ownBlock] at hk), (fun _ => rfl), (fun e => by cases e)⟩

theorem Row1.head {w : World} {a : Option Addr} {len cap : Nat} {vs : List Value} (h : Row1 w (.slice a len cap) vs) (n : Nat) (hn : n ≤ vs.length) : Row1 w (.slice a n cap) (vs.take n) := by
  obtain ⟨a', cap', e, h1, h2, h3, h4⟩ := h
  cases e
  have hl : (vs.take n).length = n := by simp; omega
  refine ⟨a, cap, by rw [hl], by rw [hl]; omega, h2, h3, fun hne => ?_⟩
  have hv : vs ≠ [] := by intro e; subst e; simp at hne
  obtain ⟨b, off, e, hb, hc⟩ := h4 hv
  refine ⟨b, off, e, hb, fun k hk => ?_⟩
  rw [hl] at hk
  rw [hc k (by omega), List.getElem?_take, if_pos hk]

/-- What is left of a slice from n on, as Go cuts it. -/
theorem Row1.rest {w : World} {ad : Addr} {len cap : Nat} {vs : List Value} (h : Row1 w (.slice (some ad) len cap) vs) (n : Nat) (hn : n ≤ vs.length) : Row1 w (.slice (some (ad.add n)) (len - n) (cap - n)) (vs.drop n) := by
  obtain ⟨a', cap', e, h1, h2, h3, h4⟩ := id h
  cases e
  have := h.sliced n (vs.length - n) (by omega)
  rwa [List.take_of_length_le (by simp)] at this

theorem own_cut (ad : Addr) (n len cap : Nat) : (Value.slice (some (ad.add n)) (len - n) (cap - n)).ownBlock = (Value.slice (some ad) len cap).ownBlock := by
  simp only [Value.ownBlock, Addr.add]
  split <;> rfl

/-- The cursor, moved on. -/
theorem PCur.moved {w w' : World} {B c : Nat} {l : List UInt8} {p n : Nat} {v : Value} (h : PCur w B c l p false) (hb : Blk w' c [v, .bool false] 47) (hs : w.heap.size ≤ w'.heap.size) (ho : ∀ k, v.ownBlock = some k → k < B ∧ k ≠ c) (hr : Row1 w' v (((l.drop p).drop n).map bval)) (hn : p + n ≤ l.length) : PCur w' B c l (p + n) false := by
  obtain ⟨v0, h1, h2, h3, h4, h5, h6, h7, h8⟩ := h
  refine ⟨v, hb, h2, Nat.le_trans h3 hs, hn, h5, ho, (fun e => by cases e), (fun _ => ?_)⟩
  rwa [List.drop_drop] at hr

set_option maxHeartbeats 1000000 in
/-- read, of what there is not. -/
theorem pread_no (w : World) (B c : Nat) (l : List UInt8) (p : Nat) (bad : Bool) (n : Int) (h : PCur w B c l p bad) (hn : bad = true ∨ n < 0 ∨ (l.length : Int) - p < n) :
    Calls Try.prog 28 #[.pointer (some ⟨c, 0, none⟩), .int .i64 n, .bool false] w fun e w' => e = .returned (.slice none 0 0) ∧ PCur w' B c l p true ∧ w.grownBy w' (some c) := by
  obtain ⟨a, len, cap, g1, g2, g3, g4, g5, g6, g7, g8⟩ := h.open
  have c0 := g1.cell 0
  have c1 := g1.cell 1
  have f0 := g1.free 0
  have f1 := g1.free 1
  simp only [List.getElem?_cons_zero, List.getElem?_cons_succ] at c0 c1
  have HP := Lib.hid h
  have HG := Lib.hid g1
  cases bad with
  | true =>
    clear h g1 g6 g7 hn g8
    go_enter Try.func28, Try.ntmps28
    go_wp2_with fail
    refine wp_scope_fwd 0 (by rfl) ?_
    go_wp2_with fail
    go_step3
    refine ⟨rfl, ?_⟩
    go_wp2_with fail
    rw [Exit.noGoto_ret]
    go_ret
    exact ⟨rfl, HP.out.spoilt ((HG.out.set 0 (.slice none 0 0)).set 1 (.bool true)) (by simp), grownBy_set (grownBy_set (grownBy_refl w _) 0 _) 1 _⟩
  | false =>
    obtain ⟨g9, g10, g11, g12, g13⟩ := g8 rfl
    unfold maxLen at g12
    have hlenI : (len : Int) = (l.length : Int) - p := by omega
    by_cases hneg : n < 0
    · clear h g1 g6 g7 hn g8 g9 g10 g13 hlenI
      go_enter Try.func28, Try.ntmps28
      go_wp2_with fail
      refine wp_scope_fwd 0 (by rfl) ?_
      go_wp2_with fail
      go_step3
      refine ⟨rfl, ?_⟩
      go_wp2_with fail
      rw [Exit.noGoto_ret]
      go_ret
      exact ⟨rfl, HP.out.spoilt ((HG.out.set 0 (.slice none 0 0)).set 1 (.bool true)) (by simp), grownBy_set (grownBy_set (grownBy_refl w _) 0 _) 1 _⟩
    · have h2 : (len : Int) < n := by
        rcases hn with h | h | h
        · cases h
        · exact absurd h hneg
        · omega
      have hd : decide (n < 0) = false := decide_eq_false hneg
      clear h g1 g6 g7 hn g8 g9 g10 g13 hlenI hneg
      go_enter Try.func28, Try.ntmps28
      go_wp2_with fail
      refine wp_scope_fwd 0 (by rfl) ?_
      go_wp2_with fail
      go_step3
      refine ⟨rfl, ?_⟩
      go_wp2_with fail
      rw [Exit.noGoto_ret]
      go_ret
      exact ⟨rfl, HP.out.spoilt ((HG.out.set 0 (.slice none 0 0)).set 1 (.bool true)) (by simp), grownBy_set (grownBy_set (grownBy_refl w _) 0 _) 1 _⟩

set_option maxHeartbeats 1000000 in
/-- read, of what there is. -/
theorem pread_yes (w : World) (B c : Nat) (l : List UInt8) (p n : Nat) (h : PCur w B c l p false) (hn : p + n ≤ l.length) :
    Calls Try.prog 28 #[.pointer (some ⟨c, 0, none⟩), .int .i64 n, .bool false] w fun e w' => ∃ v, e = .returned v ∧ Row1 w' v (((l.drop p).take n).map bval) ∧ (∀ k, v.ownBlock = some k → k < B ∧ k ≠ c) ∧ PCur w' B c l (p + n) false ∧ w.grownBy w' (some c) := by
  obtain ⟨a, len, cap, g1, g2, g3, g4, g5, g6, g7, g8⟩ := h.open
  have c0 := g1.cell 0
  have c1 := g1.cell 1
  have f0 := g1.free 0
  have f1 := g1.free 1
  simp only [List.getElem?_cons_zero, List.getElem?_cons_succ] at c0 c1
  have HP := Lib.hid h
  have HG := Lib.hid g1
  obtain ⟨g9, g10, g11, g12, g13⟩ := g8 rfl
  unfold maxLen at g12
  have hnl : n ≤ len := by omega
  have hnc : n ≤ cap := by omega
  have hd : decide ((n : Int) < 0) = false := decide_eq_false (by omega)
  have hd2 : decide ((len : Int) < (n : Int)) = false := decide_eq_false (by omega)
  have hn0 : (0 : Int) ≤ (n : Int) := Int.natCast_nonneg _
  have hml : n ≤ ((l.drop p).map bval).length := by simp; omega
  have HOWN := Lib.hid g6
  have HN := Lib.hid hn
  have HNE : Hid ((Value.slice a len cap).ownBlock ≠ some c) := Lib.hid fun e => (g6 c e).2 rfl
  have HHEAD := Lib.hid (g9.head n hml)
  rw [← List.map_take] at HHEAD
  cases a with
  | none =>
    have hc0 : cap = 0 := g13 rfl
    have hl0 : len = 0 := by omega
    have hn00 : n = 0 := by omega
    subst hc0 hl0 hn00
    have HREST : Hid (Row1 w (.slice none 0 0) (((l.drop p).drop 0).map bval)) := Lib.hid g9
    clear h g1 g6 g7 hn g8 g9 g10 g13 hml
    go_enter Try.func28, Try.ntmps28
    go_wp2_with fail
    refine wp_scope_fwd 0 (by rfl) ?_
    go_wp2_with fail
    go_region
    go_wp2_with fail
    simp only [Exit.jump]
    go_ret
    refine ⟨_, rfl, HHEAD.out.drew.setFar HNE.out, HOWN.out, HP.out.moved (n := 0) ((HG.out.drewN 1).set 0 (.slice none 0 0)) (by simp) HOWN.out (HREST.out.drew.setFar HNE.out) HN.out, grownBy_set (grownBy_drewN (grownBy_refl w _) 1) 0 _⟩
  | some ad =>
    by_cases hc : n = cap
    · subst hc
      have hln : len = n := by omega
      subst hln
      have HREST : Hid (Row1 w (.slice (some ad) 0 0) (((l.drop p).drop len).map bval)) := Lib.hid (by
        rw [List.drop_of_length_le (by simp; omega)]
        exact Row1.empty w ad 0 (Nat.zero_le _))
      clear h g1 g6 g7 hn g8 g9 g10 g13 hml
      go_enter Try.func28, Try.ntmps28
      go_wp2_with fail
      refine wp_scope_fwd 0 (by rfl) ?_
      go_wp2_with fail
      go_region
      go_wp2_with fail
      simp only [Exit.jump]
      go_ret
      refine ⟨_, rfl, HHEAD.out.drew.setFar HNE.out, HOWN.out, HP.out.moved (n := len) ((HG.out.drewN 1).set 0 _) (by simp) HOWN.out (HREST.out.drew.setFar HNE.out) HN.out, grownBy_set (grownBy_drewN (grownBy_refl w _) 1) 0 _⟩
    · have hcz : ¬ cap = n := fun e => hc e.symm
      have HREST := Lib.hid (g9.rest n hml)
      rw [← List.map_drop] at HREST
      have HOWN2 : Hid (∀ k, (Value.slice (some (ad.add n)) (len - n) (cap - n)).ownBlock = some k → k < B ∧ k ≠ c) := Lib.hid (by rw [own_cut ad n len cap]; exact g6)
      have HNE2 : Hid ((Value.slice (some (ad.add n)) (len - n) (cap - n)).ownBlock ≠ some c) := Lib.hid (by rw [own_cut ad n len cap]; exact HNE.out)
      clear h g1 g6 g7 hn g8 g9 g10 g13 hml
      go_enter Try.func28, Try.ntmps28
      go_wp2_with fail
      refine wp_scope_fwd 0 (by rfl) ?_
      go_wp2_with fail
      go_region
      go_wp2_with fail
      simp only [Exit.jump]
      go_ret
      refine ⟨_, rfl, HHEAD.out.drew.setFar HNE.out, HOWN.out, HP.out.moved (n := n) ((HG.out.drewN 1).set 0 _) (by simp) HOWN2.out (HREST.out.drew.setFar HNE2.out) HN.out, grownBy_set (grownBy_drewN (grownBy_refl w _) 1) 0 _⟩

set_option maxHeartbeats 1000000 in
/-- read, counted, where the count can't be read. -/
theorem preadc_none (w : World) (B c : Nat) (l : List UInt8) (p : Nat) (bad : Bool) (h : PCur w B c l p bad) (hn : bad = true ∨ l.length < p + 8) :
    Calls Try.prog 28 #[.pointer (some ⟨c, 0, none⟩), .int .i64 0, .bool true] w fun e w' => e = .returned (.slice none 0 0) ∧ PCur w' B c l p true ∧ w.grownBy w' (some c) := by
  obtain ⟨a, len, cap, g1, g2, g3, g4, g5, g6, g7, g8⟩ := h.open
  have c0 := g1.cell 0
  have c1 := g1.cell 1
  have f0 := g1.free 0
  have f1 := g1.free 1
  simp only [List.getElem?_cons_zero, List.getElem?_cons_succ] at c0 c1
  have HP := Lib.hid h
  have HG := Lib.hid g1
  cases bad with
  | true =>
    clear h g1 g6 g7 hn g8
    go_enter Try.func28, Try.ntmps28
    go_wp2_with fail
    refine wp_scope_fwd 0 (by rfl) ?_
    go_wp2_with fail
    go_step3
    refine ⟨rfl, ?_⟩
    go_wp2_with fail
    rw [Exit.noGoto_ret]
    go_ret
    exact ⟨rfl, HP.out.spoilt ((HG.out.set 0 (.slice none 0 0)).set 1 (.bool true)) (by simp), grownBy_set (grownBy_set (grownBy_refl w _) 0 _) 1 _⟩
  | false =>
    obtain ⟨g9, g10, g11, g12, g13⟩ := g8 rfl
    unfold maxLen at g12
    have h2 : (len : Int) < 8 := by
      rcases hn with h | h
      · cases h
      · omega
    clear h g1 g6 g7 hn g8 g9 g10 g13
    go_enter Try.func28, Try.ntmps28
    go_wp2_with fail
    refine wp_scope_fwd 0 (by rfl) ?_
    go_wp2_with fail
    go_step3
    refine ⟨rfl, ?_⟩
    go_wp2_with fail
    rw [Exit.noGoto_ret]
    go_ret
    exact ⟨rfl, HP.out.spoilt ((HG.out.set 0 (.slice none 0 0)).set 1 (.bool true)) (by simp), grownBy_set (grownBy_set (grownBy_refl w _) 0 _) 1 _⟩

/-- The cursor, made bad further on. -/
theorem PCur.spoilt2 {w w' : World} {B c q : Nat} {l : List UInt8} {p : Nat} {bad : Bool} (h : PCur w B c l p bad) (hq : q ≤ l.length) (hb : Blk w' c [.slice none 0 0, .bool true] 47) (hs : w.heap.size ≤ w'.heap.size) : PCur w' B c l q true := by
  obtain ⟨v, h1, h2, h3, h4, h5, h6, h7, h8⟩ := h
  exact ⟨_, hb, h2, Nat.le_trans h3 hs, hq, h5, (fun k hk => by simp [Value.ownBlock] at hk), (fun _ => rfl), (fun e => by cases e)⟩

set_option maxHeartbeats 2000000 in
/-- read, counted, where there are fewer bytes than the count says. -/
theorem preadc_short (w : World) (B c : Nat) (l : List UInt8) (p : Nat) (h : PCur w B c l p false) (hn : p + 8 ≤ l.length) (hd : decI ((l.drop p).take 8) < 0 ∨ (l.length : Int) - (p + 8 : Nat) < decI ((l.drop p).take 8)) :
    Calls Try.prog 28 #[.pointer (some ⟨c, 0, none⟩), .int .i64 0, .bool true] w fun e w' => e = .returned (.slice none 0 0) ∧ PCur w' B c l (p + 8) true ∧ w.grownBy w' (some c) := by
  obtain ⟨a, len, cap, g1, g2, g3, g4, g5, g6, g7, g8⟩ := h.open
  have c0 := g1.cell 0
  have c1 := g1.cell 1
  have f0 := g1.free 0
  have f1 := g1.free 1
  simp only [List.getElem?_cons_zero, List.getElem?_cons_succ] at c0 c1
  have HP := Lib.hid h
  have HG := Lib.hid g1
  obtain ⟨g9, g10, g11, g12, g13⟩ := g8 rfl
  unfold maxLen at g12
  have hnum := number_any w.drew g9.drew (by simp; omega)
  have hl8 : 8 ≤ len := by omega
  have hc8 : 8 ≤ cap := by omega
  have hl8' : (8 : Int) ≤ (len : Int) := by omega
  have hd8 : decide ((len : Int) < 8) = false := decide_eq_false (by omega)
  have hp8 := Lib.hid hn
  cases a with
  | none => have := g13 rfl; omega
  | some ad =>
    have hlen2 : (l.length : Int) - (p + 8 : Nat) = ((len - 8 : Nat) : Int) := by omega
    rw [hlen2] at hd
    generalize decI ((l.drop p).take 8) = m at *
    have HN := Lib.hid hnum
    have hd2 : m < 0 ∨ decide (m < 0) = false ∧ ((len - 8 : Nat) : Int) < m := by
      by_cases h : m < 0
      · exact Or.inl h
      · exact Or.inr ⟨decide_eq_false h, by omega⟩
    clear h g1 g6 g7 hn g8 g9 g10 g13 hnum hlen2 hd
    by_cases hc : cap = 8
    · subst hc
      rcases hd2 with hm | ⟨hm, hm2⟩
      · go_enter Try.func28, Try.ntmps28
        go_wp2_with fail
        refine wp_scope_fwd 0 (by rfl) ?_
        go_wp2_with fail
        refine wp_region_still_tail 14 (by kernel_rfl) (by kernel_rfl) ?_
        simp only [List.take_succ_cons, List.take_zero, List.drop_succ_cons, List.drop_zero]
        repeat still_step
        still_call (HN.out.mono fun _ _ h => ⟨h.1, h.2.symm⟩)
        repeat still_step
        refine wpStill_nil ?_
        change wpList _ _ _ _ _ w.drew
        go_wp2_with fail
        go_step3
        refine ⟨rfl, ?_⟩
        go_wp2_with fail
        rw [Exit.noGoto_ret]
        go_ret
        exact ⟨rfl, HP.out.spoilt2 hp8.out ((((HG.out.drewN 1).set 0 _).set 0 (.slice none 0 0)).set 1 (.bool true)) (by simp), grownBy_set (grownBy_set (grownBy_set (grownBy_drewN (grownBy_refl w _) 1) 0 _) 0 _) 1 _⟩
      · go_enter Try.func28, Try.ntmps28
        go_wp2_with fail
        refine wp_scope_fwd 0 (by rfl) ?_
        go_wp2_with fail
        refine wp_region_still_tail 14 (by kernel_rfl) (by kernel_rfl) ?_
        simp only [List.take_succ_cons, List.take_zero, List.drop_succ_cons, List.drop_zero]
        repeat still_step
        still_call (HN.out.mono fun _ _ h => ⟨h.1, h.2.symm⟩)
        repeat still_step
        refine wpStill_nil ?_
        change wpList _ _ _ _ _ w.drew
        go_wp2_with fail
        go_step3
        refine ⟨rfl, ?_⟩
        go_wp2_with fail
        rw [Exit.noGoto_ret]
        go_ret
        exact ⟨rfl, HP.out.spoilt2 hp8.out ((((HG.out.drewN 1).set 0 _).set 0 (.slice none 0 0)).set 1 (.bool true)) (by simp), grownBy_set (grownBy_set (grownBy_set (grownBy_drewN (grownBy_refl w _) 1) 0 _) 0 _) 1 _⟩
    · rcases hd2 with hm | ⟨hm, hm2⟩
      · go_enter Try.func28, Try.ntmps28
        go_wp2_with fail
        refine wp_scope_fwd 0 (by rfl) ?_
        go_wp2_with fail
        refine wp_region_still_tail 14 (by kernel_rfl) (by kernel_rfl) ?_
        simp only [List.take_succ_cons, List.take_zero, List.drop_succ_cons, List.drop_zero]
        repeat still_step
        still_call (HN.out.mono fun _ _ h => ⟨h.1, h.2.symm⟩)
        repeat still_step
        refine wpStill_nil ?_
        change wpList _ _ _ _ _ w.drew
        go_wp2_with fail
        go_step3
        refine ⟨rfl, ?_⟩
        go_wp2_with fail
        rw [Exit.noGoto_ret]
        go_ret
        exact ⟨rfl, HP.out.spoilt2 hp8.out ((((HG.out.drewN 1).set 0 _).set 0 (.slice none 0 0)).set 1 (.bool true)) (by simp), grownBy_set (grownBy_set (grownBy_set (grownBy_drewN (grownBy_refl w _) 1) 0 _) 0 _) 1 _⟩
      · go_enter Try.func28, Try.ntmps28
        go_wp2_with fail
        refine wp_scope_fwd 0 (by rfl) ?_
        go_wp2_with fail
        refine wp_region_still_tail 14 (by kernel_rfl) (by kernel_rfl) ?_
        simp only [List.take_succ_cons, List.take_zero, List.drop_succ_cons, List.drop_zero]
        repeat still_step
        still_call (HN.out.mono fun _ _ h => ⟨h.1, h.2.symm⟩)
        repeat still_step
        refine wpStill_nil ?_
        change wpList _ _ _ _ _ w.drew
        go_wp2_with fail
        go_step3
        refine ⟨rfl, ?_⟩
        go_wp2_with fail
        rw [Exit.noGoto_ret]
        go_ret
        exact ⟨rfl, HP.out.spoilt2 hp8.out ((((HG.out.drewN 1).set 0 _).set 0 (.slice none 0 0)).set 1 (.bool true)) (by simp), grownBy_set (grownBy_set (grownBy_set (grownBy_drewN (grownBy_refl w _) 1) 0 _) 0 _) 1 _⟩

end Go.Proofs.Ytcgppiniknnjpaa
