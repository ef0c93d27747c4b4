/- Regions that draw their order, in which values are worked out by reads and by calls that leave all old memory alone, and in which variables are made and written behind: one walk of the text's order serves every order for the first part. Nothing here speaks of a program. Each theorem names its own conditions. -/
import Derived.Deep.Quiet
import Derived.OrdersHeld
import Derived.Deep.RegionHeld
import Derived.ChangeKeysEq
import Derived.Test.YtjnnhkodkbhbbaaArrKit
namespace Go.Proofs.Ytjnnhkodkbhbbaa
open Go.RowKit
set_option linter.unusedVariables false

/-- w' is w with more behind it: no block of w has turned. -/
def Ext (w w' : World) : Prop := Below w.heap.size w w'
theorem Ext.refl (w : World) : Ext w w := Below.refl _ w
theorem Ext.trans {a b c : World} (h : Ext a b) (g : Ext b c) : Ext a c := Below.trans h (Below.mono g h.size)
theorem Ext.drew (w : World) : Ext w w.drew := (Below.refl _ w).drew
theorem Ext.alloc (w : World) (o : Obj) : Ext w (w.alloc o) := (Below.refl _ w).alloc (Nat.le_refl _) o

section
variable {P : Program} {ops : Array Oper} {Q : Exit → Act → World → Prop} {md : Region.Mode} {t : Nat}

/-- The first t operations have come up. -/
def doneB (t : Nat) (listed : Array Bool) : Bool := (List.range t).all fun k => listed.getD k true

/-- Whatever order is picked from here on, in whatever longer world; as long as one of the first t operations is owed, each one leaves old memory alone. -/
def wpAnyB (P : Program) (md : Region.Mode) (ops : Array Oper) (Q : Exit → Act → World → Prop) (t : Nat) : Nat → Array Bool → Act → World → Prop
  | 0, listed, a, w => ∀ w', Ext w w' → wpAny P md ops Q 0 listed a w'
  | fuel + 1, listed, a, w =>
    (doneB t listed = true → ∀ w', Ext w w' → wpAny P md ops Q (fuel + 1) listed a w') ∧
    (doneB t listed = false → ∀ w', Ext w w' → Region.ready md ops listed ≠ [] ∧
      ∀ i ∈ Region.ready md ops listed, wpOp P ops Q i (fun a' w'' => Ext w' w'' ∧ wpAnyB P md ops Q t fuel (listed.setIfInBounds i true) a' w'') a w')

theorem wpAnyB_up : ∀ {fuel : Nat} {listed : Array Bool} {a : Act} {w w' : World}, Ext w w' → wpAnyB P md ops Q t fuel listed a w → wpAnyB P md ops Q t fuel listed a w'
  | 0, _, _, _, _, hw, h => fun w2 h2 => h w2 (hw.trans h2)
  | _ + 1, _, _, _, _, hw, h => ⟨fun hd w2 h2 => h.1 hd w2 (hw.trans h2), fun hd w2 h2 => h.2 hd w2 (hw.trans h2)⟩

theorem wpAny_of_B : ∀ (fuel : Nat) {listed : Array Bool} {a : Act} {w : World}, wpAnyB P md ops Q t fuel listed a w → wpAny P md ops Q fuel listed a w
  | 0, _, _, w, h => h w (Ext.refl w)
  | fuel + 1, listed, _, w, h => by
    cases hd : doneB t listed with
    | true => exact h.1 hd w (Ext.refl w)
    | false =>
      obtain ⟨h1, h2⟩ := h.2 hd w (Ext.refl w)
      exact ⟨fun h0 => absurd h0 h1, fun i hi => wpOp_mono (fun a' w' h' => wpAny_of_B fuel h'.2) (h2 i hi)⟩

/-- In this state, in every world of the class, the operation leaves v in its temporary, and old memory alone. -/
def YieldsB (P : Program) (ops : Array Oper) (C : World → Prop) (o : Oper) (v : Value) (a : Act) : Prop :=
  (Region.wanted o (yielded ops a.tmps) = true ∧ ∀ w, C w → o.quietAt P a (Ext w) w v) ∨ (Region.wanted o (yielded ops a.tmps) = false ∧ v = undef)

variable {C : World → Prop}

theorem YieldsB.of_same {o : Oper} {v : Value} {a a' : Act} (hy : YieldsB P ops C o v a) (he : execOp a'.eval o = execOp a.eval o)
    (hw : Region.wanted o (yielded ops a'.tmps) = Region.wanted o (yielded ops a.tmps)) : YieldsB P ops C o v a' := by
  rcases hy with ⟨h1, h2⟩ | ⟨h1, h2⟩
  · exact Or.inl ⟨hw.trans h1, fun w hc => by have := h2 w hc; unfold Oper.quietAt at *; rwa [he]⟩
  · exact Or.inr ⟨hw.trans h1, h2⟩

theorem YieldsB.wpOp {i : Nat} {o : Oper} {v : Value} {a : Act} (hi : ops[i]? = some o) (hy : YieldsB P ops C o v a) {K : Act → World → Prop} {w : World} (hC : C w)
    (h : ∀ w', Ext w w' → K (a.put o.dst v) w') : wpOp P ops Q i K a w := by
  unfold Go.wpOp
  simp only [hi]
  rcases hy with ⟨hw, hv⟩ | ⟨hw, rfl⟩
  · rw [if_pos hw]
    left
    have h3 := hv w hC
    unfold Oper.quietAt at h3
    unfold Oper.wp
    generalize (execOp a.eval o).run P w = r at *
    cases r with
    | halt x w' => exact h3.elim
    | ok n w' =>
      cases n <;> simp only [Oper.quietUpon] at h3 <;> simp only [Oper.upon]
      case value u =>
        obtain ⟨e1, e2⟩ := h3
        rw [e1, e2]
        exact h _ (Ext.refl _)
      case skip =>
        obtain ⟨e1, e2⟩ := h3
        rw [e1, ← e2]
        exact h _ (Ext.refl _)
      case enter f args =>
        obtain ⟨e1, hc⟩ := h3
        rw [e1]
        exact hc.mono fun e w'' ⟨he, hw''⟩ => by subst he; exact h _ hw''
  · rw [if_neg (by simp [hw])]
    exact h _ (Ext.refl _)

/-- What an operation's own put does not touch is kept over it. -/
theorem wpOp_keep {j : Nat} {oj : Oper} {Y : Act → Prop} {K : Act → World → Prop} {a : Act} {w : World} (hj : ops[j]? = some oj) (hput : ∀ u, Y (a.put oj.dst u))
    (hdef : ∀ d, Y ({ a with defers := d :: a.defers }.put oj.dst undef)) (h : wpOp P ops Q j K a w) : wpOp P ops Q j (fun a' w' => Y a' ∧ K a' w') a w := by
  unfold wpOp at *
  simp only [hj] at *
  split
  · rename_i hw
    simp only [hw, if_true] at h
    rcases h with h | h
    · left
      unfold Oper.wp at *
      generalize (execOp a.eval oj).run P w = r at *
      cases r with
      | halt x w' => cases x <;> simp only [Oper.upon] at h ⊢ <;> exact h
      | ok n w' =>
        cases n <;> simp only [Oper.upon] at h ⊢
        case value u => exact ⟨hput u, h⟩
        case skip => exact ⟨hput _, h⟩
        case defer d => exact ⟨hdef d, h⟩
        case enter f args =>
          refine Calls.mono h fun e w'' he => ?_
          cases e with
          | returned u => exact ⟨hput u, he⟩
          | panicked c => exact he
          | outgrown => exact he
        case row r args2 => exact Rows.mono h fun u w'' he => ⟨hput u, he⟩
    · exact Or.inr h
  · rename_i hw
    simp only [hw] at h
    exact ⟨hput _, h⟩

/-- One operation that leaves old memory alone may be taken first. -/
theorem wpAnyB_first {i : Nat} {oi : Oper} {v : Value} (hi : ops[i]? = some oi) (hit : i < t) (hsel : ∀ (j : Nat) (o : Oper) cs b, ops[j]? = some o → o.op ≠ .select cs b)
    (hQ : ∀ d v c a w, Q (.panic c) (Act.put a d v) w → Q (.panic c) a w) (cl : Array Bool) (hsz : cl.size = ops.size) (hcl : ∀ j ∈ Region.ready md ops cl, j = i) (htail : ∀ k, t ≤ k → cl.getD k false = false) :
    ∀ (fuel : Nat) (listed : Array Bool) (a : Act) (w : World),
      (∀ j oj, ops[j]? = some oj → j ≠ i → listed.getD j true = false → (∀ e ∈ oj.after, Region.binds md e = true → e.on ≠ i) → oi.apart ops oj = true) →
      i ∈ Region.ready md ops listed → (∀ k, listed.getD k false = true → cl.getD k false = true) → YieldsB P ops C oi v a → (∀ w', Ext w w' → C w') →
      wpAnyB P md ops Q t fuel (listed.setIfInBounds i true) (a.put oi.dst v) w → wpAnyB P md ops Q t (fuel + 1) listed a w := by
  intro fuel
  induction fuel with
  | zero =>
    intro listed a w hfree hr hsub hy hC H
    have hun := (mem_ready.1 hr).1
    have hnd : doneB t listed = false := by
      unfold doneB
      rw [List.all_eq_false]
      exact ⟨i, List.mem_range.2 hit, by rw [hun]; simp⟩
    refine ⟨fun h => (by rw [hnd] at h; cases h), fun _ w' hw' => ⟨List.ne_nil_of_mem hr, fun j hj => ?_⟩⟩
    by_cases hji : j = i
    · subst hji
      exact hy.wpOp hi (hC w' hw') (fun w'' h'' => ⟨h'', wpAnyB_up (hw'.trans h'') H⟩)
    · have h0 := (H w' hw').1
      have := ready_mono hj hji
      rw [h0] at this
      cases this
  | succ fuel ih =>
    intro listed a w hfree hr hsub hy hC H
    have hun := (mem_ready.1 hr).1
    have hnd : doneB t listed = false := by
      unfold doneB
      rw [List.all_eq_false]
      exact ⟨i, List.mem_range.2 hit, by rw [hun]; simp⟩
    refine ⟨fun h => (by rw [hnd] at h; cases h), fun _ w' hw' => ⟨List.ne_nil_of_mem hr, fun j hj => ?_⟩⟩
    by_cases hji : j = i
    · subst hji
      exact hy.wpOp hi (hC w' hw') (fun w'' h'' => ⟨h'', wpAnyB_up (hw'.trans h'') H⟩)
    · obtain ⟨hjun, oj, hoj, hall⟩ := mem_ready.1 hj
      have hjlt : j < ops.size := (Array.getElem?_eq_some_iff.1 hoj).1
      have hjcl : cl.getD j false = true := by
        cases hc : cl.getD j false with
        | true => rfl
        | false =>
          refine absurd (hcl j (mem_ready.2 ⟨?_, oj, hoj, fun e he hb => hsub _ (hall e he hb)⟩)) hji
          have hjs : j < cl.size := by omega
          simpa [Array.getD, hjs] using hc
      have hjt : j < t := by
        rcases Nat.lt_or_ge j t with h | h
        · exact h
        · rw [htail j h] at hjcl; cases hjcl
      cases hd : doneB t (listed.setIfInBounds i true) with
      | true =>
        unfold doneB at hd
        have := (List.all_eq_true.1 hd) j (List.mem_range.2 hjt)
        rw [getD_set_ne true (Ne.symm hji), hjun] at this
        cases this
      | false =>
        have h1 := ((H.2 hd) w' hw').2 j (ready_mono hj hji)
        have hnot : ∀ e ∈ oj.after, Region.binds md e = true → e.on ≠ i := fun e he hb heq => by
          have h2 := hall e he hb
          rw [heq] at h2
          rcases Nat.lt_or_ge i listed.size with h' | h'
          · simp [h'] at hun h2; rw [hun] at h2; cases h2
          · simp [Array.getElem?_eq_none h'] at h2
        have hap := hfree j oj hoj hji hjun hnot
        obtain ⟨a1, a2, a3⟩ := Oper.apart_spec hap
        have hyf : YieldsIf P ops (fun _ => False) oi v a := hy.imp (fun h => ⟨h.1, fun _ h => h.elim⟩) id
        have h2 := wpOp_putIf hoj hap (fun cs b => hsel i oi cs b hi) (fun cs b => hsel j oj cs b hoj) (fun c a w h => hQ _ _ c a w h) hyf h1
        have keep : ∀ u, YieldsB P ops C oi v (a.put oj.dst u) := fun u => hy.of_same (execOp_put oi (fun cs b => hsel i oi cs b hi) a oj.dst u a3) (wanted_put oi a oj.dst u a3)
        have keepD : ∀ d, YieldsB P ops C oi v ({ a with defers := d :: a.defers }.put oj.dst undef) := fun d =>
          (hy.of_same (a' := { a with defers := d :: a.defers }) rfl rfl).of_same (execOp_put oi (fun cs b => hsel i oi cs b hi) _ oj.dst undef a3) (wanted_put oi _ oj.dst undef a3)
        have h3 := wpOp_keep (Y := YieldsB P ops C oi v) hoj keep keepD h2
        refine wpOp_mono (fun a' w'' h4 => ⟨h4.2.2.1, ih (listed.setIfInBounds j true) a' w'' ?_ (ready_mono hr (Ne.symm hji)) ?_ h4.1 (fun w3 h5 => hC w3 ((hw'.trans h4.2.2.1).trans h5)) ?_⟩) h3
        · intro k ok hk hki hkun hkno
          refine hfree k ok hk hki ?_ hkno
          by_cases hjk : j = k
          · subst hjk; exact hjun
          · rwa [getD_set_ne true hjk] at hkun
        · intro k hk
          by_cases hjk : j = k
          · subst hjk; exact hjcl
          · rw [getD_set_ne false hjk] at hk
            exact hsub k hk
        · rw [Array.setIfInBounds_comm _ _ hji]
          exact h4.2.2.2

/-- All that may come up while number i is owed, from what is listed on, in one pass. -/
def closeB (md : Region.Mode) (ops : Array Oper) (i : Nat) (listed : Array Bool) : Array Bool :=
  (List.range ops.size).foldl (fun c j => if j == i || c.getD j true then c else if ((ops[j]?).map (·.after.all fun e => !Region.binds md e || c.getD e.on false)).getD false then c.setIfInBounds j true else c) listed

/-- What is asked of a region, for taking its operations k, k + 1, .. first. -/
def detB (md : Region.Mode) (ops : Array Oper) (t : Nat) : Nat → Nat → Array Bool → Bool
  | 0, _, _ => true
  | d + 1, k, listed =>
    let cl := closeB md ops k listed
    (Region.ready md ops listed).contains k && Region.free md ops listed k && Nat.blt k t && (cl.size == ops.size) && (Region.ready md ops cl).all (· == k) && (List.range cl.size).all (fun j => Nat.blt j t || !cl.getD j false) && (List.range listed.size).all (fun j => !listed.getD j false || cl.getD j false) &&
      detB md ops t d (k + 1) (listed.setIfInBounds k true)

/-- The first part, in the text's order. -/
def wpDet (P : Program) (ops : Array Oper) (C : World → Prop) (Q : Act → Prop) : List Oper → Act → Prop
  | [], a => Q a
  | o :: rest, a => (Region.wanted o (yielded ops a.tmps) = true → ∃ v, (∀ w, C w → o.quietAt P a (Ext w) w v) ∧ wpDet P ops C Q rest (a.put o.dst v)) ∧ (Region.wanted o (yielded ops a.tmps) = false → wpDet P ops C Q rest (a.put o.dst undef))

/-- What is listed behind it. -/
def listN : Nat → Nat → Array Bool → Array Bool
  | 0, _, l => l
  | d + 1, k, l => listN d (k + 1) (l.setIfInBounds k true)

theorem wpAnyB_lex (hs : Region.noSelect ops = true) (hQ : ∀ d v c a w, Q (.panic c) (Act.put a d v) w → Q (.panic c) a w) (m : Nat) : ∀ (l : List Oper) (k : Nat) (listed : Array Bool) (a : Act) (w : World), (∀ j, j < l.length → l[j]? = ops[k + j]?) →
    detB md ops t l.length k listed = true → (∀ w', Ext w w' → C w') → wpDet P ops C (fun a' => wpAnyB P md ops Q t m (listN l.length k listed) a' w) l a → wpAnyB P md ops Q t (l.length + m) listed a w
  | [], _, _, _, _, _, _, _, h => by simpa [wpDet, listN] using h
  | o :: l, k, listed, a, w, hl, hB, hC, h => by
    have h0 : ops[k]? = some o := by simpa using (hl 0 (by simp)).symm
    simp only [List.length_cons, detB, Bool.and_eq_true] at hB
    obtain ⟨⟨⟨⟨⟨⟨⟨b1, b2⟩, b3⟩, b4⟩, b5⟩, b6⟩, b7⟩, b8⟩ := hB
    have hy : ∃ v, YieldsB P ops C o v a ∧ wpDet P ops C (fun a' => wpAnyB P md ops Q t m (listN l.length (k + 1) (listed.setIfInBounds k true)) a' w) l (a.put o.dst v) := by
      cases hw : Region.wanted o (yielded ops a.tmps) with
      | true =>
        obtain ⟨v, h1, h2⟩ := h.1 hw
        exact ⟨v, Or.inl ⟨hw, h1⟩, h2⟩
      | false => exact ⟨undef, Or.inr ⟨hw, rfl⟩, h.2 hw⟩
    obtain ⟨v, hy, hK⟩ := hy
    rw [List.length_cons, Nat.add_right_comm]
    have hcs : (closeB md ops k listed).size = ops.size := by simpa using b4
    refine wpAnyB_first h0 (by simpa using b3) (Region.noSelect_spec hs) hQ (closeB md ops k listed) hcs (fun j hj => by simpa using (List.all_eq_true.1 b5) j hj) (fun j hj => ?_) (l.length + m) listed a w (Region.free_spec h0 b2) (by simpa using b1) (fun j hj => ?_) hy hC
      (wpAnyB_lex hs hQ m l (k + 1) _ _ w (fun j hj => by have := hl (j + 1) (by simp; omega); simpa [Nat.add_assoc, Nat.add_comm 1 j] using this) b8 hC hK)
    · rcases Nat.lt_or_ge j (closeB md ops k listed).size with h' | h'
      · have := (List.all_eq_true.1 b6) j (List.mem_range.2 h')
        simp at this
        rcases this with h2 | h2
        · omega
        · simpa [Array.getD, h'] using h2
      · simp [Array.getD, Nat.not_lt.2 h']
    · rcases Nat.lt_or_ge j listed.size with h' | h'
      · have := (List.all_eq_true.1 b7) j (List.mem_range.2 h')
        simp only [Bool.or_eq_true, Bool.not_eq_true'] at this
        rcases this with h2 | h2
        · rw [hj] at h2; cases h2
        · exact h2
      · simp [Array.getD, Nat.not_lt.2 h'] at hj

/-- THE REGION. -/
theorem wp_region_det {id : Nat} {a : Act} {w : World} (l r : List Oper) (t : Nat) (hm : P.follows .mixedOrders = true) (hs : Region.noSelect (l ++ r).toArray = true)
    (hQ : ∀ d v c a w, Q (.panic c) (Act.put a d v) w → Q (.panic c) a w) (hB : detB .any (l ++ r).toArray t l.length 0 (Array.replicate (l ++ r).length false) = true)
    (h : wpDet P (l ++ r).toArray (Ext w) (fun a' => wpAnyB P .any (l ++ r).toArray Q t r.length (listN l.length 0 (Array.replicate (l ++ r).length false)) a' w.drew) l a) : (Code.region id (l ++ r).toArray true).wp P Q a w := by
  refine wp_region_any hm (wpAny_of_B (t := t) _ ?_)
  have := wpAnyB_lex (C := Ext w) (md := .any) (w := w.drew) hs hQ r.length l 0 (Array.replicate (l ++ r).length false) a (fun j hj => by simp [List.getElem?_append_left hj]) hB (fun w' hw' => (Ext.drew w).trans hw') h
  simpa using this
/-- THE REGION, its operations as they stand; d of them are taken in the text's order, m are left. -/
theorem wp_region_from {id : Nat} {a : Act} {w : World} (d m t : Nat) (hdm : ops.size = d + m) (hm : P.follows .mixedOrders = true) (hs : Region.noSelect ops = true)
    (hQ : ∀ d v c a w, Q (.panic c) (Act.put a d v) w → Q (.panic c) a w) (hB : detB .any ops t d 0 (Array.replicate ops.size false) = true)
    (h : wpDet P ops (Ext w) (fun a' => wpAnyB P .any ops Q t m (listN d 0 (Array.replicate ops.size false)) a' w.drew) (ops.toList.take d) a) : (Code.region id ops true).wp P Q a w := by
  have hl : (ops.toList.take d).length = d := by simp; omega
  refine wp_region_any hm (wpAny_of_B (t := t) _ ?_)
  have := wpAnyB_lex (C := Ext w) (md := .any) (w := w.drew) hs hQ m (ops.toList.take d) 0 (Array.replicate ops.size false) a (fun j hj => by
    rw [hl] at hj
    rw [List.getElem?_take_of_lt hj, Nat.zero_add, Array.getElem?_toList]) (by rw [hl]; exact hB) (fun w' hw' => (Ext.drew w).trans hw') (by rw [hl]; exact h)
  rw [hl] at this
  rw [hdm] at this ⊢
  exact this
end

end Go.Proofs.Ytjnnhkodkbhbbaa
