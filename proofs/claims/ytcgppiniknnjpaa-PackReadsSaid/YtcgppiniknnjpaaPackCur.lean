/- What a cursor owes (chapter 2), and the walk of the law PackBack over whatever keeps it. -/
import Derived.Test.YtcgppiniknnjpaaPackLaws
import Derived.Test.YtcgppiniknnjpaaPackMath
namespace Go.Proofs.Ytcgppiniknnjpaa
open Go.RowKit
set_option linter.unusedVariables false

/-- What package pack's cursor owes. 'PC w B c l p bad': in the world w the cursor in block c reads l, stands at p, is bad or not; all of it lies below block B. -/
structure CurSaid (PC : World → Nat → Nat → List UInt8 → Nat → Bool → Prop) : Prop where
  keep : ∀ {w w' : World} {B c : Nat} {l : List UInt8} {p : Nat} {bad : Bool}, PC w B c l p bad → (∀ k, k < B → w'.heap[k]? = w.heap[k]?) → w.heap.size ≤ w'.heap.size → PC w' B c l p bad
  lt : ∀ {w : World} {B c : Nat} {l : List UInt8} {p : Nat} {bad : Bool}, PC w B c l p bad → c < B ∧ B ≤ w.heap.size
  new : ∀ (v : Value) (l : List UInt8) (w : World), Row1 w v (l.map bval) → l.length ≤ 1099511627776 →
    Calls Try.prog 13 #[v] w fun e w' => ∃ B c, e = .returned (.pointer (some ⟨c, 0, none⟩)) ∧ PC w' B c l 0 false ∧ w.heap.size ≤ c ∧ Below w.heap.size w w'
  int_no : ∀ (w : World) (B c : Nat) (l : List UInt8) (p : Nat) (bad : Bool), PC w B c l p bad → (bad = true ∨ l.length < p + 8) →
    Calls Try.prog 14 #[.pointer (some ⟨c, 0, none⟩)] w fun e w' => e = .returned (.int .i64 0) ∧ PC w' B c l p true ∧ w.grownBy w' (some c)
  int_yes : ∀ (w : World) (B c : Nat) (l : List UInt8) (p : Nat), PC w B c l p false → p + 8 ≤ l.length →
    Calls Try.prog 14 #[.pointer (some ⟨c, 0, none⟩)] w fun e w' => e = .returned (.int .i64 (decI ((l.drop p).take 8))) ∧ PC w' B c l (p + 8) false ∧ w.grownBy w' (some c)
  raw_no : ∀ (w : World) (B c : Nat) (l : List UInt8) (p : Nat) (bad : Bool) (n : Int), PC w B c l p bad → (bad = true ∨ n < 0 ∨ (l.length : Int) - p < n) →
    Calls Try.prog 18 #[.pointer (some ⟨c, 0, none⟩), .int .i64 n] w fun e w' => ∃ v, e = .returned v ∧ w'.ownsRow w.heap.size 5 1 v 0 [] ∧ PC w' B c l p true ∧ w.grownBy w' (some c)
  raw_yes : ∀ (w : World) (B c : Nat) (l : List UInt8) (p n : Nat), PC w B c l p false → p + n ≤ l.length →
    Calls Try.prog 18 #[.pointer (some ⟨c, 0, none⟩), .int .i64 n] w fun e w' => ∃ v, e = .returned v ∧ w'.ownsRow w.heap.size 5 1 v n (((l.drop p).take n).map bval) ∧ PC w' B c l (p + n) false ∧ w.grownBy w' (some c)
  bytes_no : ∀ (w : World) (B c : Nat) (l : List UInt8) (p : Nat) (bad : Bool), PC w B c l p bad →
    (bad = true ∨ l.length < p + 8 ∨ (p + 8 ≤ l.length ∧ (decI ((l.drop p).take 8) < 0 ∨ (l.length : Int) - (p + 8 : Nat) < decI ((l.drop p).take 8)))) →
    Calls Try.prog 16 #[.pointer (some ⟨c, 0, none⟩)] w fun e w' => ∃ v q, e = .returned v ∧ w'.ownsRow w.heap.size 5 1 v 0 [] ∧ PC w' B c l q true ∧ w.grownBy w' (some c)
  bytes_yes : ∀ (w : World) (B c : Nat) (l : List UInt8) (p n : Nat), PC w B c l p false → p + 8 + n ≤ l.length → decI ((l.drop p).take 8) = n →
    Calls Try.prog 16 #[.pointer (some ⟨c, 0, none⟩)] w fun e w' => ∃ v, e = .returned v ∧ w'.ownsRow w.heap.size 5 1 v n (((l.drop (p + 8)).take n).map bval) ∧ PC w' B c l (p + 8 + n) false ∧ w.grownBy w' (some c)
  left : ∀ (w : World) (B c : Nat) (l : List UInt8) (p : Nat) (bad : Bool), PC w B c l p bad →
    Calls Try.prog 20 #[.pointer (some ⟨c, 0, none⟩)] w fun e w' => e = .returned (.int .i64 (if bad then 0 else (l.length : Int) - p)) ∧ ∃ k, w' = w.drewN k
  end_ : ∀ (w : World) (B c : Nat) (l : List UInt8) (p : Nat) (bad : Bool), PC w B c l p bad →
    Calls Try.prog 23 #[.pointer (some ⟨c, 0, none⟩)] w fun e w' => e = .returned (.bool (!bad && decide (p = l.length))) ∧ ∃ k, w' = w.drewN k
  bad_ : ∀ (w : World) (B c : Nat) (l : List UInt8) (p : Nat) (bad : Bool), PC w B c l p bad →
    Calls Try.prog 22 #[.pointer (some ⟨c, 0, none⟩)] w fun e w' => e = .returned (.bool bad) ∧ ∃ k, w' = w.drewN k

variable {PC : World → Nat → Nat → List UInt8 → Nat → Bool → Prop}

theorem CurSaid.below (C : CurSaid PC) {w w' : World} {B c : Nat} {l : List UInt8} {p : Nat} {bad : Bool} (h : PC w B c l p bad) (hb : Below w.heap.size w w') : PC w' B c l p bad :=
  C.keep h (fun k hk => hb.block k (Nat.lt_of_lt_of_le hk (C.lt h).2)) hb.size

theorem CurSaid.leftB (C : CurSaid PC) (w : World) (B c : Nat) (l : List UInt8) (p : Nat) (bad : Bool) (h : PC w B c l p bad) :
    Calls Try.prog 20 #[.pointer (some ⟨c, 0, none⟩)] w fun e w' => e = .returned (.int .i64 (if bad then 0 else (l.length : Int) - p)) ∧ Below w.heap.size w w' :=
  (C.left w B c l p bad h).mono fun e w' ⟨he, k, hw⟩ => ⟨he, hw ▸ below_drewN (Below.refl _ _) k⟩
theorem CurSaid.endB (C : CurSaid PC) (w : World) (B c : Nat) (l : List UInt8) (p : Nat) (bad : Bool) (h : PC w B c l p bad) :
    Calls Try.prog 23 #[.pointer (some ⟨c, 0, none⟩)] w fun e w' => e = .returned (.bool (!bad && decide (p = l.length))) ∧ Below w.heap.size w w' :=
  (C.end_ w B c l p bad h).mono fun e w' ⟨he, k, hw⟩ => ⟨he, hw ▸ below_drewN (Below.refl _ _) k⟩
theorem CurSaid.badB (C : CurSaid PC) (w : World) (B c : Nat) (l : List UInt8) (p : Nat) (bad : Bool) (h : PC w B c l p bad) :
    Calls Try.prog 22 #[.pointer (some ⟨c, 0, none⟩)] w fun e w' => e = .returned (.bool bad) ∧ Below w.heap.size w w' :=
  (C.bad_ w B c l p bad h).mono fun e w' ⟨he, k, hw⟩ => ⟨he, hw ▸ below_drewN (Below.refl _ _) k⟩

end Go.Proofs.Ytcgppiniknnjpaa
