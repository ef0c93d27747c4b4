/- Texts that belong together, one behind the other. -/
import Derived.WalkKit
import Derived.ProofKit
import Derived.Deep.Slices
import Derived.Laws.Cover2
import Derived.OpenShut
import Derived.WalkSpells
import Derived.WalkLawsBesides
import Derived.Lib.Hide
import Derived.Deep.QuietTactic
import Derived.BigQuiet
import Derived.Deep.RegionHeld3
import Derived.Deep.AppendLies
import Derived.OneCell
import Derived.Test.YtimmnieopifcbaaDoorRows
import Derived.KernelRfl
import Derived.Laws.ResultCell
import Derived.Deep.MidRow
import Derived.Deep.Quiet
import Derived.OrdersHeld
import Derived.Deep.RegionHeld
import Derived.ChangeKeysEq
import Derived.Great.BuildSlice
import Derived.Lib.SlBytesConst
import Derived.Deep.CutRange
import Derived.Laws.Tables
import Derived.Lib.Mul64
import Derived.Laws.Bits64b
import Derived.Laws.Externs
import Derived.Laws.Slices
import Derived.Deep.RegionWith
import Derived.StillTailTactics
import Derived.Laws.CopyOwn
import Derived.Laws.MakeOwn
import Derived.Lib.ConvBytes
import Derived.Laws.AppendOwn
import Derived.WalkMore
import Derived.ScopeJumps
import Derived.Control
import Derived.Laws.Entries
import Derived.Laws.OwnMore
import Derived.Deep.Onto
import Derived.Lib.AppendZeros
import Derived.Deep.LoopGhost
import Derived.Test.YtimmnieopifcbaaDoorQz01
import Derived.Test.YtimmnieopifcbaaDoorQz02
import Derived.Test.YtimmnieopifcbaaDoorQz04
import Derived.Test.YtimmnieopifcbaaDoorQz07
namespace Go.Proofs.YtimmnieopifcbaaDoor
set_option linter.unusedVariables false
set_option linter.unusedSimpArgs false
open Go.RowKit
section
open Go.ChangeShapes Go.WideShapes Go.ChangeAt Go.RowKit
section
variable {H : Type} {enc : TypeId × Value → H} {P : Program} {W : World} {sp : Nat → Bool}
theorem row1_of_trod {t e : TypeId} {fuel : Nat} {v : Value} {y : DataW H × List MemPlace} (ht : P.underlying t = some (.slice e)) (hc : P.cellsOf e = 1)
  (hf : DataW.trod enc P W 0 (fun _ => true) true fuel t [v] = some y) :
  ∃ vs : List Value, Row1 W v vs ∧ ∀ x ∈ vs, ∃ n y, DataW.trod enc P W 0 (fun _ => true) true n e [x] = some y := by
 rcases Deep.open_slice1 ht hc hf with ⟨hcs, _⟩ | ⟨a1, len1, cap1, m, n, V, D, Pl, hcs, hb, hl, hm, hmm, _, hx⟩
 ·obtain rfl : v = .slice none 0 0 := by simpa using hcs
  exact ⟨[], Row1.nil W, fun x hx => by cases hx⟩
 ·obtain rfl : v = .slice (some a1) len1 cap1 := by simpa using hcs
  simp only [if_true] at hmm
  refine ⟨(List.range len1).map V, ⟨some a1, cap1, by simp, by simpa using hl, hm, (fun e => by cases e), fun hne => ?_⟩, ?_⟩
  ·have h0 : 0 < len1 := by
    rcases Nat.eq_zero_or_pos len1 with h | h
    ·subst h; exact absurd rfl hne
    ·exact h
   obtain ⟨b, off, spot⟩ := a1
   have hspot : spot = none := by simpa [Addr.add] using World.cell?_spot ((hx 0 (by omega)).1)
   subst hspot
   refine ⟨b, off, rfl, ?_, fun i hi => ?_⟩
   ·have := (hx 0 (by omega)).1
    exact World.block_lt_of_cell? W _ this
   ·have hi' : i < len1 := by simpa using hi
    rw [← add_plain, (hx i (by omega)).1]
    simp [hi']
  ·intro x hxm
   obtain ⟨i, hi, rfl⟩ := List.mem_map.1 hxm
   have hi' : i < len1 := by simpa using hi
   exact ⟨n, _, (hx i (by omega)).2⟩
theorem bytes_of_trod {t e : TypeId} {fuel : Nat} {v : Value} {y : DataW H × List MemPlace} (ht : P.underlying t = some (.slice e)) (he : P.underlying e = some (.int .u8)) (hc : P.cellsOf e = 1)
  (hf : DataW.trod enc P W 0 (fun _ => true) true fuel t [v] = some y) : ∃ l : List UInt8, Row1 W v (l.map bval) := by
 obtain ⟨vs, h1, h2⟩ := row1_of_trod ht hc hf
 obtain ⟨l, rfl, _⟩ := list_of_all (f := bval) (p := fun _ => True) (fun x hx => by
  obtain ⟨n, y, h⟩ := h2 x hx
  obtain ⟨b, rfl, hw⟩ := cell_int he h
  have hb : 0 ≤ b ∧ b ≤ 255 := by simpa [Lit.wf, IntKind.min, IntKind.max, IntKind.signed, IntKind.bits] using hw
  refine ⟨UInt8.ofNat b.toNat, ?_, trivial⟩
  unfold bval
  congr 1
  rw [UInt8.toNat_ofNat']
  omega)
 exact ⟨l, h1⟩
theorem open_bytes {base0 : Nat} {r : Reach} {t e : TypeId} {v : Value} {d : DataW H} {ps : List MemPlace} (ht : P.underlying t = some (.slice e)) (he : P.underlying e = some (.int .u8)) (hc : P.cellsOf e = 1)
  (hval : Value.okWide P W r base0 t v) (hd : DataW.Trod enc P W 0 (fun _ => true) true t v d ps) : ∃ l : List UInt8, Row1 W v (l.map bval) := by
 obtain ⟨a, len, cap, rfl⟩ := okWide_slice ht hval
 obtain ⟨fuel, hf⟩ := hd
 exact bytes_of_trod (y := (d, ps)) ht he hc (by simpa [Value.cells] using hf)
end
end
def qP : Pt := ⟨iF, 0, by
 unfold On
 rw [iF_sq]
 rw [Fin.mul_zero, Fin.mul_zero, Fin.mul_zero, Fin.add_zero]
 decide +kernel⟩
theorem qP_two : padd qP qP = ⟨0, -1, by unfold On; decide +kernel⟩ := by
 refine (padd_of ?_ ?_).symm
 ·show (0 : Fp) * _ = iF * 0 + iF * 0
  rw [Fin.zero_mul, Fin.mul_zero, Fin.add_zero]
 ·show (-1 : Fp) * (1 - dF * (iF * iF * (0 * 0))) = 0 * 0 + iF * iF
  rw [iF_sq, Fin.mul_zero, Fin.mul_zero, Fin.mul_zero]
  decide +kernel
theorem qP_four : padd (padd qP qP) (padd qP qP) = pzero := by
 rw [qP_two]
 refine (padd_of ?_ ?_).symm
 ·show (0 : Fp) * _ = 0 * (-1) + 0 * (-1)
  rw [Fin.zero_mul, Fin.zero_mul, Fin.add_zero]
 ·show (1 : Fp) * (1 - dF * (0 * 0 * (-1 * -1))) = -1 * -1 + 0 * 0
  rw [Fin.mul_zero, Fin.zero_mul, Fin.mul_zero]
  decide +kernel
theorem uv_qP : uv qP = 1 := by
 unfold uv
 have e : (1 : Fp) - qP.y = 1 := by
  show (1 : Fp) - 0 = 1
  decide +kernel
 have e2 : (1 : Fp) + qP.y = 1 := by
  show (1 : Fp) + 0 = 1
  decide +kernel
 rw [e, e2]
 exact f_inv f_one_ne
theorem lmul_one' {k : Nat} (hk : k < 2 ^ 255) (h4 : k % 4 = 0) : lmul k 1 = 0 := by
 have h := lmul_uv qP hk (by omega)
 rw [uv_qP] at h
 rw [h]
 have e : k = k / 4 * (2 * 2) := by omega
 rw [e, pmul_mul, pmul_two]
 have e2 : pmul 2 qP = padd qP qP := by rw [show 2 = 2 * 1 from rfl, pmul_two, pmul_one]
 rw [e2, qP_four, pmul_pzero, uv_pzero]
theorem f_neg (a : Fp) : 0 - a = -a := by grind
theorem kd0 {s : LS} (x1 : Fp) (h : s.z2 = 0) : (s.step x1).z2 = 0 := (step_z2 x1 s).trans (lz s.x2 121665 h)
theorem kd2 {s : LS} (x1 : Fp) (h : s.x2 = 0) : (s.step x1).z2 = 0 := by
 rw [step_z2, h]
 generalize s.z2 = Z
 have e : (0 + Z) * (0 + Z) = (0 - Z) * (0 - Z) := by
  rw [Fin.zero_add]
  generalize hw : (0 : Fp) - Z = W
  have : W = -Z := by rw [← hw]; clear hw; exact f_neg Z
  rw [this]
  clear this hw
  grind
 rw [e, f_self, Fin.zero_mul]
theorem kd1 {s : LS} (x1 : Fp) (h : s.x2 + s.z2 = 0) : (s.step x1).x2 = 0 := by
 show (s.x2 + s.z2) * (s.x2 + s.z2) * _ = 0
 rw [h, Fin.zero_mul, Fin.zero_mul]
theorem step_x3 (x1 : Fp) (s : LS) : (s.step x1).x3 = ((s.x3 - s.z3) * (s.x2 + s.z2) + (s.x3 + s.z3) * (s.x2 - s.z2)) * ((s.x3 - s.z3) * (s.x2 + s.z2) + (s.x3 + s.z3) * (s.x2 - s.z2)) := rfl
theorem step_z3' (x1 : Fp) (s : LS) : (s.step x1).z3 = x1 * (((s.x3 - s.z3) * (s.x2 + s.z2) - (s.x3 + s.z3) * (s.x2 - s.z2)) * ((s.x3 - s.z3) * (s.x2 + s.z2) - (s.x3 + s.z3) * (s.x2 - s.z2))) := rfl
theorem kid (A B : Fp) (h : A = 0 ∨ B = 0) : (A + B) * (A + B) + -1 * ((A - B) * (A - B)) = 0 := by
 have e : (A + B) * (A + B) + -1 * ((A - B) * (A - B)) = 4 * (A * B) := by clear h; grind
 rw [e]
 rcases h with h | h
 ·rw [h, Fin.zero_mul, Fin.mul_zero]
 ·rw [h, Fin.mul_zero, Fin.mul_zero]
theorem kdif {s : LS} (h : s.x2 + s.z2 = 0 ∨ s.x3 + s.z3 = 0) : (s.step (-1)).x3 + (s.step (-1)).z3 = 0 := by
 rw [step_x3, step_z3']
 refine kid _ _ ?_
 rcases h with h | h
 ·exact Or.inl (by rw [h, Fin.mul_zero])
 ·exact Or.inr (by rw [h, Fin.zero_mul])
def KInv (n : Nat) (s : LS) : Prop :=
 (n % 4 = 0 → s.z2 = 0 ∧ s.x3 + s.z3 = 0) ∧ (n % 4 = 1 → s.x2 + s.z2 = 0 ∧ s.x3 = 0) ∧ (n % 4 = 2 → s.x2 = 0 ∧ s.x3 + s.z3 = 0) ∧ (n % 4 = 3 → s.x2 + s.z2 = 0 ∧ s.z3 = 0)
theorem kinv_step {n : Nat} {s : LS} (h : KInv n s) (b : Bool) : KInv (2 * n + b.toNat) (s.bit (-1) b) := by
 obtain ⟨h0, h1, h2, h3⟩ := h
 rcases (show n % 4 = 0 ∨ n % 4 = 1 ∨ n % 4 = 2 ∨ n % 4 = 3 from by omega) with hn | hn | hn | hn
 ·obtain ⟨a, c⟩ := h0 hn
  cases b
  ·exact ⟨fun _ => ⟨kd0 (-1) a, kdif (Or.inr c)⟩, fun h => by simp only [Bool.toNat_false] at h; omega, fun h => by simp only [Bool.toNat_false] at h; omega, fun h => by simp only [Bool.toNat_false] at h; omega⟩
  ·exact ⟨fun h => by simp only [Bool.toNat_true] at h; omega, fun _ => ⟨kdif (s := s.swap) (Or.inl c), kd1 (s := s.swap) (-1) c⟩, fun h => by simp only [Bool.toNat_true] at h; omega, fun h => by simp only [Bool.toNat_true] at h; omega⟩
 ·obtain ⟨a, c⟩ := h1 hn
  cases b
  ·exact ⟨fun h => by simp only [Bool.toNat_false] at h; omega, fun h => by simp only [Bool.toNat_false] at h; omega, fun _ => ⟨kd1 (-1) a, kdif (Or.inl a)⟩, fun h => by simp only [Bool.toNat_false] at h; omega⟩
  ·exact ⟨fun h => by simp only [Bool.toNat_true] at h; omega, fun h => by simp only [Bool.toNat_true] at h; omega, fun h => by simp only [Bool.toNat_true] at h; omega, fun _ => ⟨kdif (s := s.swap) (Or.inr a), kd2 (s := s.swap) (-1) c⟩⟩
 ·obtain ⟨a, c⟩ := h2 hn
  cases b
  ·exact ⟨fun _ => ⟨kd2 (-1) a, kdif (Or.inr c)⟩, fun h => by simp only [Bool.toNat_false] at h; omega, fun h => by simp only [Bool.toNat_false] at h; omega, fun h => by simp only [Bool.toNat_false] at h; omega⟩
  ·exact ⟨fun h => by simp only [Bool.toNat_true] at h; omega, fun _ => ⟨kdif (s := s.swap) (Or.inl c), kd1 (s := s.swap) (-1) c⟩, fun h => by simp only [Bool.toNat_true] at h; omega, fun h => by simp only [Bool.toNat_true] at h; omega⟩
 ·obtain ⟨a, c⟩ := h3 hn
  cases b
  ·exact ⟨fun h => by simp only [Bool.toNat_false] at h; omega, fun h => by simp only [Bool.toNat_false] at h; omega, fun _ => ⟨kd1 (-1) a, kdif (Or.inl a)⟩, fun h => by simp only [Bool.toNat_false] at h; omega⟩
  ·exact ⟨fun h => by simp only [Bool.toNat_true] at h; omega, fun h => by simp only [Bool.toNat_true] at h; omega, fun h => by simp only [Bool.toNat_true] at h; omega, fun _ => ⟨kdif (s := s.swap) (Or.inr a), kd0 (s := s.swap) (-1) c⟩⟩
theorem krun {k : Nat} (hk : k < 2 ^ 255) : ∀ t, t ≤ 255 → KInv (k >>> (255 - t)) (lrun (-1) k t)
 | 0, _ => by
  have e : k >>> (255 - 0) = 0 := by
   rw [Nat.sub_zero, Nat.shiftRight_eq_div_pow]
   exact Nat.div_eq_of_lt hk
  rw [e]
  refine ⟨fun _ => ⟨rfl, ?_⟩, fun h => by omega, fun h => by omega, fun h => by omega⟩
  show (-1 : Fp) + 1 = 0
  decide +kernel
 | t + 1, h => by
  rw [shift_bit k t (by omega)]
  exact kinv_step (krun hk t (by omega)) _
theorem lmul_minus {k : Nat} (hk : k < 2 ^ 255) (h4 : k % 4 = 0) : lmul k (-1) = 0 := by
 have h := krun hk 255 (Nat.le_refl _)
 rw [Nat.sub_self, Nat.shiftRight_zero] at h
 unfold lmul
 rw [(h.1 h4).1, fi_zero, Fin.mul_zero]
theorem nbF_nought : nbF 0 = zer := by decide +kernel
theorem mask_zer : maskB zer = zer := by decide +kernel
theorem ladB_zer (k : List UInt8) : ladB k zer = zer := by
 unfold ladB
 rw [mask_zer, leN_zer]
 have h : fp ((0 : Nat) : Int) = 0 := fp_zero
 rw [h, lmul_zero, nbF_nought]
theorem b8_dist (a b c : UInt8) : (a ||| b) &&& c = a &&& c ||| b &&& c := by
 apply UInt8.toBitVec_inj.1
 apply BitVec.eq_of_getLsbD_eq
 intro i hi
 simp [Bool.and_or_distrib_right]
theorem b8_top (a l : UInt8) : (a &&& 127 ||| l &&& 128) &&& 127 = a &&& 127 := by
 rw [b8_dist, UInt8.and_assoc, UInt8.and_assoc, show (127 : UInt8) &&& 127 = 127 by decide, show (128 : UInt8) &&& 127 = 0 by decide, UInt8.and_zero, UInt8.or_zero]
theorem b8_or (a t : UInt8) (h : a.toNat < 128) : (a ||| t &&& 128) &&& 127 = a := by
 rw [b8_dist, UInt8.and_assoc, show (128 : UInt8) &&& 127 = 0 by decide, UInt8.and_zero, UInt8.or_zero, u8_mask a h]
def topB (u : List UInt8) (t : UInt8) : List UInt8 := u.set 31 (u.getD 31 0 &&& 127 ||| t &&& 128)
theorem getD_set_self (l : List UInt8) (i : Nat) (v : UInt8) (h : i < l.length) : (l.set i v).getD i 0 = v := by
 rw [List.getD_eq_getElem?_getD, List.getElem?_set_self h]
 rfl
theorem mask_top {u : List UInt8} (t : UInt8) (h : u.length = 32) : maskB (topB u t) = maskB u := by
 unfold maskB topB
 rw [getD_set_self _ 31 _ (by omega), b8_top, List.set_set]
def orB (u : List UInt8) (t : UInt8) : List UInt8 := u.set 31 (u.getD 31 0 ||| t &&& 128)
theorem mask_or {u : List UInt8} (t : UInt8) (h : u.length = 32) (ht : (u.getD 31 0).toNat < 128) : maskB (orB u t) = u := by
 unfold maskB orB
 rw [getD_set_self _ 31 _ (by omega), b8_or _ _ ht, List.set_set]
 have := mask_id h ht
 unfold maskB at this
 rwa [u8_mask _ ht] at this
theorem lad_low {k u : List UInt8} (t : UInt8) (hk : k.length = 32) (hu : u.length = 32) (ht : (u.getD 31 0).toNat < 128) (hx : fp (leN u) = 0 ∨ fp (leN u) = 1 ∨ fp (leN u) = -1) : ladB k (orB u t) = zer := by
 unfold ladB
 rw [mask_or t hu ht]
 have h4 : leN (clampB k) % 4 = 0 := by have := clamp_low hk; omega
 rcases hx with h | h | h
 ·rw [h, lmul_zero, nbF_nought]
 ·rw [h, lmul_one' (clamp_lt hk) h4, nbF_nought]
 ·rw [h, lmul_minus (clamp_lt hk) h4, nbF_nought]
theorem low_one : ((smL 1).getD 31 0).toNat < 128 ∧ fp (leN (smL 1)) = 1 := by decide +kernel
theorem wraL_none {tb draw : List UInt8} (key : List UInt8) (h : ladB draw tb = zer) : wraL tb draw key = [] := if_pos h
theorem ladB_one {k : List UInt8} (hk : k.length = 32) : ladB k (smL 1) = zer := by
 have h := lad_low 0 hk (smL_length 1) low_one.1 (Or.inr (Or.inl low_one.2))
 have e : orB (smL 1) 0 = smL 1 := by decide +kernel
 rwa [e] at h
section
section
variable {P : Program} {ops : Array Oper} {S : World → Prop}
theorem wp_alloc_d {o : Oper} {a : Act} {w : World} {K : Act → World → Prop} {Q : Exit → Act → World → Prop} (d : Option Nat) (ty : TypeId) (zs : List Value) (hd : o.dst = d) (ho : o.op = .alloc ty) (hz : ∀ w, (zeroValue ty).run P w = .ok (.agg zs.toArray) w)
  (h : K (a.put d (.pointer (some ⟨w.heap.size, 0, none⟩))) (w.alloc (.cells zs.toArray ty))) : o.wp P a w K Q := by
 subst hd
 unfold Oper.wp
 rw [run_alloc_zero ho hz]
 exact h
theorem wp_make_d {o : Oper} {a : Act} {w : World} {K : Act → World → Prop} {Q : Exit → Act → World → Prop} (d : Option Nat) (t : TypeId) (x y : Operand) (vx vy v : Value) (w' : World) (hd : o.dst = d) (ho : o.op = .makeSlice t x y) (hx : a.eval x = vx) (hy : a.eval y = vy) (hr : (Instr.makeSlice t vx vy).run P w = .ok v w')
  (h : K (a.put d v) w') : o.wp P a w K Q := by
 subst hd
 unfold Oper.wp execOp
 simp only [ho, hx, hy, Sem.run_bind, hr, Result.andThen_ok, Sem.run_pure]
 exact h
end
end
theorem own_ne_blk {w : World} {base size g n m cap c : Nat} {e t : TypeId} {xs cs : List Value} (h : w.ownsRow base e size (.slice (some ⟨g, 0, none⟩) n cap) m xs) (hb : Blk w c cs t) (hne : e ≠ t) : g ≠ c := by
 intro hgc
 subst hgc
 rcases h.2 with ⟨h1, _⟩ | ⟨g', cap', cur, hv, _, hg, _⟩
 ·exact absurd h1 (by simp)
 ·injection hv with e1 e2 e3
  injection e1 with e1
  injection e1 with e1
  subst e1
  unfold Blk at hb
  rw [hb] at hg
  injection hg with hg
  injection hg with _ h2 _
  exact hne h2.symm
theorem wrap_low {tb d k : List UInt8} (ht : tb.length = 32) (hd : d.length = 32) (hk : k.length = 32) (hz : ladB d tb = zer) (w : World) (hG : GlobR w) :
  Calls Tryd.prog 6 #[.agg (tb.map bval).toArray, .agg (d.map bval).toArray, .agg (k.map bval).toArray] w fun e w' => ∃ x, e = .returned (.tuple #[x, .int .i64 21]) ∧ Row1 w' x (([] : List UInt8).map bval) ∧ Below w.heap.size w w' := by
 refine (WWrap_num tb d k w ht hd hk hG).mono ?_
 rintro e w' ⟨x, he, hr, hb⟩
 rw [wraL_none k hz] at hr
 have hs : shErr d tb = 21 := by unfold shErr; rw [if_pos hz]
 rw [hs] at he
 exact ⟨x, he, hr, hb⟩
theorem unwrap_low {s b : List UInt8} (hs : s.length = 32) (hb : b.length = 80) (hz : ladB s (b.take 32) = zer) (w : World) (v : Value) (hv : Row1 w v (b.map bval)) (hG : GlobR w) :
  Calls Tryd.prog 8 #[.agg (s.map bval).toArray, v] w fun e w' => e = .returned (.tuple #[.agg (zer.map bval).toArray, .int .i64 21]) ∧ Below w.heap.size w w' := by
 refine (WUnwrap_num s b v w hs hv hG).mono ?_
 rintro e w' ⟨he, hb2⟩
 rw [unwK_low hb hz, unwE_low hb hz] at he
 exact ⟨he, hb2⟩
theorem unwrap_short {s b : List UInt8} (hs : s.length = 32) (hb : ¬ b.length = 80) (w : World) (v : Value) (hv : Row1 w v (b.map bval)) (hG : GlobR w) :
  Calls Tryd.prog 8 #[.agg (s.map bval).toArray, v] w fun e w' => e = .returned (.tuple #[.agg (zer.map bval).toArray, .int .i64 4]) ∧ Below w.heap.size w w' := by
 refine (WUnwrap_num s b v w hs hv hG).mono ?_
 rintro e w' ⟨he, hb2⟩
 rw [unwK_long hb, unwE_long hb] at he
 exact ⟨he, hb2⟩
set_option maxRecDepth 100000 in
set_option maxHeartbeats 8000000 in
theorem wrapNone_any (s d k b : List UInt8) (bv : Value) (w : World) (hs : s.length = 32) (hd : d.length = 32) (hk : k.length = 32) (hb : Row1 w bv (b.map bval)) (hG : GlobR w) : Calls Tryd.prog 4 #[.agg (s.map bval).toArray, .agg (d.map bval).toArray, .agg (k.map bval).toArray, bv] w fun e w' => e = .returned (.bool true) ∧ Below w.heap.size w w' := by
 obtain ⟨i0, hi, hz0, hz1, hz2⟩ := info_parts Tryd.info5
 have HI0 := Lib.hid hi
 have HZ0 := Lib.hid hz0
 have HZ1 := Lib.hid hz1
 have HZ2 := Lib.hid hz2
 clear hi hz0 hz1 hz2
 have HG := Lib.hid hG
 have HSL := Lib.hid hs
 have HDL := Lib.hid hd
 have HKL := Lib.hid hk
 have HR := Lib.hid hb
 obtain ⟨ab, capb, hbv, r1, r2, _⟩ := id hb
 rw [List.length_map] at hbv r1
 subst hbv
 unfold maxLen at r2
 have hb0 : (0 : Int) ≤ (b.length : Int) := Int.natCast_nonneg _
 clear hs hd hk hb hG
 have HW0 : Hid (∀ w, GlobR w → Calls Tryd.prog 6 #[.agg (zer.map bval).toArray, .agg (d.map bval).toArray, .agg (k.map bval).toArray] w fun e w' => ∃ x, e = .returned (.tuple #[x, .int .i64 21]) ∧ Row1 w' x (([] : List UInt8).map bval) ∧ Below w.heap.size w w') := Lib.hid (fun w hG => wrap_low zer_length HDL.out HKL.out (ladB_zer _) w hG)
 have HW1 : Hid (∀ w, GlobR w → Calls Tryd.prog 6 #[.agg ((smL 1).map bval).toArray, .agg (d.map bval).toArray, .agg (k.map bval).toArray] w fun e w' => ∃ x, e = .returned (.tuple #[x, .int .i64 21]) ∧ Row1 w' x (([] : List UInt8).map bval) ∧ Below w.heap.size w w') := Lib.hid (fun w hG => wrap_low (smL_length 1) HDL.out HKL.out (ladB_one HDL.out) w hG)
 have HB := Lib.hid (boxes3 w (s.map bval) (d.map bval) (k.map bval) 23 23 23)
 go_enter Tryd.func4, Tryd.ntmps4
 go_upto_region 1 with (fail)
 obtain ⟨H1, H2, H3, HE⟩ := HB.out
 change Code.wp _ _ _ _ ((((w.alloc (.cells (s.map bval).toArray 23)).alloc (.cells (d.map bval).toArray 23)).alloc (.cells (k.map bval).toArray 23)))
 generalize (((w.alloc (.cells (s.map bval).toArray 23)).alloc (.cells (d.map bval).toArray 23)).alloc (.cells (k.map bval).toArray 23)) = wa at *
 obtain ⟨A, hA⟩ : ∃ A, A = w.heap.size := ⟨_, rfl⟩
 rw [← hA] at H1 H2 H3 ⊢
 have H1 := Lib.hid H1
 have H2 := Lib.hid H2
 have H3 := Lib.hid H3
 have HE : Hid (Ext w wa) := Lib.hid HE
 clear hA HB
 have HIs := Lib.hid (num_size HSL.out)
 have HId := Lib.hid (num_size HDL.out)
 have HIk := Lib.hid (num_size HKL.out)
 have HR := Lib.hid (HR.out.below HE.out)
 go_wp2_with fail
 refine (alive_any14 wa (HG.out.ext HE.out)).mono ?_
 rintro e wb ⟨rfl, hb⟩
 have H1 := Lib.hid (ext_blk H1.out hb)
 have H2 := Lib.hid (ext_blk H2.out hb)
 have H3 := Lib.hid (ext_blk H3.out hb)
 have HR := Lib.hid (HR.out.below hb)
 have HE := Lib.hid (HE.out.trans hb)
 clear hb
 by_cases h48 : b.length = 48
 ·have HbL := Lib.hid h48
  rw [h48] at HR r1 ⊢
  clear hb0 h48
  go_wp2_with (first | (refine wpList_load_blk rfl _ _ rfl (A + 1) rfl _ _ _ _ H2.out Tryd.underlying23 HId.out ?_) | (refine wpList_load_blk rfl _ _ rfl (A + 1 + 1) rfl _ _ _ _ H3.out Tryd.underlying23 HIk.out ?_))
  refine (HW0.out wb (HG.out.ext HE.out)).mono ?_
  rintro e wc ⟨xwc, rfl, _, hb⟩
  have H1 := Lib.hid (ext_blk H1.out hb)
  have H2 := Lib.hid (ext_blk H2.out hb)
  have H3 := Lib.hid (ext_blk H3.out hb)
  have HR := Lib.hid (HR.out.below hb)
  have HE := Lib.hid (HE.out.trans hb)
  clear hb
  go_wp2_with (first | (refine wpList_load_blk rfl _ _ rfl (A + 1) rfl _ _ _ _ H2.out Tryd.underlying23 HId.out ?_) | (refine wpList_load_blk rfl _ _ rfl (A + 1 + 1) rfl _ _ _ _ H3.out Tryd.underlying23 HIk.out ?_))
  refine (HW1.out wc (HG.out.ext HE.out)).mono ?_
  rintro e wd ⟨xwd, rfl, _, hb⟩
  have H1 := Lib.hid (ext_blk H1.out hb)
  have H2 := Lib.hid (ext_blk H2.out hb)
  have H3 := Lib.hid (ext_blk H3.out hb)
  have HR := Lib.hid (HR.out.below hb)
  have HE := Lib.hid (HE.out.trans hb)
  clear hb
  have HU1 : Hid (∀ w v, Row1 w v ((zB 32 ++ b).map bval) → GlobR w → Calls Tryd.prog 8 #[.agg (s.map bval).toArray, v] w fun e w' => e = .returned (.tuple #[.agg (zer.map bval).toArray, .int .i64 21]) ∧ Below w.heap.size w w') := Lib.hid (fun w v hv hG => unwrap_low HSL.out (by rw [List.length_append, zB_length, HbL.out]) (by rw [List.take_append_of_le_length (by rw [zB_length]; omega), List.take_of_length_le (by rw [zB_length]; omega)]; exact ladB_zer _) w v hv hG)
  have HU2 : Hid (∀ w v, Row1 w v (b.map bval) → GlobR w → Calls Tryd.prog 8 #[.agg (s.map bval).toArray, v] w fun e w' => e = .returned (.tuple #[.agg (zer.map bval).toArray, .int .i64 4]) ∧ Below w.heap.size w w') := Lib.hid (fun w v hv hG => unwrap_short HSL.out (by rw [HbL.out]; omega) w v hv hG)
  have HZR : Hid (zer.length = 32) := Lib.hid zer_length
  have HIzer := Lib.hid (num_size HZR.out)
  have HZzer : Hid ((zer.map bval).length = (ints .u8 (List.replicate 32 0)).length) := Lib.hid (by rw [List.length_map, ints_length, HZR.out]; rfl)
  go_upto_region 6 with (fail)
  have B0 : Ext wd wd.drew := Ext.drew _
  refine wp_region_held_drew (S := fun w' => Ext wd w') (by kernel_rfl) B0 (fun hHeld => ?_)
  refine wpAnyH_take (i := 0) (v := .agg ((s).map bval).toArray) rfl (by kernel_rfl) (by kernel_rfl) (by kernel_rfl) (fun _ _ _ h => h) (yieldsIf_load_mid (by rfl) _ _ rfl A 0 rfl _ _ (fun w h => bl_range H1.out h) Tryd.underlying23 rfl HIs.out) hHeld ?_
  simp only [Act.put, nrm]
  refine wpAnyH_take (i := 2) (v := .slice ab 48 capb) rfl (by kernel_rfl) (by kernel_rfl) (by kernel_rfl) (fun _ _ _ h => h) (yi_move _ (.slice ab 48 capb) (by rfl) rfl rfl) hHeld ?_
  simp only [Act.put, nrm]
  refine wpAnyH_ready (rs := [1, 8]) (by kernel_rfl) (by simp) (AllReadyH.cons rfl (fun K hK => ?_) (AllReadyH.cons rfl (fun K hK => ?_) AllReadyH.nil))
  ·refine step_wp (by rfl) ?_
   refine wp_make_d (some 43) _ _ _ _ _ _ _ rfl rfl rfl rfl (run_make_zeros _ _ _ Tryd.underlying25 i0 HI0.out HZ0.out HZ1.out HZ2.out 32 (by omega)) ?_
   obtain ⟨m1, hm1⟩ : ∃ wNew, wNew = World.alloc wd.drew (.cells ((zB 32).map bval).toArray 5) := ⟨_, rfl⟩
   rw [← hm1]
   have b1 : Ext wd.drew m1 := by rw [hm1]; exact Ext.alloc _ _
   obtain ⟨g1, hg1⟩ : ∃ gNew, gNew = (wd.drew).heap.size := ⟨_, rfl⟩
   rw [← hg1]
   have o1 : World.ownsRow m1 (wd).heap.size 5 1 (.slice (some ⟨g1, 0, none⟩) 32 32) 32 ((zB 32).map bval) := by rw [hm1, hg1]; exact own_made _ _ _ _ _ _ rfl (by rw [List.length_map, zB_length]) (by unfold maxLen; omega) B0.size
   have r1 := Row1.of_own o1
   clear hm1 hg1
   have N1 : Ext wd m1 := B0.trans b1
   refine hK.out _ _ N1 (fun hHeld => ?_)
   clear hK K
   try simp only [Act.put, nrm]
   refine wpAnyH_ready (rs := [3, 8]) (by kernel_rfl) (by simp) (AllReadyH.cons rfl (fun K hK => ?_) (AllReadyH.cons rfl (fun K hK => ?_) AllReadyH.nil))
   ·refine step_wp (by rfl) ?_
    refine wp_append_row _ _ 25 rfl (wd).heap.size 5 i0 (.int .u8 0) 1 Tryd.underlying25 HI0.out HZ0.out HZ1.out HZ2.out rfl (.slice (some ⟨g1, 0, none⟩) 32 32) 32 _ rfl o1 rfl ((HR.out).below N1) (bval_one _) (by have := HbL.out; simp only [List.length_map]; unfold maxLen; omega) (by have := HbL.out; simp only [List.length_map]; omega) N1.size ?_
    intro v2 m2 ho2 hg2
    have N2 : Ext wd m2 := ext_own N1 o1 (Nat.le_refl _) hg2
    have r2 : Row1 m2 v2 (((zB 32 ++ b)).map bval) := by have h := Row1.of_own ho2; simpa using h
    obtain ⟨a2, c2, hx2, _⟩ := id r2
    rw [List.length_map, List.length_append, zB_length, HbL.out] at hx2
    subst hx2
    refine hK.out _ _ N2 (fun hHeld => ?_)
    clear hK K
    try simp only [Act.put, nrm]
    refine wpAnyH_ready (rs := [4, 8]) (by kernel_rfl) (by simp) (AllReadyH.cons rfl (fun K hK => ?_) (AllReadyH.cons rfl (fun K hK => ?_) AllReadyH.nil))
    ·go_simp
     refine (HU1.out m2 _ r2 (HG.out.ext (HE.out.trans N2))).mono ?_
     rintro e m3 ⟨rfl, b3⟩
     have r2 := r2.below b3
     have N3 : Ext wd m3 := N2.trans b3
     refine hK.out _ _ N3 (fun hHeld => ?_)
     clear hK K
     try simp only [Act.put, nrm]
     refine wpAnyH_take (i := 5) (v := .tuple #[.agg (zer.map bval).toArray, .int .i64 21]) rfl (by kernel_rfl) (by kernel_rfl) (by kernel_rfl) (fun _ _ _ h => h) (yi_move _ (.tuple #[.agg (zer.map bval).toArray, .int .i64 21]) (by rfl) rfl rfl) hHeld ?_
     simp only [Act.put, nrm]
     refine wpAnyH_take (i := 6) (v := .agg ((zer).map bval).toArray) rfl (by kernel_rfl) (by kernel_rfl) (by kernel_rfl) (fun _ _ _ h => h) (yi_val (.agg ((zer).map bval).toArray) (by rfl) (fun w _ => by go_simp)) hHeld ?_
     simp only [Act.put, nrm]
     refine wpAnyH_take (i := 7) (v := .int .i64 21) rfl (by kernel_rfl) (by kernel_rfl) (by kernel_rfl) (fun _ _ _ h => h) (yi_val (.int .i64 21) (by rfl) (fun w _ => by go_simp)) hHeld ?_
     simp only [Act.put, nrm]
     refine wpAnyH_ready (rs := [8]) (by kernel_rfl) (by simp) (AllReadyH.cons rfl (fun K hK => ?_) AllReadyH.nil)
     refine step_wp (by rfl) ?_
     refine wp_alloc_d (some 14) _ zero32 rfl rfl Tryd.zeroValue23 ?_
     obtain ⟨m4, hm4⟩ : ∃ wNew, wNew = World.alloc m3 (.cells (zero32).toArray 23) := ⟨_, rfl⟩
     rw [← hm4]
     have b4 : Ext m3 m4 := by rw [hm4]; exact Ext.alloc _ _
     obtain ⟨g4, hg4⟩ : ∃ gNew, gNew = (m3).heap.size := ⟨_, rfl⟩
     rw [← hg4]
     have z4 : Blk m4 g4 zero32 23 := by rw [hm4, hg4]; exact Blk.made _ _ _
     have l4 : (wd).heap.size ≤ g4 := by rw [hg4]; exact N3.size
     clear hm4 hg4
     have r2 := r2.below b4
     have N4 : Ext wd m4 := N3.trans b4
     refine hK.out _ _ N4 (fun hHeld => ?_)
     clear hK K
     try simp only [Act.put, nrm]
     refine wpAnyH_ready (rs := [9]) (by kernel_rfl) (by simp) (AllReadyH.cons rfl (fun K hK => ?_) AllReadyH.nil)
     refine step_wp (by rfl) ?_
     refine wp_store_blk _ _ _ rfl g4 ((zer).map bval) rfl rfl _ _ z4 (by rw [List.length_map, HZR.out]; rfl) (num_size (HZR.out)) (bval_one _) ?_
     intro m5 hb5 hg5
     have N5 : Ext wd m5 := ext_grown N4 hg5 l4
     refine hK.out _ _ N5 (fun hHeld => ?_)
     clear hK K
     try simp only [Act.put, nrm]
     refine wpAnyH_ready (rs := [10]) (by kernel_rfl) (by simp) (AllReadyH.cons rfl (fun K hK => ?_) AllReadyH.nil)
     go_simp
     refine hK.out _ _ N5 (fun hHeld => ?_)
     clear hK K
     try simp only [Act.put, nrm]
     refine wpAnyH_done (by kernel_rfl) ?_ _
     have HE := Lib.hid (HE.out.trans N5)
     have HR := Lib.hid (HR.out.below N5)
     have H1 := Lib.hid (ext_blk H1.out N5)
     have H2 := Lib.hid (ext_blk H2.out N5)
     have H3 := Lib.hid (ext_blk H3.out N5)
     clear r2
     generalize m5 = we at H1 H2 H3 HE HR ⊢
     go_wp2_with (first | (refine wpList_load_blk rfl _ _ rfl (A) rfl _ _ _ _ H1.out Tryd.underlying23 HIs.out ?_))
     refine (HU2.out we _ HR.out (HG.out.ext HE.out)).mono ?_
     rintro e wf ⟨rfl, hb⟩
     have H1 := Lib.hid (ext_blk H1.out hb)
     have H2 := Lib.hid (ext_blk H2.out hb)
     have H3 := Lib.hid (ext_blk H3.out hb)
     have HR := Lib.hid (HR.out.below hb)
     have HE := Lib.hid (HE.out.trans hb)
     clear hb
     have HZ := Lib.hid (Blk.made wf (ints .u8 (List.replicate 32 0)) 23)
     have HEA := Lib.hid (Ext.alloc wf (.cells (ints .u8 (List.replicate 32 0)).toArray 23))
     go_upto_region 8 with (refine wpList_store_blk rfl _ _ _ rfl wf.heap.size (zer.map bval) rfl rfl _ _ HZ.out HZzer.out HIzer.out (bval_one _) ?_; intro wg hb2 hg2)
     have HX := Lib.hid (ext_grown HEA.out hg2 (Nat.le_refl _))
     have H1 := Lib.hid (ext_blk H1.out HX.out)
     have H2 := Lib.hid (ext_blk H2.out HX.out)
     have H3 := Lib.hid (ext_blk H3.out HX.out)
     have HR := Lib.hid (HR.out.below HX.out)
     have HE := Lib.hid (HE.out.trans HX.out)
     have HD := Lib.hid hb2
     generalize wf.heap.size = D at *
     clear hb2 hg2 HZ HEA HX
     go_wp2_with fail
     refine (wra_num_any 21 wg).mono ?_
     rintro e wq ⟨rfl, rfl⟩
     go_wp2_with fail
     refine (wra_num_any 21 wg).mono ?_
     rintro e wq ⟨rfl, rfl⟩
     go_wp2_with fail
     refine (wra_num_any 21 wg).mono ?_
     rintro e wq ⟨rfl, rfl⟩
     go_wp2_with fail
     refine (wra_num_any 4 wg).mono ?_
     rintro e wq ⟨rfl, rfl⟩
     go_wp2_with fail
     go_ret
     exact ⟨rfl, HE.out⟩
    ·refine step_wp (by rfl) ?_
     refine wp_alloc_d (some 14) _ zero32 rfl rfl Tryd.zeroValue23 ?_
     obtain ⟨m3, hm3⟩ : ∃ wNew, wNew = World.alloc m2 (.cells (zero32).toArray 23) := ⟨_, rfl⟩
     rw [← hm3]
     have b3 : Ext m2 m3 := by rw [hm3]; exact Ext.alloc _ _
     obtain ⟨g3, hg3⟩ : ∃ gNew, gNew = (m2).heap.size := ⟨_, rfl⟩
     rw [← hg3]
     have z3 : Blk m3 g3 zero32 23 := by rw [hm3, hg3]; exact Blk.made _ _ _
     have l3 : (wd).heap.size ≤ g3 := by rw [hg3]; exact N2.size
     clear hm3 hg3
     have r2 := r2.below b3
     have N3 : Ext wd m3 := N2.trans b3
     refine hK.out _ _ N3 (fun hHeld => ?_)
     clear hK K
     try simp only [Act.put, nrm]
     refine wpAnyH_ready (rs := [4]) (by kernel_rfl) (by simp) (AllReadyH.cons rfl (fun K hK => ?_) AllReadyH.nil)
     go_simp
     refine (HU1.out m3 _ r2 (HG.out.ext (HE.out.trans N3))).mono ?_
     rintro e m4 ⟨rfl, b4⟩
     have r2 := r2.below b4
     have z3 := z3.below b4
     have N4 : Ext wd m4 := N3.trans b4
     refine hK.out _ _ N4 (fun hHeld => ?_)
     clear hK K
     try simp only [Act.put, nrm]
     refine wpAnyH_take (i := 5) (v := .tuple #[.agg (zer.map bval).toArray, .int .i64 21]) rfl (by kernel_rfl) (by kernel_rfl) (by kernel_rfl) (fun _ _ _ h => h) (yi_move _ (.tuple #[.agg (zer.map bval).toArray, .int .i64 21]) (by rfl) rfl rfl) hHeld ?_
     simp only [Act.put, nrm]
     refine wpAnyH_take (i := 6) (v := .agg ((zer).map bval).toArray) rfl (by kernel_rfl) (by kernel_rfl) (by kernel_rfl) (fun _ _ _ h => h) (yi_val (.agg ((zer).map bval).toArray) (by rfl) (fun w _ => by go_simp)) hHeld ?_
     simp only [Act.put, nrm]
     refine wpAnyH_take (i := 7) (v := .int .i64 21) rfl (by kernel_rfl) (by kernel_rfl) (by kernel_rfl) (fun _ _ _ h => h) (yi_val (.int .i64 21) (by rfl) (fun w _ => by go_simp)) hHeld ?_
     simp only [Act.put, nrm]
     refine wpAnyH_ready (rs := [9]) (by kernel_rfl) (by simp) (AllReadyH.cons rfl (fun K hK => ?_) AllReadyH.nil)
     refine step_wp (by rfl) ?_
     refine wp_store_blk _ _ _ rfl g3 ((zer).map bval) rfl rfl _ _ z3 (by rw [List.length_map, HZR.out]; rfl) (num_size (HZR.out)) (bval_one _) ?_
     intro m5 hb5 hg5
     have N5 : Ext wd m5 := ext_grown N4 hg5 l3
     refine hK.out _ _ N5 (fun hHeld => ?_)
     clear hK K
     try simp only [Act.put, nrm]
     refine wpAnyH_ready (rs := [10]) (by kernel_rfl) (by simp) (AllReadyH.cons rfl (fun K hK => ?_) AllReadyH.nil)
     go_simp
     refine hK.out _ _ N5 (fun hHeld => ?_)
     clear hK K
     try simp only [Act.put, nrm]
     refine wpAnyH_done (by kernel_rfl) ?_ _
     have HE := Lib.hid (HE.out.trans N5)
     have HR := Lib.hid (HR.out.below N5)
     have H1 := Lib.hid (ext_blk H1.out N5)
     have H2 := Lib.hid (ext_blk H2.out N5)
     have H3 := Lib.hid (ext_blk H3.out N5)
     clear r2
     generalize m5 = we at H1 H2 H3 HE HR ⊢
     go_wp2_with (first | (refine wpList_load_blk rfl _ _ rfl (A) rfl _ _ _ _ H1.out Tryd.underlying23 HIs.out ?_))
     refine (HU2.out we _ HR.out (HG.out.ext HE.out)).mono ?_
     rintro e wf ⟨rfl, hb⟩
     have H1 := Lib.hid (ext_blk H1.out hb)
     have H2 := Lib.hid (ext_blk H2.out hb)
     have H3 := Lib.hid (ext_blk H3.out hb)
     have HR := Lib.hid (HR.out.below hb)
     have HE := Lib.hid (HE.out.trans hb)
     clear hb
     have HZ := Lib.hid (Blk.made wf (ints .u8 (List.replicate 32 0)) 23)
     have HEA := Lib.hid (Ext.alloc wf (.cells (ints .u8 (List.replicate 32 0)).toArray 23))
     go_upto_region 8 with (refine wpList_store_blk rfl _ _ _ rfl wf.heap.size (zer.map bval) rfl rfl _ _ HZ.out HZzer.out HIzer.out (bval_one _) ?_; intro wg hb2 hg2)
     have HX := Lib.hid (ext_grown HEA.out hg2 (Nat.le_refl _))
     have H1 := Lib.hid (ext_blk H1.out HX.out)
     have H2 := Lib.hid (ext_blk H2.out HX.out)
     have H3 := Lib.hid (ext_blk H3.out HX.out)
     have HR := Lib.hid (HR.out.below HX.out)
     have HE := Lib.hid (HE.out.trans HX.out)
     have HD := Lib.hid hb2
     generalize wf.heap.size = D at *
     clear hb2 hg2 HZ HEA HX
     go_wp2_with fail
     refine (wra_num_any 21 wg).mono ?_
     rintro e wq ⟨rfl, rfl⟩
     go_wp2_with fail
     refine (wra_num_any 21 wg).mono ?_
     rintro e wq ⟨rfl, rfl⟩
     go_wp2_with fail
     refine (wra_num_any 21 wg).mono ?_
     rintro e wq ⟨rfl, rfl⟩
     go_wp2_with fail
     refine (wra_num_any 4 wg).mono ?_
     rintro e wq ⟨rfl, rfl⟩
     go_wp2_with fail
     go_ret
     exact ⟨rfl, HE.out⟩
   ·refine step_wp (by rfl) ?_
    refine wp_alloc_d (some 14) _ zero32 rfl rfl Tryd.zeroValue23 ?_
    obtain ⟨m2, hm2⟩ : ∃ wNew, wNew = World.alloc m1 (.cells (zero32).toArray 23) := ⟨_, rfl⟩
    rw [← hm2]
    have b2 : Ext m1 m2 := by rw [hm2]; exact Ext.alloc _ _
    obtain ⟨g2, hg2⟩ : ∃ gNew, gNew = (m1).heap.size := ⟨_, rfl⟩
    rw [← hg2]
    have z2 : Blk m2 g2 zero32 23 := by rw [hm2, hg2]; exact Blk.made _ _ _
    have l2 : (wd).heap.size ≤ g2 := by rw [hg2]; exact N1.size
    have q2o1 : ∀ r, (.slice (some ⟨g1, 0, none⟩) 32 32 : Value).ownBlock = some r → r < g2 := fun r h => by rw [hg2]; exact (o1.lt r h).2
    clear hm2 hg2
    have r1 := r1.below b2
    have o1 := own_below o1 b2
    have N2 : Ext wd m2 := N1.trans b2
    refine hK.out _ _ N2 (fun hHeld => ?_)
    clear hK K
    try simp only [Act.put, nrm]
    refine wpAnyH_ready (rs := [3]) (by kernel_rfl) (by simp) (AllReadyH.cons rfl (fun K hK => ?_) AllReadyH.nil)
    refine step_wp (by rfl) ?_
    refine wp_append_row _ _ 25 rfl (wd).heap.size 5 i0 (.int .u8 0) 1 Tryd.underlying25 HI0.out HZ0.out HZ1.out HZ2.out rfl (.slice (some ⟨g1, 0, none⟩) 32 32) 32 _ rfl o1 rfl ((HR.out).below N2) (bval_one _) (by have := HbL.out; simp only [List.length_map]; unfold maxLen; omega) (by have := HbL.out; simp only [List.length_map]; omega) N2.size ?_
    intro v3 m3 ho3 hg3
    have N3 : Ext wd m3 := ext_own N2 o1 (Nat.le_refl _) hg3
    have z2 := z2.grown hg3 (fun e => own_ne_blk o1 z2 (by decide) (Option.some.inj e))
    have r3 : Row1 m3 v3 (((zB 32 ++ b)).map bval) := by have h := Row1.of_own ho3; simpa using h
    obtain ⟨a3, c3, hx3, _⟩ := id r3
    rw [List.length_map, List.length_append, zB_length, HbL.out] at hx3
    subst hx3
    refine hK.out _ _ N3 (fun hHeld => ?_)
    clear hK K
    try simp only [Act.put, nrm]
    refine wpAnyH_ready (rs := [4]) (by kernel_rfl) (by simp) (AllReadyH.cons rfl (fun K hK => ?_) AllReadyH.nil)
    go_simp
    refine (HU1.out m3 _ r3 (HG.out.ext (HE.out.trans N3))).mono ?_
    rintro e m4 ⟨rfl, b4⟩
    have r3 := r3.below b4
    have z2 := z2.below b4
    have N4 : Ext wd m4 := N3.trans b4
    refine hK.out _ _ N4 (fun hHeld => ?_)
    clear hK K
    try simp only [Act.put, nrm]
    refine wpAnyH_take (i := 5) (v := .tuple #[.agg (zer.map bval).toArray, .int .i64 21]) rfl (by kernel_rfl) (by kernel_rfl) (by kernel_rfl) (fun _ _ _ h => h) (yi_move _ (.tuple #[.agg (zer.map bval).toArray, .int .i64 21]) (by rfl) rfl rfl) hHeld ?_
    simp only [Act.put, nrm]
    refine wpAnyH_take (i := 6) (v := .agg ((zer).map bval).toArray) rfl (by kernel_rfl) (by kernel_rfl) (by kernel_rfl) (fun _ _ _ h => h) (yi_val (.agg ((zer).map bval).toArray) (by rfl) (fun w _ => by go_simp)) hHeld ?_
    simp only [Act.put, nrm]
    refine wpAnyH_take (i := 7) (v := .int .i64 21) rfl (by kernel_rfl) (by kernel_rfl) (by kernel_rfl) (fun _ _ _ h => h) (yi_val (.int .i64 21) (by rfl) (fun w _ => by go_simp)) hHeld ?_
    simp only [Act.put, nrm]
    refine wpAnyH_ready (rs := [9]) (by kernel_rfl) (by simp) (AllReadyH.cons rfl (fun K hK => ?_) AllReadyH.nil)
    refine step_wp (by rfl) ?_
    refine wp_store_blk _ _ _ rfl g2 ((zer).map bval) rfl rfl _ _ z2 (by rw [List.length_map, HZR.out]; rfl) (num_size (HZR.out)) (bval_one _) ?_
    intro m5 hb5 hg5
    have N5 : Ext wd m5 := ext_grown N4 hg5 l2
    refine hK.out _ _ N5 (fun hHeld => ?_)
    clear hK K
    try simp only [Act.put, nrm]
    refine wpAnyH_ready (rs := [10]) (by kernel_rfl) (by simp) (AllReadyH.cons rfl (fun K hK => ?_) AllReadyH.nil)
    go_simp
    refine hK.out _ _ N5 (fun hHeld => ?_)
    clear hK K
    try simp only [Act.put, nrm]
    refine wpAnyH_done (by kernel_rfl) ?_ _
    have HE := Lib.hid (HE.out.trans N5)
    have HR := Lib.hid (HR.out.below N5)
    have H1 := Lib.hid (ext_blk H1.out N5)
    have H2 := Lib.hid (ext_blk H2.out N5)
    have H3 := Lib.hid (ext_blk H3.out N5)
    clear r3
    generalize m5 = we at H1 H2 H3 HE HR ⊢
    go_wp2_with (first | (refine wpList_load_blk rfl _ _ rfl (A) rfl _ _ _ _ H1.out Tryd.underlying23 HIs.out ?_))
    refine (HU2.out we _ HR.out (HG.out.ext HE.out)).mono ?_
    rintro e wf ⟨rfl, hb⟩
    have H1 := Lib.hid (ext_blk H1.out hb)
    have H2 := Lib.hid (ext_blk H2.out hb)
    have H3 := Lib.hid (ext_blk H3.out hb)
    have HR := Lib.hid (HR.out.below hb)
    have HE := Lib.hid (HE.out.trans hb)
    clear hb
    have HZ := Lib.hid (Blk.made wf (ints .u8 (List.replicate 32 0)) 23)
    have HEA := Lib.hid (Ext.alloc wf (.cells (ints .u8 (List.replicate 32 0)).toArray 23))
    go_upto_region 8 with (refine wpList_store_blk rfl _ _ _ rfl wf.heap.size (zer.map bval) rfl rfl _ _ HZ.out HZzer.out HIzer.out (bval_one _) ?_; intro wg hb2 hg2)
    have HX := Lib.hid (ext_grown HEA.out hg2 (Nat.le_refl _))
    have H1 := Lib.hid (ext_blk H1.out HX.out)
    have H2 := Lib.hid (ext_blk H2.out HX.out)
    have H3 := Lib.hid (ext_blk H3.out HX.out)
    have HR := Lib.hid (HR.out.below HX.out)
    have HE := Lib.hid (HE.out.trans HX.out)
    have HD := Lib.hid hb2
    generalize wf.heap.size = D at *
    clear hb2 hg2 HZ HEA HX
    go_wp2_with fail
    refine (wra_num_any 21 wg).mono ?_
    rintro e wq ⟨rfl, rfl⟩
    go_wp2_with fail
    refine (wra_num_any 21 wg).mono ?_
    rintro e wq ⟨rfl, rfl⟩
    go_wp2_with fail
    refine (wra_num_any 21 wg).mono ?_
    rintro e wq ⟨rfl, rfl⟩
    go_wp2_with fail
    refine (wra_num_any 4 wg).mono ?_
    rintro e wq ⟨rfl, rfl⟩
    go_wp2_with fail
    go_ret
    exact ⟨rfl, HE.out⟩
  ·refine step_wp (by rfl) ?_
   refine wp_alloc_d (some 14) _ zero32 rfl rfl Tryd.zeroValue23 ?_
   obtain ⟨m1, hm1⟩ : ∃ wNew, wNew = World.alloc wd.drew (.cells (zero32).toArray 23) := ⟨_, rfl⟩
   rw [← hm1]
   have b1 : Ext wd.drew m1 := by rw [hm1]; exact Ext.alloc _ _
   obtain ⟨g1, hg1⟩ : ∃ gNew, gNew = (wd.drew).heap.size := ⟨_, rfl⟩
   rw [← hg1]
   have z1 : Blk m1 g1 zero32 23 := by rw [hm1, hg1]; exact Blk.made _ _ _
   have l1 : (wd).heap.size ≤ g1 := by rw [hg1]; exact B0.size
   clear hm1 hg1
   have N1 : Ext wd m1 := B0.trans b1
   refine hK.out _ _ N1 (fun hHeld => ?_)
   clear hK K
   try simp only [Act.put, nrm]
   refine wpAnyH_ready (rs := [1]) (by kernel_rfl) (by simp) (AllReadyH.cons rfl (fun K hK => ?_) AllReadyH.nil)
   refine step_wp (by rfl) ?_
   refine wp_make_d (some 43) _ _ _ _ _ _ _ rfl rfl rfl rfl (run_make_zeros _ _ _ Tryd.underlying25 i0 HI0.out HZ0.out HZ1.out HZ2.out 32 (by omega)) ?_
   obtain ⟨m2, hm2⟩ : ∃ wNew, wNew = World.alloc m1 (.cells ((zB 32).map bval).toArray 5) := ⟨_, rfl⟩
   rw [← hm2]
   have b2 : Ext m1 m2 := by rw [hm2]; exact Ext.alloc _ _
   obtain ⟨g2, hg2⟩ : ∃ gNew, gNew = (m1).heap.size := ⟨_, rfl⟩
   rw [← hg2]
   have z1 := z1.below b2
   have o2 : World.ownsRow m2 (wd).heap.size 5 1 (.slice (some ⟨g2, 0, none⟩) 32 32) 32 ((zB 32).map bval) := by rw [hm2, hg2]; exact own_made _ _ _ _ _ _ rfl (by rw [List.length_map, zB_length]) (by unfold maxLen; omega) N1.size
   have r2 := Row1.of_own o2
   clear hm2 hg2
   have N2 : Ext wd m2 := N1.trans b2
   refine hK.out _ _ N2 (fun hHeld => ?_)
   clear hK K
   try simp only [Act.put, nrm]
   refine wpAnyH_ready (rs := [3]) (by kernel_rfl) (by simp) (AllReadyH.cons rfl (fun K hK => ?_) AllReadyH.nil)
   refine step_wp (by rfl) ?_
   refine wp_append_row _ _ 25 rfl (wd).heap.size 5 i0 (.int .u8 0) 1 Tryd.underlying25 HI0.out HZ0.out HZ1.out HZ2.out rfl (.slice (some ⟨g2, 0, none⟩) 32 32) 32 _ rfl o2 rfl ((HR.out).below N2) (bval_one _) (by have := HbL.out; simp only [List.length_map]; unfold maxLen; omega) (by have := HbL.out; simp only [List.length_map]; omega) N2.size ?_
   intro v3 m3 ho3 hg3
   have N3 : Ext wd m3 := ext_own N2 o2 (Nat.le_refl _) hg3
   have z1 := z1.grown hg3 (fun e => own_ne_blk o2 z1 (by decide) (Option.some.inj e))
   have r3 : Row1 m3 v3 (((zB 32 ++ b)).map bval) := by have h := Row1.of_own ho3; simpa using h
   obtain ⟨a3, c3, hx3, _⟩ := id r3
   rw [List.length_map, List.length_append, zB_length, HbL.out] at hx3
   subst hx3
   refine hK.out _ _ N3 (fun hHeld => ?_)
   clear hK K
   try simp only [Act.put, nrm]
   refine wpAnyH_ready (rs := [4]) (by kernel_rfl) (by simp) (AllReadyH.cons rfl (fun K hK => ?_) AllReadyH.nil)
   go_simp
   refine (HU1.out m3 _ r3 (HG.out.ext (HE.out.trans N3))).mono ?_
   rintro e m4 ⟨rfl, b4⟩
   have r3 := r3.below b4
   have z1 := z1.below b4
   have N4 : Ext wd m4 := N3.trans b4
   refine hK.out _ _ N4 (fun hHeld => ?_)
   clear hK K
   try simp only [Act.put, nrm]
   refine wpAnyH_take (i := 5) (v := .tuple #[.agg (zer.map bval).toArray, .int .i64 21]) rfl (by kernel_rfl) (by kernel_rfl) (by kernel_rfl) (fun _ _ _ h => h) (yi_move _ (.tuple #[.agg (zer.map bval).toArray, .int .i64 21]) (by rfl) rfl rfl) hHeld ?_
   simp only [Act.put, nrm]
   refine wpAnyH_take (i := 6) (v := .agg ((zer).map bval).toArray) rfl (by kernel_rfl) (by kernel_rfl) (by kernel_rfl) (fun _ _ _ h => h) (yi_val (.agg ((zer).map bval).toArray) (by rfl) (fun w _ => by go_simp)) hHeld ?_
   simp only [Act.put, nrm]
   refine wpAnyH_take (i := 7) (v := .int .i64 21) rfl (by kernel_rfl) (by kernel_rfl) (by kernel_rfl) (fun _ _ _ h => h) (yi_val (.int .i64 21) (by rfl) (fun w _ => by go_simp)) hHeld ?_
   simp only [Act.put, nrm]
   refine wpAnyH_ready (rs := [9]) (by kernel_rfl) (by simp) (AllReadyH.cons rfl (fun K hK => ?_) AllReadyH.nil)
   refine step_wp (by rfl) ?_
   refine wp_store_blk _ _ _ rfl g1 ((zer).map bval) rfl rfl _ _ z1 (by rw [List.length_map, HZR.out]; rfl) (num_size (HZR.out)) (bval_one _) ?_
   intro m5 hb5 hg5
   have N5 : Ext wd m5 := ext_grown N4 hg5 l1
   refine hK.out _ _ N5 (fun hHeld => ?_)
   clear hK K
   try simp only [Act.put, nrm]
   refine wpAnyH_ready (rs := [10]) (by kernel_rfl) (by simp) (AllReadyH.cons rfl (fun K hK => ?_) AllReadyH.nil)
   go_simp
   refine hK.out _ _ N5 (fun hHeld => ?_)
   clear hK K
   try simp only [Act.put, nrm]
   refine wpAnyH_done (by kernel_rfl) ?_ _
   have HE := Lib.hid (HE.out.trans N5)
   have HR := Lib.hid (HR.out.below N5)
   have H1 := Lib.hid (ext_blk H1.out N5)
   have H2 := Lib.hid (ext_blk H2.out N5)
   have H3 := Lib.hid (ext_blk H3.out N5)
   clear r3
   generalize m5 = we at H1 H2 H3 HE HR ⊢
   go_wp2_with (first | (refine wpList_load_blk rfl _ _ rfl (A) rfl _ _ _ _ H1.out Tryd.underlying23 HIs.out ?_))
   refine (HU2.out we _ HR.out (HG.out.ext HE.out)).mono ?_
   rintro e wf ⟨rfl, hb⟩
   have H1 := Lib.hid (ext_blk H1.out hb)
   have H2 := Lib.hid (ext_blk H2.out hb)
   have H3 := Lib.hid (ext_blk H3.out hb)
   have HR := Lib.hid (HR.out.below hb)
   have HE := Lib.hid (HE.out.trans hb)
   clear hb
   have HZ := Lib.hid (Blk.made wf (ints .u8 (List.replicate 32 0)) 23)
   have HEA := Lib.hid (Ext.alloc wf (.cells (ints .u8 (List.replicate 32 0)).toArray 23))
   go_upto_region 8 with (refine wpList_store_blk rfl _ _ _ rfl wf.heap.size (zer.map bval) rfl rfl _ _ HZ.out HZzer.out HIzer.out (bval_one _) ?_; intro wg hb2 hg2)
   have HX := Lib.hid (ext_grown HEA.out hg2 (Nat.le_refl _))
   have H1 := Lib.hid (ext_blk H1.out HX.out)
   have H2 := Lib.hid (ext_blk H2.out HX.out)
   have H3 := Lib.hid (ext_blk H3.out HX.out)
   have HR := Lib.hid (HR.out.below HX.out)
   have HE := Lib.hid (HE.out.trans HX.out)
   have HD := Lib.hid hb2
   generalize wf.heap.size = D at *
   clear hb2 hg2 HZ HEA HX
   go_wp2_with fail
   refine (wra_num_any 21 wg).mono ?_
   rintro e wq ⟨rfl, rfl⟩
   go_wp2_with fail
   refine (wra_num_any 21 wg).mono ?_
   rintro e wq ⟨rfl, rfl⟩
   go_wp2_with fail
   refine (wra_num_any 21 wg).mono ?_
   rintro e wq ⟨rfl, rfl⟩
   go_wp2_with fail
   refine (wra_num_any 4 wg).mono ?_
   rintro e wq ⟨rfl, rfl⟩
   go_wp2_with fail
   go_ret
   exact ⟨rfl, HE.out⟩
 ·have h48' : ¬ (b.length : Int) = 48 := by omega
  go_wp2_with fail
  go_ret
  exact ⟨rfl, HE.out⟩
end Go.Proofs.YtimmnieopifcbaaDoor
