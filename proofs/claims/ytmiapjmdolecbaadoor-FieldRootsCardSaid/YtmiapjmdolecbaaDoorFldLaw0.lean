/- The walks of what every law of chapter 3 begins with: small, alive. Each theorem names its own conditions. -/
import Derived.Test.YtmiapjmdolecbaaDoorFldTop2
import Derived.Test.YtmiapjmdolecbaaDoorDetEql
namespace Go.Proofs.YtmiapjmdolecbaaDoor
open Go.RowKit
set_option linter.unusedVariables false
set_option linter.unusedSimpArgs false

/-- A small number's bytes. -/
def smL (n : UInt8) : List UInt8 := n :: List.replicate 31 0
theorem smL_length (n : UInt8) : (smL n).length = 32 := by simp [smL]
theorem smL_size (n : UInt8) : (Tryd.prog.info? 23).map (·.size) = some ((smL n).map bval).length := by rw [List.length_map, smL_length]; exact Tryd.arr23
theorem leN_zeros : ∀ k, leN (List.replicate k 0) = 0
  | 0 => rfl
  | k + 1 => by rw [List.replicate_succ, leN, leN_zeros k]; rfl
theorem leN_smL (n : UInt8) : leN (smL n) = n.toNat := by
  unfold smL
  rw [leN, leN_zeros]
  omega
def zer : List UInt8 := List.replicate 32 0
theorem zer_length : zer.length = 32 := by simp [zer]
theorem leN_zer : leN zer = 0 := leN_zeros 32
theorem leN_nb (x : Int) : ((leN (nb x) : Nat) : Int) = x % pP := by
  have h0 : 0 ≤ x % pP := Int.emod_nonneg x (by decide +kernel)
  have h1 : x % pP < pP := Int.emod_lt_of_pos x (by decide +kernel)
  have hp : pP < 256 ^ 32 := by decide +kernel
  unfold nb
  rw [leN_bytesN, Nat.mod_eq_of_lt, Int.toNat_of_nonneg h0]
  have : ((x % pP).toNat : Int) < ((256 ^ 32 : Nat) : Int) := by
    rw [Int.toNat_of_nonneg h0]
    exact Int.lt_trans h1 hp
  omega
theorem nb_of (x : Int) : Cong ((leN (nb x) : Nat) : Int) x := by
  rw [leN_nb]
  exact cong_mod x

set_option maxHeartbeats 2000000 in
theorem small_any (n : UInt8) (w : World) :
    Calls Tryd.prog 11 #[.int .u8 (n.toNat : Int)] w fun e w' => e = .returned (.agg ((smL n).map bval).toArray) ∧ Below w.heap.size w w' := by
  have HB := Lib.hid (Blk.made w zero32 23)
  have HE := Lib.hid (Ext.alloc w (.cells zero32.toArray 23))
  go_enter Tryd.func11, Tryd.ntmps11
  go_wp2_with (refine wpList_store_blk rfl _ _ _ rfl w.heap.size ((smL n).map bval) rfl rfl _ _ HB.out (by rw [List.length_map, smL_length]; rfl) (smL_size n) (bval_one _) ?_; intro w5 hb5 hg5)
  exact bodyPost_ret (v := .agg ((smL n).map bval).toArray) (result_row (by rfl) _ w.heap.size _ _ _ (by rfl) hb5 Tryd.underlying23 rfl (smL_size n)) rfl ⟨rfl, ext_grown HE.out hg5 (Nat.le_refl _)⟩

theorem alive1 : nb (((leN (nb (((leN (smL 0) : Nat) : Int) - (leN (smL 1) : Nat))) : Nat) : Int) + (leN (smL 2) : Nat)) = smL 1 := by decide +kernel
theorem alive2 : nb ((leN (smL 3) : Nat) : Int) = smL 3 := by decide +kernel

set_option maxRecDepth 100000 in
set_option maxHeartbeats 4000000 in
theorem alive_any (w : World) : Calls Tryd.prog 4 #[] w fun e w' => e = .returned (.bool true) ∧ Below w.heap.size w w' := by
  go_enter Tryd.func4, Tryd.ntmps4
  have HE : Hid (Ext w w) := Lib.hid (Ext.refl w)
  go_wp2_with fail
  refine (small_any 0 _).mono ?_
  rintro e w1 ⟨rfl, hb⟩
  have HE := Lib.hid (HE.out.trans hb)
  clear hb
  go_wp2_with fail
  refine (small_any 1 _).mono ?_
  rintro e w2 ⟨rfl, hb⟩
  have HE := Lib.hid (HE.out.trans hb)
  clear hb
  go_wp2_with fail
  refine (Sub_num (smL 0) (smL 1) _ (smL_length _) (smL_length _)).mono ?_
  rintro e w3 ⟨rfl, hb⟩
  have HE := Lib.hid (HE.out.trans hb)
  clear hb
  go_wp2_with fail
  refine (small_any 2 _).mono ?_
  rintro e w4 ⟨rfl, hb⟩
  have HE := Lib.hid (HE.out.trans hb)
  clear hb
  go_wp2_with fail
  refine (Add_num (nb (((leN (smL 0) : Nat) : Int) - (leN (smL 1) : Nat))) (smL 2) _ (nb_length _) (smL_length _)).mono ?_
  rintro e w5 ⟨rfl, hb⟩
  have HE := Lib.hid (HE.out.trans hb)
  clear hb
  go_wp2_with fail
  refine (small_any 1 _).mono ?_
  rintro e w6 ⟨rfl, hb⟩
  have HE := Lib.hid (HE.out.trans hb)
  clear hb
  go_wp2_with (refine wpList_eql (by rfl) _ _ _ _ _ _ 32 _ (nb (((leN (nb (((leN (smL 0) : Nat) : Int) - (leN (smL 1) : Nat))) : Nat) : Int) + (leN (smL 2) : Nat))) (smL 1) true rfl (Or.inl ⟨rfl, decide_eq_true alive1⟩) Tryd.underlying23 Tryd.underlying5 num_info num_cells num_guard rfl rfl (nb_length _) (smL_length _) ?_)
  refine (small_any 3 _).mono ?_
  rintro e w7 ⟨rfl, hb⟩
  have HE := Lib.hid (HE.out.trans hb)
  clear hb
  go_wp2_with fail
  refine (Canon_num (smL 3) _ (smL_length _)).mono ?_
  rintro e w8 ⟨rfl, hb⟩
  have HE := Lib.hid (HE.out.trans hb)
  clear hb
  go_wp2_with fail
  refine (small_any 3 _).mono ?_
  rintro e w9 ⟨rfl, hb⟩
  have HE := Lib.hid (HE.out.trans hb)
  clear hb
  go_wp2_with (refine wpList_eql (by rfl) _ _ _ _ _ _ 32 _ (nb ((leN (smL 3) : Nat) : Int)) (smL 3) true rfl (Or.inl ⟨rfl, decide_eq_true alive2⟩) Tryd.underlying23 Tryd.underlying5 num_info num_cells num_guard rfl rfl (nb_length _) (smL_length _) ?_)
  go_ret
  exact ⟨rfl, HE.out⟩

theorem build_zer (w : World) : (Instr.build 23 #[]).run Tryd.prog w = .ok (.agg (zer.map bval).toArray) w := by
  simp [Instr.build, Tryd.zeroValue23]
  rfl

end Go.Proofs.YtmiapjmdolecbaaDoor
