/- The walk of the reference's Root. Each theorem names its own conditions. -/
import Derived.Test.YtmiapjmdolecbaaDoorRefRootW
import Derived.Test.YtmiapjmdolecbaaDoorFldLawM
namespace Go.Proofs.YtmiapjmdolecbaaDoor
open Go.RowKit
set_option linter.unusedVariables false
set_option linter.unusedSimpArgs false

section
variable {P : Program} {ops : Array Oper} {Q : Exit → Act → World → Prop}
theorem wpList_run {rest : List Oper} {o : Oper} {a : Act} {w : World} (hg : o.guard = none) (v : Value) (h : (execOp a.eval o).run P w = .ok (.value v) w) (next : wpList P ops Q rest (a.put o.dst v) w) : wpList P ops Q (o :: rest) a w :=
  wpList_plain hg fun K hK => by
    unfold Oper.wp
    rw [h]
    exact hK _ _ next
theorem run_and1 {o : Oper} {a : Act} {w : World} {ty rt : TypeId} {x y : Operand} (n : Nat) (ho : o.op = .binOp .and ty x y rt) (hx : a.eval x = .int .u8 (n : Int)) (hy : a.eval y = .int .u8 1) :
    (execOp a.eval o).run P w = .ok (.value (.int .u8 ((n % 2 : Nat) : Int))) w := by
  rw [← andU1 n]
  unfold execOp bits
  simp [ho, hx, hy, eqGuard, binOp, Op.intBits]
theorem byte_odd2 {o : Oper} {a : Act} {ty rt : TypeId} {x y : Operand} {w : World} (n : Nat) (b : Bool) (hb : decide (n % 2 = 1) = b) (ho : o.op = .binOp .eql ty x y rt) (hx : a.eval x = .int .u8 ((n % 2 : Nat) : Int)) (hy : a.eval y = .int .u8 1) :
    (execOp a.eval o).run P w = .ok (.value (.bool b)) w := by
  rw [← hb]
  exact byte_odd n ho hx hy
end

theorem zero_el : IsEl (.agg (ints .i64 (List.replicate 16 0)).toArray) 0 := ⟨_, rfl, rfl, by decide +kernel, 0, by decide +kernel⟩
theorem neg_nb (r : Int) : nb (-r) = nb (((leN zer : Nat) : Int) - ((leN (nb r) : Nat) : Int)) := by
  rw [leN_zer, ← Int.zero_sub]
  exact nb_cong ((Cong.refl _).sub (nb_of r).symm)

set_option maxRecDepth 100000 in
set_option maxHeartbeats 8000000 in
theorem rRoot_num (l : List UInt8) (w : World) (hl : l.length = 32) (hG : Glob w) :
    Calls Tryd.prog 6 #[.agg (l.map bval).toArray] w fun e w' => e = .returned (.tuple #[.agg ((rootN ((leN l : Nat) : Int)).map bval).toArray, .bool (rootB ((leN l : Nat) : Int))]) ∧ Below w.heap.size w w' := by
  have HL := Lib.hid hl
  have HBX := Lib.hid (boxes2 w (l.map bval) (ints .u8 (List.replicate 32 0)) 23 23)
  have HI1 : Hid ((Tryd.prog.info? 23).map (·.size) = some (l.map bval).length) := Lib.hid (by rw [List.length_map, hl]; exact Tryd.arr23)
  have HGW := Lib.hid hG
  have HIN := Lib.hid (fun w' => rin_el l w' hl)
  clear hl hG
  obtain ⟨x, hx⟩ : ∃ c, c = ((leN l : Nat) : Int) := ⟨_, rfl⟩
  rw [← hx] at HIN ⊢
  clear hx
  go_enter Tryd.func6, Tryd.ntmps6
  go_wp2_with (refine wpList_load_blk rfl _ _ rfl w.heap.size rfl _ _ _ _ HBX.out.1 Tryd.underlying23 HI1.out ?_)
  change Calls _ _ _ ((w.alloc (.cells (l.map bval).toArray 23)).alloc (.cells (ints .u8 (List.replicate 32 0)).toArray 23)) _
  generalize (w.alloc (.cells (l.map bval).toArray 23)).alloc (.cells (ints .u8 (List.replicate 32 0)).toArray 23) = w0 at *
  obtain ⟨h1, h2, h3⟩ := HBX.out
  obtain ⟨A, hA⟩ : ∃ A, A = w.heap.size := ⟨_, rfl⟩
  rw [← hA] at h1 h2 ⊢
  have hA2 : w.heap.size ≤ A := by omega
  have H2 := Lib.hid h2
  have HE : Hid (Ext w w0) := Lib.hid h3
  clear h1 h2 h3 HBX hA
  refine (HIN.out _).mono ?_
  rintro e w1 ⟨r1, rfl, e1, b1⟩
  have HR1 := Lib.hid e1
  have H2 := Lib.hid (ext_blk H2.out b1)
  have HE := Lib.hid (HE.out.trans b1)
  clear e1 b1
  go_wp2_with fail
  refine (rroot_any _ _ _ HR1.out (HGW.out.ext HE.out)).mono ?_
  rintro e w2 ⟨⟨r2, rfl, e2⟩, b2⟩
  obtain ⟨R, hR⟩ : ∃ r, r = rootR x := ⟨_, rfl⟩
  rw [← hR] at e2
  have HRR := Lib.hid hR
  obtain ⟨zs, rfl, lz, bz, qz, vz⟩ := id e2
  have HZE := Lib.hid e2
  have HIZ : Hid ((Tryd.prog.info? 42).map (·.size) = some (ints .i64 zs).length) := Lib.hid (by rw [ints_length, lz]; exact Tryd.arr42)
  have HLZ := Lib.hid lz
  have H2 := Lib.hid (ext_blk H2.out b2)
  have HE := Lib.hid (HE.out.trans b2)
  clear e2 b2 bz vz lz hR
  have HD := Lib.hid (Blk.made w2 (ints .i64 (List.replicate 16 0)) 42)
  have HX := Lib.hid (Ext.alloc w2 (.cells (ints .i64 (List.replicate 16 0)).toArray 42))
  have HK2 := Lib.hid (ext_blk H2.out HX.out)
  have hl2 := H2.out.lt
  obtain ⟨pb, hpb⟩ : ∃ b, b = rootB x := ⟨_, rfl⟩
  have HPB := Lib.hid hpb
  rw [← hpb]
  clear hpb
  cases pb
  · have hns : ¬ nb (R * R) = nb x := fun h => by have := rootB_true2 HRR.out h; rw [← HPB.out] at this; cases this
    have HNS := Lib.hid hns
    clear hns
    go_wp2_with (first | (refine wpList_store_blk rfl _ _ _ rfl w2.heap.size (ints .i64 zs) rfl rfl _ _ HD.out (by rw [ints_length, ints_length, HLZ.out]; rfl) HIZ.out (ints_one _ _) ?_; intro w5 hb5 hg5; have n2 := HK2.out.grown hg5 (by simp; omega)) | (refine wpList_store_blk rfl _ _ _ rfl (A + 1) zero32 rfl rfl _ _ n2 rfl Tryd.arr23 (ints_one _ _) ?_; intro w6 hb6 hg6))
    rw [← zer_zero32] at hb6
    exact bodyPost_ret (result_row_tmp (p := 2) (u := 3) (by rfl) _ (A + 1) _ _ _ (by rfl) hb6 Tryd.underlying23 rfl zer_size) rfl ⟨by rw [rootN_false2 HRR.out HNS.out, ← HPB.out]; rfl, ext_grown (ext_grown (HE.out.trans HX.out) hg5 HE.out.size) hg6 (by omega)⟩
  · have hns : nb (R * R) = nb x := by
      apply Classical.byContradiction
      intro h
      have := rootB_false2 HRR.out h
      rw [← HPB.out] at this
      cases this
    have HNS := Lib.hid hns
    clear hns
    go_wp2_with (first | (refine wpList_store_blk rfl _ _ _ rfl w2.heap.size (ints .i64 zs) rfl rfl _ _ HD.out (by rw [ints_length, ints_length, HLZ.out]; rfl) HIZ.out (ints_one _ _) ?_; intro w5 hb5 hg5) | (refine wpList_load_blk rfl _ _ rfl w2.heap.size rfl _ _ _ _ hb5 Tryd.underlying42 HIZ.out ?_))
    obtain ⟨c, hc⟩ : ∃ c, c = w2.heap.size := ⟨_, rfl⟩
    rw [← hc] at hb5 hg5 hl2 ⊢
    have hwc : w.heap.size ≤ c := by have := HE.out.size; omega
    have H2 := Lib.hid (HK2.out.grown hg5 (by simp; omega))
    have HE := Lib.hid (ext_grown (HE.out.trans HX.out) hg5 hwc)
    have HC := Lib.hid hb5
    clear hb5 hg5 HK2 HX HD hc
    refine (rout_any _ _ _ HZE.out).mono ?_
    rintro e w6 ⟨rfl, b6⟩
    have H2 := Lib.hid (ext_blk H2.out b6)
    have HC := Lib.hid (ext_blk HC.out b6)
    have HE := Lib.hid (HE.out.trans b6)
    clear b6
    have HD := Lib.hid (Blk.made w6 zero32 23)
    have HX := Lib.hid (Ext.alloc w6 (.cells zero32.toArray 23))
    have HK2 := Lib.hid (ext_blk H2.out HX.out)
    have HKC := Lib.hid (ext_blk HC.out HX.out)
    have hlc := HC.out.lt
    obtain ⟨n, hn⟩ : ∃ n, n = ((nb R).getD 0 0).toNat := ⟨_, rfl⟩
    have HN := Lib.hid hn
    clear hn
    have HE0 : Hid (∀ w, Blk w w6.heap.size ((nb R).map bval) 23 → w.cell? ⟨w6.heap.size, 0, none⟩ = some (.int .u8 (n : Int))) := Lib.hid (fun w h => by rw [HN.out]; exact (h.cell 0).trans (bval_get (by rw [nb_length]; omega)))
    by_cases hod : n % 2 = 1
    · have HOD := Lib.hid hod
      clear hod
      go_wp2_with (first | (refine wpList_store_blk rfl _ _ _ rfl w6.heap.size ((nb R).map bval) rfl rfl _ _ HD.out (nb_len _) (nb_size _) (bval_one _) ?_; intro w7 hb7 hg7; have e0 := HE0.out _ hb7; have nC := HKC.out.grown hg7 (by simp; omega)) | (refine wpList_run rfl (.int .u8 ((n % 2 : Nat) : Int)) (run_and1 n rfl rfl rfl) ?_) | (refine wpList_run rfl (.bool true) (byte_odd2 n true (decide_eq_true HOD.out) rfl rfl rfl) ?_) | (refine wpList_load_blk rfl _ _ rfl c rfl _ _ _ _ nC Tryd.underlying42 HIZ.out ?_))
      obtain ⟨d, hd⟩ : ∃ c, c = w6.heap.size := ⟨_, rfl⟩
      rw [← hd] at hb7 hg7 hlc ⊢
      have hwd : w.heap.size ≤ d := by have := HE.out.size; omega
      have H2 := Lib.hid (HK2.out.grown hg7 (by simp; omega))
      have HE := Lib.hid (ext_grown (HE.out.trans HX.out) hg7 hwd)
      have HD := Lib.hid hb7
      clear hb7 hg7 HK2 HKC HX HE0 hd e0 nC
      refine (rsub_any (.agg (ints .i64 (List.replicate 16 0)).toArray) _ 0 _ _ zero_el HZE.out).mono ?_
      rintro e w8 ⟨r8, rfl, e8, b8⟩
      rw [Int.zero_sub] at e8
      have H2 := Lib.hid (ext_blk H2.out b8)
      have HD := Lib.hid (ext_blk HD.out b8)
      have HE := Lib.hid (HE.out.trans b8)
      have HR8 := Lib.hid e8
      clear b8 e8
      go_wp2_with fail
      refine (rout_any _ _ _ HR8.out).mono ?_
      rintro e w9 ⟨rfl, b9⟩
      have H2 := Lib.hid (ext_blk H2.out b9)
      have HD := Lib.hid (ext_blk HD.out b9)
      have HE := Lib.hid (HE.out.trans b9)
      clear b9
      go_wp2_with (first | (refine wpList_store_blk rfl _ _ _ rfl d ((nb (-R)).map bval) rfl rfl _ _ HD.out ((nb_len (-R)).trans (nb_len R).symm) (nb_size _) (bval_one _) ?_; intro wa hba hga; have n2 := H2.out.grown hga (by simp; omega)) | (refine wpList_load_blk rfl _ _ rfl d rfl _ _ _ _ hba Tryd.underlying23 (nb_size _) ?_) | (refine wpList_store_blk rfl _ _ _ rfl (A + 1) ((nb (-R)).map bval) rfl rfl _ _ n2 (nb_len _) (nb_size _) (bval_one _) ?_; intro wb hbb hgb))
      have HQ : rootN x = nb (-R) := by
        rw [← rootN_true2 HRR.out HNS.out, ← HN.out, decide_eq_true HOD.out, neg_nb]
        rfl
      exact bodyPost_ret (result_row_tmp (p := 2) (u := 3) (by rfl) _ (A + 1) _ _ _ (by rfl) hbb Tryd.underlying23 rfl (nb_size _)) rfl ⟨by rw [HQ, ← HPB.out]; rfl, ext_grown (ext_grown HE.out hga hwd) hgb (by omega)⟩
    · have HOD := Lib.hid hod
      clear hod
      go_wp2_with (first | (refine wpList_store_blk rfl _ _ _ rfl w6.heap.size ((nb R).map bval) rfl rfl _ _ HD.out (nb_len _) (nb_size _) (bval_one _) ?_; intro w7 hb7 hg7; have e0 := HE0.out _ hb7; have n2 := HK2.out.grown hg7 (by simp; omega)) | (refine wpList_run rfl (.int .u8 ((n % 2 : Nat) : Int)) (run_and1 n rfl rfl rfl) ?_) | (refine wpList_run rfl (.bool false) (byte_odd2 n false (decide_eq_false HOD.out) rfl rfl rfl) ?_) | (refine wpList_load_blk rfl _ _ rfl w6.heap.size rfl _ _ _ _ hb7 Tryd.underlying23 (nb_size _) ?_) | (refine wpList_store_blk rfl _ _ _ rfl (A + 1) ((nb R).map bval) rfl rfl _ _ n2 (nb_len _) (nb_size _) (bval_one _) ?_; intro wb hbb hgb))
      have HQ : rootN x = nb R := by
        rw [← rootN_true2 HRR.out HNS.out, ← HN.out, decide_eq_false HOD.out]
        rfl
      exact bodyPost_ret (result_row_tmp (p := 2) (u := 3) (by rfl) _ (A + 1) _ _ _ (by rfl) hbb Tryd.underlying23 rfl (nb_size _)) rfl ⟨by rw [HQ, ← HPB.out]; rfl, ext_grown (ext_grown (HE.out.trans HX.out) hg7 HE.out.size) hgb (by omega)⟩

end Go.Proofs.YtmiapjmdolecbaaDoor
