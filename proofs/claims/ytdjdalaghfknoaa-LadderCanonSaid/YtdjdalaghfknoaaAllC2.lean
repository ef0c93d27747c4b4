/- Texts that belong together, one behind the other; each says in its own first remark what it shows. -/
import Derived.Test.YtdjdalaghfknoaaAllC1
import Derived.Deep.CutRange
import Derived.Test.YtdjdalaghfknoaaEdwByte
import Derived.Test.YtdjdalaghfknoaaArrKit
import Derived.Test.YtdjdalaghfknoaaDetSteps
import Derived.Test.YtdjdalaghfknoaaU8Kit
import Derived.Test.YtdjdalaghfknoaaNumKit
import Derived.Test.YtdjdalaghfknoaaRowMore
import Derived.Laws.Slices
import Derived.Test.YtdjdalaghfknoaaRefLadS
import Derived.Test.YtdjdalaghfknoaaEdwRun
import Derived.Test.YtdjdalaghfknoaaDetLoad

/- The walks of the code's own steps of the ladder: square, pickedPoint, picked, sum, twice, climbed. Each theorem names its own conditions. -/
namespace Go.Proofs.Ytdjdalaghfknoaa
open Go.RowKit
set_option linter.unusedVariables false
set_option linter.unusedSimpArgs false

def sumX (ax az bx bz : Fp) : Fp := ((ax - az) * (bx + bz) + (ax + az) * (bx - bz)) * ((ax - az) * (bx + bz) + (ax + az) * (bx - bz))
def sumZ (ax az bx bz u : Fp) : Fp := u * (((ax - az) * (bx + bz) - (ax + az) * (bx - bz)) * ((ax - az) * (bx + bz) - (ax + az) * (bx - bz)))
def dblX (x z : Fp) : Fp := (x + z) * (x + z) * ((x - z) * (x - z))
def dblZ (x z : Fp) : Fp := ((x + z) * (x + z) - (x - z) * (x - z)) * ((x + z) * (x + z) + fp 121665 * ((x + z) * (x + z) - (x - z) * (x - z)))
def cB : List UInt8 := [65, 219, 1] ++ List.replicate 29 0
theorem cB_f : F32 cB (fp 121665) := by
  refine ⟨by simp [cB], ?_⟩
  have h : leN cB = 121665 := by decide +kernel
  rw [h]
  rfl
theorem build_c (w : World) : (Instr.build 23 #[(0, .int .u8 65), (1, .int .u8 219), (2, .int .u8 1)]).run Try.prog w = .ok (.agg (cB.map bval).toArray) w := by
  refine run_build w _ _ _ ?_
  kernel_rfl

set_option maxRecDepth 100000 in
set_option maxHeartbeats 4000000 in
theorem lsq_f {a : List UInt8} {f : Fp} (w : World) (ha : F32 a f) : Calls Try.prog 47 #[.agg (a.map bval).toArray] w fun e w' => e = .returned (.agg ((nbF (f * f)).map bval).toArray) ∧ Below w.heap.size w w' := by
  have Ha := Lib.hid ha
  clear ha
  have HB := Lib.hid (boxes2 w ((a).map bval) (ints .u8 (List.replicate 32 0)) 23 23)
  go_enter Try.func47, Try.ntmps47
  go_upto_region 1 with (fail)
  obtain ⟨H1, H2, HE⟩ := HB.out
  change Code.wp _ _ _ _ (World.alloc (World.alloc w (.cells ((a).map bval).toArray 23)) (.cells (ints .u8 (List.replicate 32 0)).toArray 23))
  generalize (World.alloc (World.alloc w (.cells ((a).map bval).toArray 23)) (.cells (ints .u8 (List.replicate 32 0)).toArray 23)) = wa at *
  obtain ⟨A, hA⟩ : ∃ A, A = w.heap.size := ⟨_, rfl⟩
  have HAW : Hid (w.heap.size ≤ A) := Lib.hid (by omega)
  rw [← hA] at H1 H2 ⊢
  have H1 := Lib.hid H1
  have H2 := Lib.hid H2
  have HE : Hid (Ext w wa) := Lib.hid HE
  clear hA HB
  go_wp2_with (first | (refine wpList_load_blk rfl _ _ rfl A rfl _ _ _ _ H1.out Try.underlying23 (num_size Ha.out.1) ?_))
  refine (fmul_f _ Ha.out Ha.out).mono ?_
  rintro e w5 ⟨rfl, hb⟩
  have H2 := Lib.hid (ext_blk H2.out hb)
  have HE := Lib.hid (HE.out.trans hb)
  have HZ := Lib.hid (nbF_length (f * f))
  obtain ⟨z, hz⟩ : ∃ z, z = nbF (f * f) := ⟨_, rfl⟩
  rw [← hz] at HZ ⊢
  have HZQ := Lib.hid hz
  clear hz
  have HL : Hid ((z.map bval).length = (ints .u8 (List.replicate 32 0)).length) := Lib.hid (by rw [List.length_map, HZ.out]; rfl)
  go_wp2_with (refine wpList_store_blk rfl _ _ _ rfl (A + 1) (z.map bval) rfl rfl _ _ H2.out HL.out (num_size HZ.out) (bval_one _) ?_; intro w8 hb8 hg8)
  exact bodyPost_ret (result_row (by rfl) _ (A + 1) _ _ _ (by rfl) hb8 Try.underlying23 rfl (num_size HZ.out)) rfl ⟨by rw [HZQ.out], ext_grown HE.out hg8 (by have := HAW.out; omega)⟩

set_option maxRecDepth 100000 in
set_option maxHeartbeats 4000000 in
theorem lpickp_any {ax az bx bz : List UInt8} (s : Bool) (w : World) (hax : F32 ax (fp (leN ax))) (haz : F32 az (fp (leN az))) (hbx : F32 bx (fp (leN bx))) (hbz : F32 bz (fp (leN bz))) : Calls Try.prog 48 #[.agg (ptN ax az).toArray, .agg (ptN bx bz).toArray, .bool s] w fun e w' => e = .returned (.agg (ptN (pkL s ax bx) (pkL s az bz)).toArray) ∧ Below w.heap.size w w' := by
  have Hax := Lib.hid hax
  have Haz := Lib.hid haz
  have Hbx := Lib.hid hbx
  have Hbz := Lib.hid hbz
  clear hax haz hbx hbz
  have HX : Hid (F32 (pkL s ax bx) (if s then fp (leN bx) else fp (leN ax))) := Lib.hid (F32.pk s Hax.out Hbx.out)
  have HZ : Hid (F32 (pkL s az bz) (if s then fp (leN bz) else fp (leN az))) := Lib.hid (F32.pk s Haz.out Hbz.out)
  have HB := Lib.hid (boxes3 w (ptN ax az) (ptN bx bz) zpt 43 43 43)
  go_enter Try.func48, Try.ntmps48
  go_upto_region 1 with (fail)
  obtain ⟨H1, H2, H3, HE⟩ := HB.out
  change Code.wp _ _ _ _ (World.alloc (World.alloc (World.alloc w (.cells (ptN ax az).toArray 43)) (.cells (ptN bx bz).toArray 43)) (.cells zpt.toArray 43))
  generalize (World.alloc (World.alloc (World.alloc w (.cells (ptN ax az).toArray 43)) (.cells (ptN bx bz).toArray 43)) (.cells zpt.toArray 43)) = wa at *
  obtain ⟨A, hA⟩ : ∃ A, A = w.heap.size := ⟨_, rfl⟩
  have HAW : Hid (w.heap.size ≤ A) := Lib.hid (by omega)
  rw [← hA] at H1 H2 H3 ⊢
  have H1 := Lib.hid H1
  have H2 := Lib.hid H2
  have H3 := Lib.hid H3
  have HE : Hid (Ext w wa) := Lib.hid HE
  clear hA HB
  go_wp2_with fail
  refine wp_region_from 13 1 13 rfl (by kernel_rfl) (by kernel_rfl) (fun d v c a w h => by cases d <;> exact h) (by kernel_rfl) ?_
  refine det_fieldk _ _ A _ 0 0 (by rfl) rfl rfl (fun w => by go_simp) ?_
  simp only [Act.put, List.getElem_toArray, List.getElem_cons_zero, List.getElem_cons_succ, List.setIfInBounds_toArray, List.set_cons_zero, List.set_cons_succ]
  refine det_loadk _ _ A 0 ((ax).map bval) _ (by rfl) rfl rfl (fun w hw => ptN_x ((ext_blk H1.out hw).range)) Try.underlying23 rfl (num_size Hax.out.1) ?_
  simp only [Act.put, List.getElem_toArray, List.getElem_cons_zero, List.getElem_cons_succ, List.setIfInBounds_toArray, List.set_cons_zero, List.set_cons_succ]
  refine det_fieldk _ _ (A + 1) _ 0 0 (by rfl) rfl rfl (fun w => by go_simp) ?_
  simp only [Act.put, List.getElem_toArray, List.getElem_cons_zero, List.getElem_cons_succ, List.setIfInBounds_toArray, List.set_cons_zero, List.set_cons_succ]
  refine det_loadk _ _ (A + 1) 0 ((bx).map bval) _ (by rfl) rfl rfl (fun w hw => ptN_x ((ext_blk H2.out hw).range)) Try.underlying23 rfl (num_size Hbx.out.1) ?_
  simp only [Act.put, List.getElem_toArray, List.getElem_cons_zero, List.getElem_cons_succ, List.setIfInBounds_toArray, List.set_cons_zero, List.set_cons_succ]
  refine det_move _ (.bool s) (by rfl) rfl rfl ?_
  simp only [Act.put, List.getElem_toArray, List.getElem_cons_zero, List.getElem_cons_succ, List.setIfInBounds_toArray, List.set_cons_zero, List.set_cons_succ]
  refine det_call _ _ _ [.agg ((ax).map bval).toArray, .agg ((bx).map bval).toArray, .bool s] (.agg ((pkL s ax bx).map bval).toArray) (by rfl) rfl Try.call55 rfl (fun w hw => fpick_f s w Hax.out.1 Hbx.out.1) ?_
  simp only [Act.put, List.getElem_toArray, List.getElem_cons_zero, List.getElem_cons_succ, List.setIfInBounds_toArray, List.set_cons_zero, List.set_cons_succ]
  refine det_fieldk _ _ A _ 0 32 (by rfl) rfl rfl (fun w => by go_simp) ?_
  simp only [Act.put, List.getElem_toArray, List.getElem_cons_zero, List.getElem_cons_succ, List.setIfInBounds_toArray, List.set_cons_zero, List.set_cons_succ]
  refine det_loadk _ _ A 32 ((az).map bval) _ (by rfl) rfl rfl (fun w hw => ptN_z ((ext_blk H1.out hw).range) Hax.out.1 rfl) Try.underlying23 rfl (num_size Haz.out.1) ?_
  simp only [Act.put, List.getElem_toArray, List.getElem_cons_zero, List.getElem_cons_succ, List.setIfInBounds_toArray, List.set_cons_zero, List.set_cons_succ]
  refine det_fieldk _ _ (A + 1) _ 0 32 (by rfl) rfl rfl (fun w => by go_simp) ?_
  simp only [Act.put, List.getElem_toArray, List.getElem_cons_zero, List.getElem_cons_succ, List.setIfInBounds_toArray, List.set_cons_zero, List.set_cons_succ]
  refine det_loadk _ _ (A + 1) 32 ((bz).map bval) _ (by rfl) rfl rfl (fun w hw => ptN_z ((ext_blk H2.out hw).range) Hbx.out.1 rfl) Try.underlying23 rfl (num_size Hbz.out.1) ?_
  simp only [Act.put, List.getElem_toArray, List.getElem_cons_zero, List.getElem_cons_succ, List.setIfInBounds_toArray, List.set_cons_zero, List.set_cons_succ]
  refine det_move _ (.bool s) (by rfl) rfl rfl ?_
  simp only [Act.put, List.getElem_toArray, List.getElem_cons_zero, List.getElem_cons_succ, List.setIfInBounds_toArray, List.set_cons_zero, List.set_cons_succ]
  refine det_call _ _ _ [.agg ((az).map bval).toArray, .agg ((bz).map bval).toArray, .bool s] (.agg ((pkL s az bz).map bval).toArray) (by rfl) rfl Try.call55 rfl (fun w hw => fpick_f s w Haz.out.1 Hbz.out.1) ?_
  simp only [Act.put, List.getElem_toArray, List.getElem_cons_zero, List.getElem_cons_succ, List.setIfInBounds_toArray, List.set_cons_zero, List.set_cons_succ]
  refine det_build _ _ #[(0, .agg ((pkL s ax bx).map bval).toArray), (1, .agg ((pkL s az bz).map bval).toArray)] (.agg (ptN (pkL s ax bx) (pkL s az bz)).toArray) (by rfl) rfl (by simp [Act.eval]) (build_ptN HX.out.1 HZ.out.1) ?_
  simp only [Act.put, List.getElem_toArray, List.getElem_cons_zero, List.getElem_cons_succ, List.setIfInBounds_toArray, List.set_cons_zero, List.set_cons_succ]
  refine det_nil (end_set (k := 13) _ _ _ _ (A + 1 + 1) (ptN (pkL s ax bx) (pkL s az bz)) zpt rfl (by kernel_rfl) (by kernel_rfl) (by kernel_rfl) rfl rfl rfl rfl H3.out ((ptN_length HX.out.1 HZ.out.1).trans zpt_length.symm) (ptN_size HX.out.1 HZ.out.1) (ptN_one _ _) (fun w8 hb8 hg8 => ?_))
  simp only [Act.put]
  go_wp2_with fail
  exact bodyPost_ret (result_row (by rfl) _ (A + 1 + 1) _ _ _ (by rfl) hb8 Try.underlying43 rfl (ptN_size HX.out.1 HZ.out.1)) rfl ⟨rfl, ext_grown HE.out hg8 (by have := HAW.out; omega)⟩

set_option maxRecDepth 100000 in
set_option maxHeartbeats 4000000 in
theorem lpick_any {a b c d p q r t : List UInt8} (s : Bool) (w : World) (ha : F32 a (fp (leN a))) (hb : F32 b (fp (leN b))) (hc : F32 c (fp (leN c))) (hd : F32 d (fp (leN d))) (hp : F32 p (fp (leN p))) (hq : F32 q (fp (leN q))) (hr : F32 r (fp (leN r))) (ht : F32 t (fp (leN t))) : Calls Try.prog 34 #[.agg (rgN a b c d).toArray, .agg (rgN p q r t).toArray, .bool s] w fun e w' => e = .returned (.agg (rgN (pkL s a p) (pkL s b q) (pkL s c r) (pkL s d t)).toArray) ∧ Below w.heap.size w w' := by
  have Ha := Lib.hid ha
  have Hb := Lib.hid hb
  have Hc := Lib.hid hc
  have Hd := Lib.hid hd
  have Hp := Lib.hid hp
  have Hq := Lib.hid hq
  have Hr := Lib.hid hr
  have Ht := Lib.hid ht
  clear ha hb hc hd hp hq hr ht
  have HXa : Hid (F32 (pkL s a p) (if s then fp (leN p) else fp (leN a))) := Lib.hid (F32.pk s Ha.out Hp.out)
  have HXb : Hid (F32 (pkL s b q) (if s then fp (leN q) else fp (leN b))) := Lib.hid (F32.pk s Hb.out Hq.out)
  have HXc : Hid (F32 (pkL s c r) (if s then fp (leN r) else fp (leN c))) := Lib.hid (F32.pk s Hc.out Hr.out)
  have HXd : Hid (F32 (pkL s d t) (if s then fp (leN t) else fp (leN d))) := Lib.hid (F32.pk s Hd.out Ht.out)
  have HB := Lib.hid (boxes3 w (rgN a b c d) (rgN p q r t) zrg 45 45 45)
  go_enter Try.func34, Try.ntmps34
  go_upto_region 1 with (fail)
  obtain ⟨H1, H2, H3, HE⟩ := HB.out
  change Code.wp _ _ _ _ (World.alloc (World.alloc (World.alloc w (.cells (rgN a b c d).toArray 45)) (.cells (rgN p q r t).toArray 45)) (.cells zrg.toArray 45))
  generalize (World.alloc (World.alloc (World.alloc w (.cells (rgN a b c d).toArray 45)) (.cells (rgN p q r t).toArray 45)) (.cells zrg.toArray 45)) = wa at *
  obtain ⟨A, hA⟩ : ∃ A, A = w.heap.size := ⟨_, rfl⟩
  have HAW : Hid (w.heap.size ≤ A) := Lib.hid (by omega)
  rw [← hA] at H1 H2 H3 ⊢
  have H1 := Lib.hid H1
  have H2 := Lib.hid H2
  have H3 := Lib.hid H3
  have HE : Hid (Ext w wa) := Lib.hid HE
  clear hA HB
  go_wp2_with fail
  refine wp_region_from 13 1 13 rfl (by kernel_rfl) (by kernel_rfl) (fun d v c a w h => by cases d <;> exact h) (by kernel_rfl) ?_
  refine det_fieldk _ _ A _ 0 0 (by rfl) rfl rfl (fun w => by go_simp) ?_
  simp only [Act.put, List.getElem_toArray, List.getElem_cons_zero, List.getElem_cons_succ, List.setIfInBounds_toArray, List.set_cons_zero, List.set_cons_succ]
  refine det_loadk _ _ A 0 (ptN a b) _ (by rfl) rfl rfl (fun w hw => rgN_lo ((ext_blk H1.out hw).range)) Try.underlying43 rfl (ptN_size Ha.out.1 Hb.out.1) ?_
  simp only [Act.put, List.getElem_toArray, List.getElem_cons_zero, List.getElem_cons_succ, List.setIfInBounds_toArray, List.set_cons_zero, List.set_cons_succ]
  refine det_fieldk _ _ (A + 1) _ 0 0 (by rfl) rfl rfl (fun w => by go_simp) ?_
  simp only [Act.put, List.getElem_toArray, List.getElem_cons_zero, List.getElem_cons_succ, List.setIfInBounds_toArray, List.set_cons_zero, List.set_cons_succ]
  refine det_loadk _ _ (A + 1) 0 (ptN p q) _ (by rfl) rfl rfl (fun w hw => rgN_lo ((ext_blk H2.out hw).range)) Try.underlying43 rfl (ptN_size Hp.out.1 Hq.out.1) ?_
  simp only [Act.put, List.getElem_toArray, List.getElem_cons_zero, List.getElem_cons_succ, List.setIfInBounds_toArray, List.set_cons_zero, List.set_cons_succ]
  refine det_move _ (.bool s) (by rfl) rfl rfl ?_
  simp only [Act.put, List.getElem_toArray, List.getElem_cons_zero, List.getElem_cons_succ, List.setIfInBounds_toArray, List.set_cons_zero, List.set_cons_succ]
  refine det_call _ _ _ [.agg (ptN a b).toArray, .agg (ptN p q).toArray, .bool s] (.agg (ptN (pkL s a p) (pkL s b q)).toArray) (by rfl) rfl Try.call48 rfl (fun w hw => lpickp_any s w Ha.out Hb.out Hp.out Hq.out) ?_
  simp only [Act.put, List.getElem_toArray, List.getElem_cons_zero, List.getElem_cons_succ, List.setIfInBounds_toArray, List.set_cons_zero, List.set_cons_succ]
  refine det_fieldk _ _ A _ 0 64 (by rfl) rfl rfl (fun w => by go_simp) ?_
  simp only [Act.put, List.getElem_toArray, List.getElem_cons_zero, List.getElem_cons_succ, List.setIfInBounds_toArray, List.set_cons_zero, List.set_cons_succ]
  refine det_loadk _ _ A 64 (ptN c d) _ (by rfl) rfl rfl (fun w hw => rgN_hi ((ext_blk H1.out hw).range) Ha.out.1 Hb.out.1 rfl) Try.underlying43 rfl (ptN_size Hc.out.1 Hd.out.1) ?_
  simp only [Act.put, List.getElem_toArray, List.getElem_cons_zero, List.getElem_cons_succ, List.setIfInBounds_toArray, List.set_cons_zero, List.set_cons_succ]
  refine det_fieldk _ _ (A + 1) _ 0 64 (by rfl) rfl rfl (fun w => by go_simp) ?_
  simp only [Act.put, List.getElem_toArray, List.getElem_cons_zero, List.getElem_cons_succ, List.setIfInBounds_toArray, List.set_cons_zero, List.set_cons_succ]
  refine det_loadk _ _ (A + 1) 64 (ptN r t) _ (by rfl) rfl rfl (fun w hw => rgN_hi ((ext_blk H2.out hw).range) Hp.out.1 Hq.out.1 rfl) Try.underlying43 rfl (ptN_size Hr.out.1 Ht.out.1) ?_
  simp only [Act.put, List.getElem_toArray, List.getElem_cons_zero, List.getElem_cons_succ, List.setIfInBounds_toArray, List.set_cons_zero, List.set_cons_succ]
  refine det_move _ (.bool s) (by rfl) rfl rfl ?_
  simp only [Act.put, List.getElem_toArray, List.getElem_cons_zero, List.getElem_cons_succ, List.setIfInBounds_toArray, List.set_cons_zero, List.set_cons_succ]
  refine det_call _ _ _ [.agg (ptN c d).toArray, .agg (ptN r t).toArray, .bool s] (.agg (ptN (pkL s c r) (pkL s d t)).toArray) (by rfl) rfl Try.call48 rfl (fun w hw => lpickp_any s w Hc.out Hd.out Hr.out Ht.out) ?_
  simp only [Act.put, List.getElem_toArray, List.getElem_cons_zero, List.getElem_cons_succ, List.setIfInBounds_toArray, List.set_cons_zero, List.set_cons_succ]
  refine det_build _ _ #[(0, .agg (ptN (pkL s a p) (pkL s b q)).toArray), (1, .agg (ptN (pkL s c r) (pkL s d t)).toArray)] (.agg (rgN (pkL s a p) (pkL s b q) (pkL s c r) (pkL s d t)).toArray) (by rfl) rfl (by simp [Act.eval]) (build_rgN HXa.out.1 HXb.out.1 HXc.out.1 HXd.out.1) ?_
  simp only [Act.put, List.getElem_toArray, List.getElem_cons_zero, List.getElem_cons_succ, List.setIfInBounds_toArray, List.set_cons_zero, List.set_cons_succ]
  refine det_nil (end_set (k := 13) _ _ _ _ (A + 1 + 1) (rgN (pkL s a p) (pkL s b q) (pkL s c r) (pkL s d t)) zrg rfl (by kernel_rfl) (by kernel_rfl) (by kernel_rfl) rfl rfl rfl rfl H3.out ((rgN_length HXa.out.1 HXb.out.1 HXc.out.1 HXd.out.1).trans zrg_length.symm) (rgN_size HXa.out.1 HXb.out.1 HXc.out.1 HXd.out.1) (rgN_one _ _ _ _) (fun w8 hb8 hg8 => ?_))
  simp only [Act.put]
  go_wp2_with fail
  exact bodyPost_ret (result_row (by rfl) _ (A + 1 + 1) _ _ _ (by rfl) hb8 Try.underlying45 rfl (rgN_size HXa.out.1 HXb.out.1 HXc.out.1 HXd.out.1)) rfl ⟨rfl, ext_grown HE.out hg8 (by have := HAW.out; omega)⟩

set_option maxRecDepth 100000 in
set_option maxHeartbeats 4000000 in
theorem lsum_f {ax az bx bz u : List UInt8} {fax faz fbx fbz fu : Fp} (w : World) (hax : F32 ax fax) (haz : F32 az faz) (hbx : F32 bx fbx) (hbz : F32 bz fbz) (hu : F32 u fu) : Calls Try.prog 33 #[.agg (ptN ax az).toArray, .agg (ptN bx bz).toArray, .agg (u.map bval).toArray] w fun e w' => e = .returned (.agg (ptN (nbF (sumX fax faz fbx fbz)) (nbF (sumZ fax faz fbx fbz fu))).toArray) ∧ Below w.heap.size w w' := by
  have Hax := Lib.hid hax
  have Haz := Lib.hid haz
  have Hbx := Lib.hid hbx
  have Hbz := Lib.hid hbz
  have Hu := Lib.hid hu
  clear hax haz hbx hbz hu
  have HB := Lib.hid (boxes4 w (ptN ax az) (ptN bx bz) ((u).map bval) zpt 43 43 23 43)
  go_enter Try.func33, Try.ntmps33
  go_upto_region 1 with (fail)
  obtain ⟨H1, H2, H3, H4, HE⟩ := HB.out
  change Code.wp _ _ _ _ (World.alloc (World.alloc (World.alloc (World.alloc w (.cells (ptN ax az).toArray 43)) (.cells (ptN bx bz).toArray 43)) (.cells ((u).map bval).toArray 23)) (.cells zpt.toArray 43))
  generalize (World.alloc (World.alloc (World.alloc (World.alloc w (.cells (ptN ax az).toArray 43)) (.cells (ptN bx bz).toArray 43)) (.cells ((u).map bval).toArray 23)) (.cells zpt.toArray 43)) = wa at *
  obtain ⟨A, hA⟩ : ∃ A, A = w.heap.size := ⟨_, rfl⟩
  have HAW : Hid (w.heap.size ≤ A) := Lib.hid (by omega)
  rw [← hA] at H1 H2 H3 H4 ⊢
  have H1 := Lib.hid H1
  have H2 := Lib.hid H2
  have H3 := Lib.hid H3
  have H4 := Lib.hid H4
  have HE : Hid (Ext w wa) := Lib.hid HE
  clear hA HB
  go_wp2_with fail
  refine wp_region_from 11 2 12 rfl (by kernel_rfl) (by kernel_rfl) (fun d v c a w h => by cases d <;> exact h) (by kernel_rfl) ?_
  refine det_fieldk _ _ A _ 0 0 (by rfl) rfl rfl (fun w => by go_simp) ?_
  simp only [Act.put, List.getElem_toArray, List.getElem_cons_zero, List.getElem_cons_succ, List.setIfInBounds_toArray, List.set_cons_zero, List.set_cons_succ]
  refine det_loadk _ _ A 0 ((ax).map bval) _ (by rfl) rfl rfl (fun w hw => ptN_x ((ext_blk H1.out hw).range)) Try.underlying23 rfl (num_size Hax.out.1) ?_
  simp only [Act.put, List.getElem_toArray, List.getElem_cons_zero, List.getElem_cons_succ, List.setIfInBounds_toArray, List.set_cons_zero, List.set_cons_succ]
  refine det_fieldk _ _ A _ 0 32 (by rfl) rfl rfl (fun w => by go_simp) ?_
  simp only [Act.put, List.getElem_toArray, List.getElem_cons_zero, List.getElem_cons_succ, List.setIfInBounds_toArray, List.set_cons_zero, List.set_cons_succ]
  refine det_loadk _ _ A 32 ((az).map bval) _ (by rfl) rfl rfl (fun w hw => ptN_z ((ext_blk H1.out hw).range) Hax.out.1 rfl) Try.underlying23 rfl (num_size Haz.out.1) ?_
  simp only [Act.put, List.getElem_toArray, List.getElem_cons_zero, List.getElem_cons_succ, List.setIfInBounds_toArray, List.set_cons_zero, List.set_cons_succ]
  refine det_call _ _ _ [.agg ((ax).map bval).toArray, .agg ((az).map bval).toArray] (.agg ((nbF (fax - faz)).map bval).toArray) (by rfl) rfl Try.call45 rfl (fun w hw => fsub_f w Hax.out Haz.out) ?_
  simp only [Act.put, List.getElem_toArray, List.getElem_cons_zero, List.getElem_cons_succ, List.setIfInBounds_toArray, List.set_cons_zero, List.set_cons_succ]
  refine det_fieldk _ _ (A + 1) _ 0 0 (by rfl) rfl rfl (fun w => by go_simp) ?_
  simp only [Act.put, List.getElem_toArray, List.getElem_cons_zero, List.getElem_cons_succ, List.setIfInBounds_toArray, List.set_cons_zero, List.set_cons_succ]
  refine det_loadk _ _ (A + 1) 0 ((bx).map bval) _ (by rfl) rfl rfl (fun w hw => ptN_x ((ext_blk H2.out hw).range)) Try.underlying23 rfl (num_size Hbx.out.1) ?_
  simp only [Act.put, List.getElem_toArray, List.getElem_cons_zero, List.getElem_cons_succ, List.setIfInBounds_toArray, List.set_cons_zero, List.set_cons_succ]
  refine det_fieldk _ _ (A + 1) _ 0 32 (by rfl) rfl rfl (fun w => by go_simp) ?_
  simp only [Act.put, List.getElem_toArray, List.getElem_cons_zero, List.getElem_cons_succ, List.setIfInBounds_toArray, List.set_cons_zero, List.set_cons_succ]
  refine det_loadk _ _ (A + 1) 32 ((bz).map bval) _ (by rfl) rfl rfl (fun w hw => ptN_z ((ext_blk H2.out hw).range) Hbx.out.1 rfl) Try.underlying23 rfl (num_size Hbz.out.1) ?_
  simp only [Act.put, List.getElem_toArray, List.getElem_cons_zero, List.getElem_cons_succ, List.setIfInBounds_toArray, List.set_cons_zero, List.set_cons_succ]
  refine det_call _ _ _ [.agg ((bx).map bval).toArray, .agg ((bz).map bval).toArray] (.agg ((nbF (fbx + fbz)).map bval).toArray) (by rfl) rfl Try.call46 rfl (fun w hw => fadd_f w Hbx.out Hbz.out) ?_
  simp only [Act.put, List.getElem_toArray, List.getElem_cons_zero, List.getElem_cons_succ, List.setIfInBounds_toArray, List.set_cons_zero, List.set_cons_succ]
  refine det_call _ _ _ [.agg ((nbF (fax - faz)).map bval).toArray, .agg ((nbF (fbx + fbz)).map bval).toArray] (.agg ((nbF ((fax - faz) * (fbx + fbz))).map bval).toArray) (by rfl) rfl Try.call23 rfl (fun w hw => fmul_f w (F32.nb _) (F32.nb _)) ?_
  simp only [Act.put, List.getElem_toArray, List.getElem_cons_zero, List.getElem_cons_succ, List.setIfInBounds_toArray, List.set_cons_zero, List.set_cons_succ]
  refine det_nil (end_var (k := 11) _ 7 (.tmp 19) (ints .u8 (List.replicate 32 0)) ((nbF ((fax - faz) * (fbx + fbz))).map bval) rfl rfl (by kernel_rfl) (by kernel_rfl) (by kernel_rfl) (by kernel_rfl) (by kernel_rfl) rfl rfl rfl rfl (fun w => by rw [Try.zeroValue23]; rfl) rfl (by simp) (fun p => rfl) (by rw [List.length_map, (F32.nb _).1]; rfl) (num_size (F32.nb _).1) (bval_one _) (fun pc wc hp hb he => ?_))
  try simp only [Act.put, List.getElem_toArray, List.getElem_cons_zero, List.getElem_cons_succ, List.setIfInBounds_toArray, List.set_cons_zero, List.set_cons_succ]
  have H1 := Lib.hid (ext_blk H1.out he)
  have H2 := Lib.hid (ext_blk H2.out he)
  have H3 := Lib.hid (ext_blk H3.out he)
  have H4 := Lib.hid (ext_blk H4.out he)
  have HE := Lib.hid (HE.out.trans he)
  obtain ⟨cr, hq⟩ : ∃ q, q = (fax - faz) * (fbx + fbz) := ⟨_, rfl⟩
  rw [← hq] at hb
  have HQcr := Lib.hid hq
  clear hq
  have HVc := Lib.hid hb
  clear hb he hp
  go_wp2_with fail
  refine wp_region_from 11 2 12 rfl (by kernel_rfl) (by kernel_rfl) (fun d v c a w h => by cases d <;> exact h) (by kernel_rfl) ?_
  refine det_fieldk _ _ A _ 0 0 (by rfl) rfl rfl (fun w => by go_simp) ?_
  simp only [Act.put, List.getElem_toArray, List.getElem_cons_zero, List.getElem_cons_succ, List.setIfInBounds_toArray, List.set_cons_zero, List.set_cons_succ]
  refine det_loadk _ _ A 0 ((ax).map bval) _ (by rfl) rfl rfl (fun w hw => ptN_x ((ext_blk H1.out hw).range)) Try.underlying23 rfl (num_size Hax.out.1) ?_
  simp only [Act.put, List.getElem_toArray, List.getElem_cons_zero, List.getElem_cons_succ, List.setIfInBounds_toArray, List.set_cons_zero, List.set_cons_succ]
  refine det_fieldk _ _ A _ 0 32 (by rfl) rfl rfl (fun w => by go_simp) ?_
  simp only [Act.put, List.getElem_toArray, List.getElem_cons_zero, List.getElem_cons_succ, List.setIfInBounds_toArray, List.set_cons_zero, List.set_cons_succ]
  refine det_loadk _ _ A 32 ((az).map bval) _ (by rfl) rfl rfl (fun w hw => ptN_z ((ext_blk H1.out hw).range) Hax.out.1 rfl) Try.underlying23 rfl (num_size Haz.out.1) ?_
  simp only [Act.put, List.getElem_toArray, List.getElem_cons_zero, List.getElem_cons_succ, List.setIfInBounds_toArray, List.set_cons_zero, List.set_cons_succ]
  refine det_call _ _ _ [.agg ((ax).map bval).toArray, .agg ((az).map bval).toArray] (.agg ((nbF (fax + faz)).map bval).toArray) (by rfl) rfl Try.call46 rfl (fun w hw => fadd_f w Hax.out Haz.out) ?_
  simp only [Act.put, List.getElem_toArray, List.getElem_cons_zero, List.getElem_cons_succ, List.setIfInBounds_toArray, List.set_cons_zero, List.set_cons_succ]
  refine det_fieldk _ _ (A + 1) _ 0 0 (by rfl) rfl rfl (fun w => by go_simp) ?_
  simp only [Act.put, List.getElem_toArray, List.getElem_cons_zero, List.getElem_cons_succ, List.setIfInBounds_toArray, List.set_cons_zero, List.set_cons_succ]
  refine det_loadk _ _ (A + 1) 0 ((bx).map bval) _ (by rfl) rfl rfl (fun w hw => ptN_x ((ext_blk H2.out hw).range)) Try.underlying23 rfl (num_size Hbx.out.1) ?_
  simp only [Act.put, List.getElem_toArray, List.getElem_cons_zero, List.getElem_cons_succ, List.setIfInBounds_toArray, List.set_cons_zero, List.set_cons_succ]
  refine det_fieldk _ _ (A + 1) _ 0 32 (by rfl) rfl rfl (fun w => by go_simp) ?_
  simp only [Act.put, List.getElem_toArray, List.getElem_cons_zero, List.getElem_cons_succ, List.setIfInBounds_toArray, List.set_cons_zero, List.set_cons_succ]
  refine det_loadk _ _ (A + 1) 32 ((bz).map bval) _ (by rfl) rfl rfl (fun w hw => ptN_z ((ext_blk H2.out hw).range) Hbx.out.1 rfl) Try.underlying23 rfl (num_size Hbz.out.1) ?_
  simp only [Act.put, List.getElem_toArray, List.getElem_cons_zero, List.getElem_cons_succ, List.setIfInBounds_toArray, List.set_cons_zero, List.set_cons_succ]
  refine det_call _ _ _ [.agg ((bx).map bval).toArray, .agg ((bz).map bval).toArray] (.agg ((nbF (fbx - fbz)).map bval).toArray) (by rfl) rfl Try.call45 rfl (fun w hw => fsub_f w Hbx.out Hbz.out) ?_
  simp only [Act.put, List.getElem_toArray, List.getElem_cons_zero, List.getElem_cons_succ, List.setIfInBounds_toArray, List.set_cons_zero, List.set_cons_succ]
  refine det_call _ _ _ [.agg ((nbF (fax + faz)).map bval).toArray, .agg ((nbF (fbx - fbz)).map bval).toArray] (.agg ((nbF ((fax + faz) * (fbx - fbz))).map bval).toArray) (by rfl) rfl Try.call23 rfl (fun w hw => fmul_f w (F32.nb _) (F32.nb _)) ?_
  simp only [Act.put, List.getElem_toArray, List.getElem_cons_zero, List.getElem_cons_succ, List.setIfInBounds_toArray, List.set_cons_zero, List.set_cons_succ]
  refine det_nil (end_var (k := 11) _ 8 (.tmp 30) (ints .u8 (List.replicate 32 0)) ((nbF ((fax + faz) * (fbx - fbz))).map bval) rfl rfl (by kernel_rfl) (by kernel_rfl) (by kernel_rfl) (by kernel_rfl) (by kernel_rfl) rfl rfl rfl rfl (fun w => by rw [Try.zeroValue23]; rfl) rfl (by simp) (fun p => rfl) (by rw [List.length_map, (F32.nb _).1]; rfl) (num_size (F32.nb _).1) (bval_one _) (fun po wo hp hb he => ?_))
  try simp only [Act.put, List.getElem_toArray, List.getElem_cons_zero, List.getElem_cons_succ, List.setIfInBounds_toArray, List.set_cons_zero, List.set_cons_succ]
  have H1 := Lib.hid (ext_blk H1.out he)
  have H2 := Lib.hid (ext_blk H2.out he)
  have H3 := Lib.hid (ext_blk H3.out he)
  have H4 := Lib.hid (ext_blk H4.out he)
  have HVc := Lib.hid (ext_blk HVc.out he)
  have HE := Lib.hid (HE.out.trans he)
  obtain ⟨ot, hq⟩ : ∃ q, q = (fax + faz) * (fbx - fbz) := ⟨_, rfl⟩
  rw [← hq] at hb
  have HQot := Lib.hid hq
  clear hq
  have HVo := Lib.hid hb
  clear hb he hp
  go_wp2_with fail
  refine wp_region_from 11 1 11 rfl (by kernel_rfl) (by kernel_rfl) (fun d v c a w h => by cases d <;> exact h) (by kernel_rfl) ?_
  refine det_loadk _ _ pc 0 ((nbF cr).map bval) _ (by rfl) rfl rfl (fun w hw => (ext_blk HVc.out hw).range) Try.underlying23 rfl (num_size (F32.nb _).1) ?_
  simp only [Act.put, List.getElem_toArray, List.getElem_cons_zero, List.getElem_cons_succ, List.setIfInBounds_toArray, List.set_cons_zero, List.set_cons_succ]
  refine det_loadk _ _ po 0 ((nbF ot).map bval) _ (by rfl) rfl rfl (fun w hw => (ext_blk HVo.out hw).range) Try.underlying23 rfl (num_size (F32.nb _).1) ?_
  simp only [Act.put, List.getElem_toArray, List.getElem_cons_zero, List.getElem_cons_succ, List.setIfInBounds_toArray, List.set_cons_zero, List.set_cons_succ]
  refine det_call _ _ _ [.agg ((nbF cr).map bval).toArray, .agg ((nbF ot).map bval).toArray] (.agg ((nbF (cr + ot)).map bval).toArray) (by rfl) rfl Try.call46 rfl (fun w hw => fadd_f w (F32.nb _) (F32.nb _)) ?_
  simp only [Act.put, List.getElem_toArray, List.getElem_cons_zero, List.getElem_cons_succ, List.setIfInBounds_toArray, List.set_cons_zero, List.set_cons_succ]
  refine det_call _ _ _ [.agg ((nbF (cr + ot)).map bval).toArray] (.agg ((nbF ((cr + ot) * (cr + ot))).map bval).toArray) (by rfl) rfl Try.call47 rfl (fun w hw => lsq_f w (F32.nb _)) ?_
  simp only [Act.put, List.getElem_toArray, List.getElem_cons_zero, List.getElem_cons_succ, List.setIfInBounds_toArray, List.set_cons_zero, List.set_cons_succ]
  refine det_loadk _ _ (A + 1 + 1) 0 ((u).map bval) _ (by rfl) rfl rfl (fun w hw => (ext_blk H3.out hw).range) Try.underlying23 rfl (num_size Hu.out.1) ?_
  simp only [Act.put, List.getElem_toArray, List.getElem_cons_zero, List.getElem_cons_succ, List.setIfInBounds_toArray, List.set_cons_zero, List.set_cons_succ]
  refine det_loadk _ _ pc 0 ((nbF cr).map bval) _ (by rfl) rfl rfl (fun w hw => (ext_blk HVc.out hw).range) Try.underlying23 rfl (num_size (F32.nb _).1) ?_
  simp only [Act.put, List.getElem_toArray, List.getElem_cons_zero, List.getElem_cons_succ, List.setIfInBounds_toArray, List.set_cons_zero, List.set_cons_succ]
  refine det_loadk _ _ po 0 ((nbF ot).map bval) _ (by rfl) rfl rfl (fun w hw => (ext_blk HVo.out hw).range) Try.underlying23 rfl (num_size (F32.nb _).1) ?_
  simp only [Act.put, List.getElem_toArray, List.getElem_cons_zero, List.getElem_cons_succ, List.setIfInBounds_toArray, List.set_cons_zero, List.set_cons_succ]
  refine det_call _ _ _ [.agg ((nbF cr).map bval).toArray, .agg ((nbF ot).map bval).toArray] (.agg ((nbF (cr - ot)).map bval).toArray) (by rfl) rfl Try.call45 rfl (fun w hw => fsub_f w (F32.nb _) (F32.nb _)) ?_
  simp only [Act.put, List.getElem_toArray, List.getElem_cons_zero, List.getElem_cons_succ, List.setIfInBounds_toArray, List.set_cons_zero, List.set_cons_succ]
  refine det_call _ _ _ [.agg ((nbF (cr - ot)).map bval).toArray] (.agg ((nbF ((cr - ot) * (cr - ot))).map bval).toArray) (by rfl) rfl Try.call47 rfl (fun w hw => lsq_f w (F32.nb _)) ?_
  simp only [Act.put, List.getElem_toArray, List.getElem_cons_zero, List.getElem_cons_succ, List.setIfInBounds_toArray, List.set_cons_zero, List.set_cons_succ]
  refine det_call _ _ _ [.agg ((u).map bval).toArray, .agg ((nbF ((cr - ot) * (cr - ot))).map bval).toArray] (.agg ((nbF (fu * ((cr - ot) * (cr - ot)))).map bval).toArray) (by rfl) rfl Try.call23 rfl (fun w hw => fmul_f w Hu.out (F32.nb _)) ?_
  simp only [Act.put, List.getElem_toArray, List.getElem_cons_zero, List.getElem_cons_succ, List.setIfInBounds_toArray, List.set_cons_zero, List.set_cons_succ]
  refine det_build _ _ #[(0, .agg ((nbF ((cr + ot) * (cr + ot))).map bval).toArray), (1, .agg ((nbF (fu * ((cr - ot) * (cr - ot)))).map bval).toArray)] (.agg (ptN (nbF ((cr + ot) * (cr + ot))) (nbF (fu * ((cr - ot) * (cr - ot))))).toArray) (by rfl) rfl (by simp [Act.eval]) (build_ptN (F32.nb _).1 (F32.nb _).1) ?_
  simp only [Act.put, List.getElem_toArray, List.getElem_cons_zero, List.getElem_cons_succ, List.setIfInBounds_toArray, List.set_cons_zero, List.set_cons_succ]
  refine det_nil (end_set (k := 11) _ _ _ _ (A + 1 + 1 + 1) (ptN (nbF ((cr + ot) * (cr + ot))) (nbF (fu * ((cr - ot) * (cr - ot))))) zpt rfl (by kernel_rfl) (by kernel_rfl) (by kernel_rfl) rfl rfl rfl rfl H4.out ((ptN_length (F32.nb _).1 (F32.nb _).1).trans zpt_length.symm) (ptN_size (F32.nb _).1 (F32.nb _).1) (ptN_one _ _) (fun w8 hb8 hg8 => ?_))
  simp only [Act.put]
  go_wp2_with fail
  exact bodyPost_ret (result_row (by rfl) _ (A + 1 + 1 + 1) _ _ _ (by rfl) hb8 Try.underlying43 rfl (ptN_size (F32.nb _).1 (F32.nb _).1)) rfl ⟨by rw [HQcr.out, HQot.out]; rfl, ext_grown HE.out hg8 (by have := HAW.out; omega)⟩

set_option maxRecDepth 100000 in
set_option maxHeartbeats 4000000 in
theorem ltwice_f {x z : List UInt8} {fx fz : Fp} (w : World) (hx : F32 x fx) (hz : F32 z fz) : Calls Try.prog 35 #[.agg (ptN x z).toArray] w fun e w' => e = .returned (.agg (ptN (nbF (dblX fx fz)) (nbF (dblZ fx fz))).toArray) ∧ Below w.heap.size w w' := by
  have Hx := Lib.hid hx
  have Hz := Lib.hid hz
  clear hx hz
  have HB := Lib.hid (boxes2 w (ptN x z) zpt 43 43)
  go_enter Try.func35, Try.ntmps35
  go_upto_region 1 with (fail)
  obtain ⟨H1, H2, HE⟩ := HB.out
  change Code.wp _ _ _ _ (World.alloc (World.alloc w (.cells (ptN x z).toArray 43)) (.cells zpt.toArray 43))
  generalize (World.alloc (World.alloc w (.cells (ptN x z).toArray 43)) (.cells zpt.toArray 43)) = wa at *
  obtain ⟨A, hA⟩ : ∃ A, A = w.heap.size := ⟨_, rfl⟩
  have HAW : Hid (w.heap.size ≤ A) := Lib.hid (by omega)
  rw [← hA] at H1 H2 ⊢
  have H1 := Lib.hid H1
  have H2 := Lib.hid H2
  have HE : Hid (Ext w wa) := Lib.hid HE
  clear hA HB
  go_wp2_with fail
  refine wp_region_from 12 4 14 rfl (by kernel_rfl) (by kernel_rfl) (fun d v c a w h => by cases d <;> exact h) (by kernel_rfl) ?_
  refine det_fieldk _ _ A _ 0 0 (by rfl) rfl rfl (fun w => by go_simp) ?_
  simp only [Act.put, List.getElem_toArray, List.getElem_cons_zero, List.getElem_cons_succ, List.setIfInBounds_toArray, List.set_cons_zero, List.set_cons_succ]
  refine det_loadk _ _ A 0 ((x).map bval) _ (by rfl) rfl rfl (fun w hw => ptN_x ((ext_blk H1.out hw).range)) Try.underlying23 rfl (num_size Hx.out.1) ?_
  simp only [Act.put, List.getElem_toArray, List.getElem_cons_zero, List.getElem_cons_succ, List.setIfInBounds_toArray, List.set_cons_zero, List.set_cons_succ]
  refine det_fieldk _ _ A _ 0 32 (by rfl) rfl rfl (fun w => by go_simp) ?_
  simp only [Act.put, List.getElem_toArray, List.getElem_cons_zero, List.getElem_cons_succ, List.setIfInBounds_toArray, List.set_cons_zero, List.set_cons_succ]
  refine det_loadk _ _ A 32 ((z).map bval) _ (by rfl) rfl rfl (fun w hw => ptN_z ((ext_blk H1.out hw).range) Hx.out.1 rfl) Try.underlying23 rfl (num_size Hz.out.1) ?_
  simp only [Act.put, List.getElem_toArray, List.getElem_cons_zero, List.getElem_cons_succ, List.setIfInBounds_toArray, List.set_cons_zero, List.set_cons_succ]
  refine det_call _ _ _ [.agg ((x).map bval).toArray, .agg ((z).map bval).toArray] (.agg ((nbF (fx + fz)).map bval).toArray) (by rfl) rfl Try.call46 rfl (fun w hw => fadd_f w Hx.out Hz.out) ?_
  simp only [Act.put, List.getElem_toArray, List.getElem_cons_zero, List.getElem_cons_succ, List.setIfInBounds_toArray, List.set_cons_zero, List.set_cons_succ]
  refine det_call _ _ _ [.agg ((nbF (fx + fz)).map bval).toArray] (.agg ((nbF ((fx + fz) * (fx + fz))).map bval).toArray) (by rfl) rfl Try.call47 rfl (fun w hw => lsq_f w (F32.nb _)) ?_
  simp only [Act.put, List.getElem_toArray, List.getElem_cons_zero, List.getElem_cons_succ, List.setIfInBounds_toArray, List.set_cons_zero, List.set_cons_succ]
  refine det_fieldk _ _ A _ 0 0 (by rfl) rfl rfl (fun w => by go_simp) ?_
  simp only [Act.put, List.getElem_toArray, List.getElem_cons_zero, List.getElem_cons_succ, List.setIfInBounds_toArray, List.set_cons_zero, List.set_cons_succ]
  refine det_loadk _ _ A 0 ((x).map bval) _ (by rfl) rfl rfl (fun w hw => ptN_x ((ext_blk H1.out hw).range)) Try.underlying23 rfl (num_size Hx.out.1) ?_
  simp only [Act.put, List.getElem_toArray, List.getElem_cons_zero, List.getElem_cons_succ, List.setIfInBounds_toArray, List.set_cons_zero, List.set_cons_succ]
  refine det_fieldk _ _ A _ 0 32 (by rfl) rfl rfl (fun w => by go_simp) ?_
  simp only [Act.put, List.getElem_toArray, List.getElem_cons_zero, List.getElem_cons_succ, List.setIfInBounds_toArray, List.set_cons_zero, List.set_cons_succ]
  refine det_loadk _ _ A 32 ((z).map bval) _ (by rfl) rfl rfl (fun w hw => ptN_z ((ext_blk H1.out hw).range) Hx.out.1 rfl) Try.underlying23 rfl (num_size Hz.out.1) ?_
  simp only [Act.put, List.getElem_toArray, List.getElem_cons_zero, List.getElem_cons_succ, List.setIfInBounds_toArray, List.set_cons_zero, List.set_cons_succ]
  refine det_call _ _ _ [.agg ((x).map bval).toArray, .agg ((z).map bval).toArray] (.agg ((nbF (fx - fz)).map bval).toArray) (by rfl) rfl Try.call45 rfl (fun w hw => fsub_f w Hx.out Hz.out) ?_
  simp only [Act.put, List.getElem_toArray, List.getElem_cons_zero, List.getElem_cons_succ, List.setIfInBounds_toArray, List.set_cons_zero, List.set_cons_succ]
  refine det_call _ _ _ [.agg ((nbF (fx - fz)).map bval).toArray] (.agg ((nbF ((fx - fz) * (fx - fz))).map bval).toArray) (by rfl) rfl Try.call47 rfl (fun w hw => lsq_f w (F32.nb _)) ?_
  simp only [Act.put, List.getElem_toArray, List.getElem_cons_zero, List.getElem_cons_succ, List.setIfInBounds_toArray, List.set_cons_zero, List.set_cons_succ]
  refine det_nil (end_var2 (k := 12) 23 3 4 (.tmp 12) (.tmp 18) (ints .u8 (List.replicate 32 0)) ((nbF ((fx + fz) * (fx + fz))).map bval) ((nbF ((fx - fz) * (fx - fz))).map bval) rfl rfl rfl rfl (by kernel_rfl) (by kernel_rfl) (by kernel_rfl) (by kernel_rfl) (by kernel_rfl) (by kernel_rfl) (by kernel_rfl) (by kernel_rfl) (by kernel_rfl) (by kernel_rfl) rfl rfl rfl rfl rfl rfl rfl rfl (by decide) (fun w => by rw [Try.zeroValue23]; rfl) rfl rfl rfl rfl (by simp) (by simp) (fun p q => rfl) (fun p q => rfl) (by rw [List.length_map, (F32.nb _).1]; rfl) (by rw [List.length_map, (F32.nb _).1]; rfl) (num_size (F32.nb _).1) (num_size (F32.nb _).1) (bval_one _) (bval_one _) (fun pm pl wm hpq hp1 hp2 hb1 hb2 he => ?_))
  try simp only [Act.put, List.getElem_toArray, List.getElem_cons_zero, List.getElem_cons_succ, List.setIfInBounds_toArray, List.set_cons_zero, List.set_cons_succ]
  have H1 := Lib.hid (ext_blk H1.out he)
  have H2 := Lib.hid (ext_blk H2.out he)
  have HE := Lib.hid (HE.out.trans he)
  obtain ⟨mo, hq⟩ : ∃ q, q = (fx + fz) * (fx + fz) := ⟨_, rfl⟩
  rw [← hq] at hb1
  have HQmo := Lib.hid hq
  clear hq
  have HVm := Lib.hid hb1
  obtain ⟨le, hq⟩ : ∃ q, q = (fx - fz) * (fx - fz) := ⟨_, rfl⟩
  rw [← hq] at hb2
  have HQle := Lib.hid hq
  clear hq
  have HVl := Lib.hid hb2
  clear hb1 hb2 he hpq hp1 hp2
  go_wp2_with (first | (refine wpList_load_mid rfl _ _ rfl pm 0 rfl _ _ (HVm.out.range) Try.underlying23 rfl (num_size (F32.nb _).1) ?_) | (refine wpList_load_mid rfl _ _ rfl pl 0 rfl _ _ (HVl.out.range) Try.underlying23 rfl (num_size (F32.nb _).1) ?_))
  refine (fsub_f _ (F32.nb _) (F32.nb _)).mono ?_
  rintro e w5 ⟨rfl, hb⟩
  have H1 := Lib.hid (ext_blk H1.out hb)
  have H2 := Lib.hid (ext_blk H2.out hb)
  have HVm := Lib.hid (ext_blk HVm.out hb)
  have HVl := Lib.hid (ext_blk HVl.out hb)
  have HE := Lib.hid (HE.out.trans hb)
  clear hb
  obtain ⟨ap, hq⟩ : ∃ q, q = mo - le := ⟨_, rfl⟩
  rw [← hq]
  have HQap := Lib.hid hq
  clear hq
  have HZ := Lib.hid (Blk.made w5 (ints .u8 (List.replicate 32 0)) 23)
  have HEA := Lib.hid (Ext.alloc w5 (.cells (ints .u8 (List.replicate 32 0)).toArray 23))
  go_upto_region 3 with (refine wpList_store_blk rfl _ _ _ rfl w5.heap.size ((nbF ap).map bval) rfl rfl _ _ HZ.out (by rw [List.length_map, (F32.nb _).1]; rfl) (num_size (F32.nb _).1) (bval_one _) ?_; intro w6 hb hg)
  have HX := Lib.hid (ext_grown HEA.out hg (Nat.le_refl _))
  obtain ⟨pa, hT⟩ : ∃ T, T = w5.heap.size := ⟨_, rfl⟩
  rw [← hT] at hb ⊢
  clear hT
  have H1 := Lib.hid (ext_blk H1.out HX.out)
  have H2 := Lib.hid (ext_blk H2.out HX.out)
  have HVm := Lib.hid (ext_blk HVm.out HX.out)
  have HVl := Lib.hid (ext_blk HVl.out HX.out)
  have HE := Lib.hid (HE.out.trans HX.out)
  have HVa := Lib.hid hb
  clear hb hg HX HZ HEA
  generalize w6 = wa at *
  go_wp2_with (first | (refine wpList_build rfl 23 #[(0, _), (1, _), (2, _)] rfl #[(0, .int .u8 65), (1, .int .u8 219), (2, .int .u8 1)] (by simp [Act.eval]) (.agg (cB.map bval).toArray) (build_c _) ?_) | (refine wpList_load_mid rfl _ _ rfl pa 0 rfl _ _ (HVa.out.range) Try.underlying23 rfl (num_size (F32.nb _).1) ?_))
  refine (fmul_f _ cB_f (F32.nb _)).mono ?_
  rintro e w5 ⟨rfl, hb⟩
  have H1 := Lib.hid (ext_blk H1.out hb)
  have H2 := Lib.hid (ext_blk H2.out hb)
  have HVm := Lib.hid (ext_blk HVm.out hb)
  have HVl := Lib.hid (ext_blk HVl.out hb)
  have HVa := Lib.hid (ext_blk HVa.out hb)
  have HE := Lib.hid (HE.out.trans hb)
  clear hb
  obtain ⟨sc, hq⟩ : ∃ q, q = fp 121665 * ap := ⟨_, rfl⟩
  rw [← hq]
  have HQsc := Lib.hid hq
  clear hq
  have HZ := Lib.hid (Blk.made w5 (ints .u8 (List.replicate 32 0)) 23)
  have HEA := Lib.hid (Ext.alloc w5 (.cells (ints .u8 (List.replicate 32 0)).toArray 23))
  go_upto_region 4 with (refine wpList_store_blk rfl _ _ _ rfl w5.heap.size ((nbF sc).map bval) rfl rfl _ _ HZ.out (by rw [List.length_map, (F32.nb _).1]; rfl) (num_size (F32.nb _).1) (bval_one _) ?_; intro w6 hb hg)
  have HX := Lib.hid (ext_grown HEA.out hg (Nat.le_refl _))
  obtain ⟨ps, hT⟩ : ∃ T, T = w5.heap.size := ⟨_, rfl⟩
  rw [← hT] at hb ⊢
  clear hT
  have H1 := Lib.hid (ext_blk H1.out HX.out)
  have H2 := Lib.hid (ext_blk H2.out HX.out)
  have HVm := Lib.hid (ext_blk HVm.out HX.out)
  have HVl := Lib.hid (ext_blk HVl.out HX.out)
  have HVa := Lib.hid (ext_blk HVa.out HX.out)
  have HE := Lib.hid (HE.out.trans HX.out)
  have HVs := Lib.hid hb
  clear hb hg HX HZ HEA
  generalize w6 = ws at *
  go_wp2_with fail
  refine wp_region_from 9 1 9 rfl (by kernel_rfl) (by kernel_rfl) (fun d v c a w h => by cases d <;> exact h) (by kernel_rfl) ?_
  refine det_loadk _ _ pm 0 ((nbF mo).map bval) _ (by rfl) rfl rfl (fun w hw => (ext_blk HVm.out hw).range) Try.underlying23 rfl (num_size (F32.nb _).1) ?_
  simp only [Act.put, List.getElem_toArray, List.getElem_cons_zero, List.getElem_cons_succ, List.setIfInBounds_toArray, List.set_cons_zero, List.set_cons_succ]
  refine det_loadk _ _ pl 0 ((nbF le).map bval) _ (by rfl) rfl rfl (fun w hw => (ext_blk HVl.out hw).range) Try.underlying23 rfl (num_size (F32.nb _).1) ?_
  simp only [Act.put, List.getElem_toArray, List.getElem_cons_zero, List.getElem_cons_succ, List.setIfInBounds_toArray, List.set_cons_zero, List.set_cons_succ]
  refine det_call _ _ _ [.agg ((nbF mo).map bval).toArray, .agg ((nbF le).map bval).toArray] (.agg ((nbF (mo * le)).map bval).toArray) (by rfl) rfl Try.call23 rfl (fun w hw => fmul_f w (F32.nb _) (F32.nb _)) ?_
  simp only [Act.put, List.getElem_toArray, List.getElem_cons_zero, List.getElem_cons_succ, List.setIfInBounds_toArray, List.set_cons_zero, List.set_cons_succ]
  refine det_loadk _ _ pa 0 ((nbF ap).map bval) _ (by rfl) rfl rfl (fun w hw => (ext_blk HVa.out hw).range) Try.underlying23 rfl (num_size (F32.nb _).1) ?_
  simp only [Act.put, List.getElem_toArray, List.getElem_cons_zero, List.getElem_cons_succ, List.setIfInBounds_toArray, List.set_cons_zero, List.set_cons_succ]
  refine det_loadk _ _ pm 0 ((nbF mo).map bval) _ (by rfl) rfl rfl (fun w hw => (ext_blk HVm.out hw).range) Try.underlying23 rfl (num_size (F32.nb _).1) ?_
  simp only [Act.put, List.getElem_toArray, List.getElem_cons_zero, List.getElem_cons_succ, List.setIfInBounds_toArray, List.set_cons_zero, List.set_cons_succ]
  refine det_loadk _ _ ps 0 ((nbF sc).map bval) _ (by rfl) rfl rfl (fun w hw => (ext_blk HVs.out hw).range) Try.underlying23 rfl (num_size (F32.nb _).1) ?_
  simp only [Act.put, List.getElem_toArray, List.getElem_cons_zero, List.getElem_cons_succ, List.setIfInBounds_toArray, List.set_cons_zero, List.set_cons_succ]
  refine det_call _ _ _ [.agg ((nbF mo).map bval).toArray, .agg ((nbF sc).map bval).toArray] (.agg ((nbF (mo + sc)).map bval).toArray) (by rfl) rfl Try.call46 rfl (fun w hw => fadd_f w (F32.nb _) (F32.nb _)) ?_
  simp only [Act.put, List.getElem_toArray, List.getElem_cons_zero, List.getElem_cons_succ, List.setIfInBounds_toArray, List.set_cons_zero, List.set_cons_succ]
  refine det_call _ _ _ [.agg ((nbF ap).map bval).toArray, .agg ((nbF (mo + sc)).map bval).toArray] (.agg ((nbF (ap * (mo + sc))).map bval).toArray) (by rfl) rfl Try.call23 rfl (fun w hw => fmul_f w (F32.nb _) (F32.nb _)) ?_
  simp only [Act.put, List.getElem_toArray, List.getElem_cons_zero, List.getElem_cons_succ, List.setIfInBounds_toArray, List.set_cons_zero, List.set_cons_succ]
  refine det_build _ _ #[(0, .agg ((nbF (mo * le)).map bval).toArray), (1, .agg ((nbF (ap * (mo + sc))).map bval).toArray)] (.agg (ptN (nbF (mo * le)) (nbF (ap * (mo + sc)))).toArray) (by rfl) rfl (by simp [Act.eval]) (build_ptN (F32.nb _).1 (F32.nb _).1) ?_
  simp only [Act.put, List.getElem_toArray, List.getElem_cons_zero, List.getElem_cons_succ, List.setIfInBounds_toArray, List.set_cons_zero, List.set_cons_succ]
  refine det_nil (end_set (k := 9) _ _ _ _ (A + 1) (ptN (nbF (mo * le)) (nbF (ap * (mo + sc)))) zpt rfl (by kernel_rfl) (by kernel_rfl) (by kernel_rfl) rfl rfl rfl rfl H2.out ((ptN_length (F32.nb _).1 (F32.nb _).1).trans zpt_length.symm) (ptN_size (F32.nb _).1 (F32.nb _).1) (ptN_one _ _) (fun w8 hb8 hg8 => ?_))
  simp only [Act.put]
  go_wp2_with fail
  exact bodyPost_ret (result_row (by rfl) _ (A + 1) _ _ _ (by rfl) hb8 Try.underlying43 rfl (ptN_size (F32.nb _).1 (F32.nb _).1)) rfl ⟨by rw [HQsc.out, HQap.out, HQmo.out, HQle.out]; rfl, ext_grown HE.out hg8 (by have := HAW.out; omega)⟩

set_option maxRecDepth 100000 in
set_option maxHeartbeats 4000000 in
theorem lclimb_f {a b c d u : List UInt8} {fa fb fc fd fu : Fp} (s : Bool) (w : World) (ha : F32 a fa) (hb : F32 b fb) (hc : F32 c fc) (hd : F32 d fd) (hu : F32 u fu) : Calls Try.prog 22 #[.agg (rgN a b c d).toArray, .agg (u.map bval).toArray, .bool s] w fun e w' => e = .returned (.agg (rgN (pkL s (nbF (dblX fa fb)) (nbF (sumX fa fb fc fd))) (pkL s (nbF (dblZ fa fb)) (nbF (sumZ fa fb fc fd fu))) (pkL s (nbF (sumX fa fb fc fd)) (nbF (dblX fc fd))) (pkL s (nbF (sumZ fa fb fc fd fu)) (nbF (dblZ fc fd)))).toArray) ∧ Below w.heap.size w w' := by
  have Ha := Lib.hid ha
  have Hb := Lib.hid hb
  have Hc := Lib.hid hc
  have Hd := Lib.hid hd
  have Hu := Lib.hid hu
  clear ha hb hc hd hu
  have HB := Lib.hid (boxes3 w (rgN a b c d) ((u).map bval) zrg 45 23 45)
  go_enter Try.func22, Try.ntmps22
  go_upto_region 1 with (fail)
  obtain ⟨H1, H2, H3, HE⟩ := HB.out
  change Code.wp _ _ _ _ (World.alloc (World.alloc (World.alloc w (.cells (rgN a b c d).toArray 45)) (.cells ((u).map bval).toArray 23)) (.cells zrg.toArray 45))
  generalize (World.alloc (World.alloc (World.alloc w (.cells (rgN a b c d).toArray 45)) (.cells ((u).map bval).toArray 23)) (.cells zrg.toArray 45)) = wa at *
  obtain ⟨A, hA⟩ : ∃ A, A = w.heap.size := ⟨_, rfl⟩
  have HAW : Hid (w.heap.size ≤ A) := Lib.hid (by omega)
  rw [← hA] at H1 H2 H3 ⊢
  have H1 := Lib.hid H1
  have H2 := Lib.hid H2
  have H3 := Lib.hid H3
  have HE : Hid (Ext w wa) := Lib.hid HE
  clear hA HB
  go_wp2_with (first | (refine wpList_load_mid rfl _ _ rfl A 0 rfl _ _ (rgN_lo (H1.out.range)) Try.underlying43 rfl (ptN_size Ha.out.1 Hb.out.1) ?_) | (refine wpList_load_mid rfl _ _ rfl A 64 rfl _ _ (rgN_hi (H1.out.range) Ha.out.1 Hb.out.1 rfl) Try.underlying43 rfl (ptN_size Hc.out.1 Hd.out.1) ?_) | (refine wpList_load_mid rfl _ _ rfl (A + 1) 0 rfl _ _ (H2.out.range) Try.underlying23 rfl (num_size Hu.out.1) ?_))
  refine (lsum_f _ Ha.out Hb.out Hc.out Hd.out Hu.out).mono ?_
  rintro e w5 ⟨rfl, hb⟩
  have H1 := Lib.hid (ext_blk H1.out hb)
  have H2 := Lib.hid (ext_blk H2.out hb)
  have H3 := Lib.hid (ext_blk H3.out hb)
  have HE := Lib.hid (HE.out.trans hb)
  clear hb
  have HZ := Lib.hid (Blk.made w5 zpt 43)
  have HEA := Lib.hid (Ext.alloc w5 (.cells zpt.toArray 43))
  go_upto_region 2 with (refine wpList_store_blk rfl _ _ _ rfl w5.heap.size (ptN (nbF (sumX fa fb fc fd)) (nbF (sumZ fa fb fc fd fu))) rfl rfl _ _ HZ.out ((ptN_length (F32.nb _).1 (F32.nb _).1).trans zpt_length.symm) (ptN_size (F32.nb _).1 (F32.nb _).1) (ptN_one _ _) ?_; intro w6 hb hg)
  have HX := Lib.hid (ext_grown HEA.out hg (Nat.le_refl _))
  obtain ⟨pm, hT⟩ : ∃ T, T = w5.heap.size := ⟨_, rfl⟩
  rw [← hT] at hb ⊢
  clear hT
  have H1 := Lib.hid (ext_blk H1.out HX.out)
  have H2 := Lib.hid (ext_blk H2.out HX.out)
  have H3 := Lib.hid (ext_blk H3.out HX.out)
  have HE := Lib.hid (HE.out.trans HX.out)
  have HVm := Lib.hid hb
  clear hb hg HX HZ HEA
  generalize w6 = wm at *
  go_wp2_with fail
  refine wp_region_from 12 1 12 rfl (by kernel_rfl) (by kernel_rfl) (fun d v c a w h => by cases d <;> exact h) (by kernel_rfl) ?_
  refine det_fieldk _ _ A _ 0 0 (by rfl) rfl rfl (fun w => by go_simp) ?_
  simp only [Act.put, List.getElem_toArray, List.getElem_cons_zero, List.getElem_cons_succ, List.setIfInBounds_toArray, List.set_cons_zero, List.set_cons_succ]
  refine det_loadk _ _ A 0 (ptN a b) _ (by rfl) rfl rfl (fun w hw => rgN_lo ((ext_blk H1.out hw).range)) Try.underlying43 rfl (ptN_size Ha.out.1 Hb.out.1) ?_
  simp only [Act.put, List.getElem_toArray, List.getElem_cons_zero, List.getElem_cons_succ, List.setIfInBounds_toArray, List.set_cons_zero, List.set_cons_succ]
  refine det_call _ _ _ [.agg (ptN a b).toArray] (.agg (ptN (nbF (dblX fa fb)) (nbF (dblZ fa fb))).toArray) (by rfl) rfl Try.call35 rfl (fun w hw => ltwice_f w Ha.out Hb.out) ?_
  simp only [Act.put, List.getElem_toArray, List.getElem_cons_zero, List.getElem_cons_succ, List.setIfInBounds_toArray, List.set_cons_zero, List.set_cons_succ]
  refine det_loadk _ _ pm 0 (ptN (nbF (sumX fa fb fc fd)) (nbF (sumZ fa fb fc fd fu))) _ (by rfl) rfl rfl (fun w hw => (ext_blk HVm.out hw).range) Try.underlying43 rfl (ptN_size (F32.nb _).1 (F32.nb _).1) ?_
  simp only [Act.put, List.getElem_toArray, List.getElem_cons_zero, List.getElem_cons_succ, List.setIfInBounds_toArray, List.set_cons_zero, List.set_cons_succ]
  refine det_build _ _ #[(0, .agg (ptN (nbF (dblX fa fb)) (nbF (dblZ fa fb))).toArray), (1, .agg (ptN (nbF (sumX fa fb fc fd)) (nbF (sumZ fa fb fc fd fu))).toArray)] (.agg (rgN (nbF (dblX fa fb)) (nbF (dblZ fa fb)) (nbF (sumX fa fb fc fd)) (nbF (sumZ fa fb fc fd fu))).toArray) (by rfl) rfl (by simp [Act.eval]) (build_rgN (F32.nb _).1 (F32.nb _).1 (F32.nb _).1 (F32.nb _).1) ?_
  simp only [Act.put, List.getElem_toArray, List.getElem_cons_zero, List.getElem_cons_succ, List.setIfInBounds_toArray, List.set_cons_zero, List.set_cons_succ]
  refine det_loadk _ _ pm 0 (ptN (nbF (sumX fa fb fc fd)) (nbF (sumZ fa fb fc fd fu))) _ (by rfl) rfl rfl (fun w hw => (ext_blk HVm.out hw).range) Try.underlying43 rfl (ptN_size (F32.nb _).1 (F32.nb _).1) ?_
  simp only [Act.put, List.getElem_toArray, List.getElem_cons_zero, List.getElem_cons_succ, List.setIfInBounds_toArray, List.set_cons_zero, List.set_cons_succ]
  refine det_fieldk _ _ A _ 0 64 (by rfl) rfl rfl (fun w => by go_simp) ?_
  simp only [Act.put, List.getElem_toArray, List.getElem_cons_zero, List.getElem_cons_succ, List.setIfInBounds_toArray, List.set_cons_zero, List.set_cons_succ]
  refine det_loadk _ _ A 64 (ptN c d) _ (by rfl) rfl rfl (fun w hw => rgN_hi ((ext_blk H1.out hw).range) Ha.out.1 Hb.out.1 rfl) Try.underlying43 rfl (ptN_size Hc.out.1 Hd.out.1) ?_
  simp only [Act.put, List.getElem_toArray, List.getElem_cons_zero, List.getElem_cons_succ, List.setIfInBounds_toArray, List.set_cons_zero, List.set_cons_succ]
  refine det_call _ _ _ [.agg (ptN c d).toArray] (.agg (ptN (nbF (dblX fc fd)) (nbF (dblZ fc fd))).toArray) (by rfl) rfl Try.call35 rfl (fun w hw => ltwice_f w Hc.out Hd.out) ?_
  simp only [Act.put, List.getElem_toArray, List.getElem_cons_zero, List.getElem_cons_succ, List.setIfInBounds_toArray, List.set_cons_zero, List.set_cons_succ]
  refine det_build _ _ #[(0, .agg (ptN (nbF (sumX fa fb fc fd)) (nbF (sumZ fa fb fc fd fu))).toArray), (1, .agg (ptN (nbF (dblX fc fd)) (nbF (dblZ fc fd))).toArray)] (.agg (rgN (nbF (sumX fa fb fc fd)) (nbF (sumZ fa fb fc fd fu)) (nbF (dblX fc fd)) (nbF (dblZ fc fd))).toArray) (by rfl) rfl (by simp [Act.eval]) (build_rgN (F32.nb _).1 (F32.nb _).1 (F32.nb _).1 (F32.nb _).1) ?_
  simp only [Act.put, List.getElem_toArray, List.getElem_cons_zero, List.getElem_cons_succ, List.setIfInBounds_toArray, List.set_cons_zero, List.set_cons_succ]
  refine det_move _ (.bool s) (by rfl) rfl rfl ?_
  simp only [Act.put, List.getElem_toArray, List.getElem_cons_zero, List.getElem_cons_succ, List.setIfInBounds_toArray, List.set_cons_zero, List.set_cons_succ]
  refine det_call _ _ _ [.agg (rgN (nbF (dblX fa fb)) (nbF (dblZ fa fb)) (nbF (sumX fa fb fc fd)) (nbF (sumZ fa fb fc fd fu))).toArray, .agg (rgN (nbF (sumX fa fb fc fd)) (nbF (sumZ fa fb fc fd fu)) (nbF (dblX fc fd)) (nbF (dblZ fc fd))).toArray, .bool s] (.agg (rgN (pkL s (nbF (dblX fa fb)) (nbF (sumX fa fb fc fd))) (pkL s (nbF (dblZ fa fb)) (nbF (sumZ fa fb fc fd fu))) (pkL s (nbF (sumX fa fb fc fd)) (nbF (dblX fc fd))) (pkL s (nbF (sumZ fa fb fc fd fu)) (nbF (dblZ fc fd)))).toArray) (by rfl) rfl Try.call34 rfl (fun w hw => lpick_any s w (F32.of (nbF_length _)) (F32.of (nbF_length _)) (F32.of (nbF_length _)) (F32.of (nbF_length _)) (F32.of (nbF_length _)) (F32.of (nbF_length _)) (F32.of (nbF_length _)) (F32.of (nbF_length _))) ?_
  simp only [Act.put, List.getElem_toArray, List.getElem_cons_zero, List.getElem_cons_succ, List.setIfInBounds_toArray, List.set_cons_zero, List.set_cons_succ]
  refine det_nil (end_set (k := 12) _ _ _ _ (A + 1 + 1) (rgN (pkL s (nbF (dblX fa fb)) (nbF (sumX fa fb fc fd))) (pkL s (nbF (dblZ fa fb)) (nbF (sumZ fa fb fc fd fu))) (pkL s (nbF (sumX fa fb fc fd)) (nbF (dblX fc fd))) (pkL s (nbF (sumZ fa fb fc fd fu)) (nbF (dblZ fc fd)))) zrg rfl (by kernel_rfl) (by kernel_rfl) (by kernel_rfl) rfl rfl rfl rfl H3.out ((rgN_length (F32.pk s (F32.nb _) (F32.nb _)).1 (F32.pk s (F32.nb _) (F32.nb _)).1 (F32.pk s (F32.nb _) (F32.nb _)).1 (F32.pk s (F32.nb _) (F32.nb _)).1).trans zrg_length.symm) (rgN_size (F32.pk s (F32.nb _) (F32.nb _)).1 (F32.pk s (F32.nb _) (F32.nb _)).1 (F32.pk s (F32.nb _) (F32.nb _)).1 (F32.pk s (F32.nb _) (F32.nb _)).1) (rgN_one _ _ _ _) (fun w8 hb8 hg8 => ?_))
  simp only [Act.put]
  go_wp2_with fail
  exact bodyPost_ret (result_row (by rfl) _ (A + 1 + 1) _ _ _ (by rfl) hb8 Try.underlying45 rfl (rgN_size (F32.pk s (F32.nb _) (F32.nb _)).1 (F32.pk s (F32.nb _) (F32.nb _)).1 (F32.pk s (F32.nb _) (F32.nb _)).1 (F32.pk s (F32.nb _) (F32.nb _)).1)) rfl ⟨rfl, ext_grown HE.out hg8 (by have := HAW.out; omega)⟩

end Go.Proofs.Ytdjdalaghfknoaa

/- The walk of the code's own clamped. Each theorem names its own conditions. -/
namespace Go.Proofs.Ytdjdalaghfknoaa
open Go.RowKit
set_option linter.unusedVariables false
set_option linter.unusedSimpArgs false

set_option maxRecDepth 100000 in
set_option maxHeartbeats 4000000 in
theorem lclamped_any (kb : List UInt8) (w : World) (hk : kb.length = 32) : Calls Try.prog 21 #[.agg (kb.map bval).toArray] w fun e w' => e = .returned (.agg ((clampB kb).map bval).toArray) ∧ Below w.heap.size w w' := by
  have HB := Lib.hid (boxes2 w (kb.map bval) (ints .u8 (List.replicate 32 0)) 23 23)
  have HKL := Lib.hid hk
  clear hk
  go_enter Try.func21, Try.ntmps21
  go_upto_region 1 with (fail)
  obtain ⟨H1, H2, HE⟩ := HB.out
  change Code.wp _ _ _ _ ((w.alloc (.cells (kb.map bval).toArray 23)).alloc (.cells (ints .u8 (List.replicate 32 0)).toArray 23))
  generalize (w.alloc (.cells (kb.map bval).toArray 23)).alloc (.cells (ints .u8 (List.replicate 32 0)).toArray 23) = wa at *
  obtain ⟨A, hA⟩ : ∃ A, A = w.heap.size := ⟨_, rfl⟩
  have HAW : Hid (w.heap.size ≤ A) := Lib.hid (by omega)
  rw [← hA] at H1 H2 ⊢
  have H1 := Lib.hid H1
  have H2 := Lib.hid H2
  have HE : Hid (Ext w wa) := Lib.hid HE
  clear hA HB
  obtain ⟨k1, hk1⟩ : ∃ k1, k1 = kb.set 0 (kb.getD 0 0 &&& 248) := ⟨_, rfl⟩
  have HX1 : Hid ((kb.map bval).set 0 (.int .u8 (bits .and .u8 ((kb.getD 0 0).toNat : Int) 248)) = k1.map bval) := Lib.hid (by
    have e1 := u8_and (kb.getD 0 0) 248
    rw [show (248 : Int) = ((248 : UInt8).toNat : Int) from rfl, e1, u8_set, hk1])
  have HL1 : Hid (k1.length = 32) := Lib.hid (by rw [hk1, List.length_set, HKL.out])
  have HX2 : Hid ((k1.map bval).set 31 (.int .u8 (bits .or .u8 (bits .and .u8 ((k1.getD 31 0).toNat : Int) 127) 64)) = (clampB kb).map bval) := Lib.hid (by
    have e1 := u8_and (k1.getD 31 0) 127
    have e2 := u8_or (k1.getD 31 0 &&& 127) 64
    rw [show (127 : Int) = ((127 : UInt8).toNat : Int) from rfl, show (64 : Int) = ((64 : UInt8).toNat : Int) from rfl, e1, e2, u8_set, hk1]
    rfl)
  have HCL := Lib.hid (clampB_length HKL.out)
  obtain ⟨cl, hcl⟩ : ∃ cl, cl = clampB kb := ⟨_, rfl⟩
  rw [← hcl] at HCL HX2
  have HCE := Lib.hid hcl
  clear hcl
  clear hk1
  have c1 := H1.out.cell 0
  rw [bval_get (by rw [HKL.out]; omega)] at c1
  have f1 := H1.out.free 0
  generalize ((kb.getD 0 0).toNat : Int) = q1 at *
  go_upto_region 2 with (fail)
  have HM := Lib.hid (H1.out.set 0 (.int .u8 (bits .and .u8 q1 248)))
  rw [HX1.out] at HM
  have H2 := Lib.hid (H2.out.far (a := ⟨A, 0, none⟩) (by simp) (.int .u8 (bits .and .u8 q1 248)))
  have HE := Lib.hid (Below.setCell HE.out (p := ⟨A, 0, none⟩) (by have := HAW.out; simp; omega) (.int .u8 (bits .and .u8 q1 248)))
  generalize bits .and .u8 q1 248 = v1 at *
  generalize wa.setCell ⟨A, 0, none⟩ (.int .u8 v1) = wb at *
  clear c1 f1 HX1 H1
  have c1 := HM.out.cell 31
  rw [bval_get (by rw [HL1.out]; omega)] at c1
  have f1 := HM.out.free 31
  generalize ((k1.getD 31 0).toNat : Int) = q2 at *
  go_upto_region 3 with (fail)
  have HM2 := Lib.hid (HM.out.set 31 (.int .u8 (bits .or .u8 (bits .and .u8 q2 127) 64)))
  rw [HX2.out] at HM2
  have H2 := Lib.hid (H2.out.far (a := ⟨A, 31, none⟩) (by simp) (.int .u8 (bits .or .u8 (bits .and .u8 q2 127) 64)))
  have HE := Lib.hid (Below.setCell HE.out (p := ⟨A, 31, none⟩) (by have := HAW.out; simp; omega) (.int .u8 (bits .or .u8 (bits .and .u8 q2 127) 64)))
  generalize bits .or .u8 (bits .and .u8 q2 127) 64 = v2 at *
  generalize wb.setCell ⟨A, 31, none⟩ (.int .u8 v2) = wc at *
  clear c1 f1 HX2 HM
  have HE : Hid (Ext w wc) := Lib.hid HE.out
  have HI : Hid ((Try.prog.info? 23).map (·.size) = some (cl.map bval).length) := Lib.hid (num_size HCL.out)
  have HLo : Hid ((cl.map bval).length = (ints .u8 (List.replicate 32 0)).length) := Lib.hid (by rw [List.length_map, HCL.out, ints_length, List.length_replicate])
  go_wp2_with (first | (refine wpList_load_blk rfl _ _ rfl A rfl _ _ _ _ HM2.out Try.underlying23 HI.out ?_) | (refine wpList_store_blk rfl _ _ _ rfl (A + 1) (cl.map bval) rfl rfl _ _ H2.out HLo.out HI.out (bval_one _) ?_; intro w5 hb5 hg5))
  refine bodyPost_ret (result_blk rfl _ (A + 1) _ _ _ _ rfl hb5 Try.underlying23 HI.out) rfl ?_
  exact ⟨by rw [HCE.out], ext_grown HE.out hg5 (by have := HAW.out; omega)⟩

end Go.Proofs.Ytdjdalaghfknoaa

/- The walk of the code's own X25519. Each theorem names its own conditions. -/
namespace Go.Proofs.Ytdjdalaghfknoaa
open Go.RowKit
set_option linter.unusedVariables false
set_option linter.unusedSimpArgs false

theorem pk_len {a b : List UInt8} (t : Bool) (ha : a.length = 32) (hb : b.length = 32) : (pkL t a b).length = 32 := by cases t <;> assumption
theorem sm_f : F32 (smL 1) 1 := by
  refine ⟨smL_length 1, ?_⟩
  have h : leN (smL 1) = 1 := by decide +kernel
  rw [h]
  exact fp_one
theorem zer_f : F32 zer 0 := by
  refine ⟨by simp [zer], ?_⟩
  rw [leN_zer]
  exact fp_zero
theorem build_o (w : World) : (Instr.build 43 #[(0, .agg ((smL 1).map bval).toArray)]).run Try.prog w = .ok (.agg (ptN (smL 1) zer).toArray) w := by
  refine run_build w _ _ _ ?_
  kernel_rfl
theorem fp_litc : fp 121665 = 121665 := by
  apply fin_int
  rw [fp_int]
  decide +kernel
/-- One step of the code's own is one of the ladder's. -/
theorem bit_code (x1 : Fp) (s : LS) (b : Bool) : (s.bit x1 b).x2 = (if b then sumX s.x2 s.z2 s.x3 s.z3 else dblX s.x2 s.z2) ∧ (s.bit x1 b).z2 = (if b then sumZ s.x2 s.z2 s.x3 s.z3 x1 else dblZ s.x2 s.z2) ∧
    (s.bit x1 b).x3 = (if b then dblX s.x3 s.z3 else sumX s.x2 s.z2 s.x3 s.z3) ∧ (s.bit x1 b).z3 = (if b then dblZ s.x3 s.z3 else sumZ s.x2 s.z2 s.x3 s.z3 x1) := by
  cases b
  · simp only [LS.bit, LS.turn, LS.step, dblX, dblZ, sumX, sumZ, fp_litc, Bool.false_eq_true, if_false]
    refine ⟨by grind, by grind, by grind, by grind⟩
  · simp only [LS.bit, LS.turn, LS.swap, LS.step, dblX, dblZ, sumX, sumZ, fp_litc, if_true]
    refine ⟨by grind, by grind, by grind, by grind⟩

set_option maxRecDepth 100000 in
set_option maxHeartbeats 4000000 in
theorem LMul_num (kb ub : List UInt8) (w : World) (hk : kb.length = 32) (hu : ub.length = 32) : Calls Try.prog 13 #[.agg (kb.map bval).toArray, .agg (ub.map bval).toArray] w fun e w' => e = .returned (.agg ((ladB kb ub).map bval).toArray) ∧ Below w.heap.size w w' := by
  have HB := Lib.hid (boxes3 w (kb.map bval) (ub.map bval) (ints .u8 (List.replicate 32 0)) 23 23 23)
  have HKL := Lib.hid hk
  have HUL := Lib.hid hu
  clear hk hu
  go_enter Try.func13, Try.ntmps13
  go_upto_region 1 with (fail)
  obtain ⟨H1, H2, H3, HE⟩ := HB.out
  change Code.wp _ _ _ _ (((w.alloc (.cells (kb.map bval).toArray 23)).alloc (.cells (ub.map bval).toArray 23)).alloc (.cells (ints .u8 (List.replicate 32 0)).toArray 23))
  generalize ((w.alloc (.cells (kb.map bval).toArray 23)).alloc (.cells (ub.map bval).toArray 23)).alloc (.cells (ints .u8 (List.replicate 32 0)).toArray 23) = wa at *
  obtain ⟨A, hA⟩ : ∃ A, A = w.heap.size := ⟨_, rfl⟩
  have HO : Hid (w.heap.size ≤ A) := Lib.hid (by omega)
  rw [← hA] at H1 H2 H3 ⊢
  have H1 := Lib.hid H1
  have H2 := Lib.hid H2
  have HR := Lib.hid H3
  have HE : Hid (Ext w wa) := Lib.hid HE
  clear hA HB
  obtain ⟨cl, hcl⟩ : ∃ cl, cl = clampB kb := ⟨_, rfl⟩
  obtain ⟨mu, hmu⟩ : ∃ mu, mu = maskB ub := ⟨_, rfl⟩
  have HCL : Hid (cl.length = 32) := Lib.hid (by rw [hcl]; exact clampB_length HKL.out)
  have HML : Hid (mu.length = 32) := Lib.hid (by rw [hmu]; exact maskB_length HUL.out)
  have HIK := Lib.hid (num_size HKL.out)
  have HIC : Hid ((Try.prog.info? 23).map (·.size) = some (cl.map bval).length) := Lib.hid (num_size HCL.out)
  have HIM : Hid ((Try.prog.info? 23).map (·.size) = some (mu.map bval).length) := Lib.hid (num_size HML.out)
  have HLK : Hid ((cl.map bval).length = (kb.map bval).length) := Lib.hid (by rw [List.length_map, List.length_map, HCL.out, HKL.out])
  have HX1 : Hid ((ub.map bval).set 31 (.int .u8 (bits .and .u8 ((ub.getD 31 0).toNat : Int) 127)) = mu.map bval) := Lib.hid (by
    have e1 := u8_and (ub.getD 31 0) 127
    rw [show (127 : Int) = ((127 : UInt8).toNat : Int) from rfl, e1, u8_set, hmu]
    rfl)
  have HCE := Lib.hid hcl
  have HME := Lib.hid hmu
  have HC := Lib.hid (lclamped_any kb wa HKL.out)
  rw [← hcl] at HC
  clear hcl hmu
  go_wp2_with (refine wpList_load_blk rfl _ _ rfl A rfl _ _ _ _ H1.out Try.underlying23 HIK.out ?_)
  refine HC.out.mono ?_
  rintro e wb ⟨rfl, hb⟩
  have H1 := Lib.hid (ext_blk H1.out hb)
  have H2 := Lib.hid (ext_blk H2.out hb)
  have HR := Lib.hid (ext_blk HR.out hb)
  have HE := Lib.hid (HE.out.trans hb)
  clear hb HC
  go_upto_region 2 with (refine wpList_store_blk rfl _ _ _ rfl A (cl.map bval) rfl rfl _ _ H1.out HLK.out HIC.out (bval_one _) ?_; intro wc hbm hgm)
  have H2 := Lib.hid (H2.out.grown hgm (by simp))
  have HR := Lib.hid (HR.out.grown hgm (by simp <;> omega))
  have HE := Lib.hid (ext_grown HE.out hgm HO.out)
  have HK := Lib.hid hbm
  clear H1 hbm hgm HLK HIK
  have c1 := H2.out.cell 31
  rw [bval_get (by rw [HUL.out]; omega)] at c1
  have f1 := H2.out.free 31
  generalize ((ub.getD 31 0).toNat : Int) = q1 at *
  go_upto_region 3 with (fail)
  have HM := Lib.hid (H2.out.set 31 (.int .u8 (bits .and .u8 q1 127)))
  rw [HX1.out] at HM
  have HK := Lib.hid (HK.out.far (a := ⟨A + 1, 31, none⟩) (by simp) (.int .u8 (bits .and .u8 q1 127)))
  have HR := Lib.hid (HR.out.far (a := ⟨A + 1, 31, none⟩) (by simp) (.int .u8 (bits .and .u8 q1 127)))
  have HE : Hid (Ext w _) := Lib.hid (Below.setCell HE.out (p := ⟨A + 1, 31, none⟩) (by have := HO.out; simp; omega) (.int .u8 (bits .and .u8 q1 127)))
  generalize bits .and .u8 q1 127 = v1 at *
  generalize wc.setCell ⟨A + 1, 31, none⟩ (.int .u8 v1) = wd at *
  clear c1 f1 HX1 H2
  obtain ⟨x1f, hx1⟩ : ∃ x1f, x1f = fp (leN mu) := ⟨_, rfl⟩
  have HXF := Lib.hid hx1
  have HMF : Hid (F32 mu x1f) := Lib.hid (by rw [hx1]; exact F32.of HML.out)
  clear hx1
  have HZ := Lib.hid (Blk.made wd zrg 45)
  have HEA := Lib.hid (Ext.alloc wd (.cells zrg.toArray 45))
  have HGS := Lib.hid (rgN_size (smL_length 1) (zer_f).1 HML.out (smL_length 1))
  have HGL : Hid ((rgN (smL 1) zer mu (smL 1)).length = zrg.length) := Lib.hid ((rgN_length (smL_length 1) (zer_f).1 HML.out (smL_length 1)).trans zrg_length.symm)
  obtain ⟨one, hone⟩ : ∃ o, o = smL 1 := ⟨_, rfl⟩
  obtain ⟨zr, hzr⟩ : ∃ o, o = zer := ⟨_, rfl⟩
  have HB1 := Lib.hid (build_one)
  have HB2 := Lib.hid (build_o)
  have HB3 := Lib.hid (build_ptN HML.out (smL_length 1))
  have HB4 := Lib.hid (build_rgN (smL_length 1) (zer_f).1 HML.out (smL_length 1))
  have HOF := Lib.hid (sm_f)
  have HZF := Lib.hid (zer_f)
  rw [← hone] at HGS HGL HB1 HB2 HB3 HB4 HOF
  rw [← hzr] at HGS HGL HB2 HB4 HZF
  clear hone hzr
  go_upto_region 4 with (first | (refine wpList_build rfl 23 #[(0, _)] rfl #[(0, .int .u8 1)] (by simp [Act.eval, Act.put]) (.agg (one.map bval).toArray) (HB1.out _) ?_) | (refine wpList_build rfl 43 #[(0, _)] rfl #[(0, .agg (one.map bval).toArray)] (by simp [Act.eval, Act.put]) (.agg (ptN one zr).toArray) (HB2.out _) ?_) | (refine wpList_build rfl 43 #[(0, _), (1, _)] rfl #[(0, .agg (mu.map bval).toArray), (1, .agg (one.map bval).toArray)] (by simp [Act.eval, Act.put]) (.agg (ptN mu one).toArray) (HB3.out _) ?_) | (refine wpList_build rfl 45 #[(0, _), (1, _)] rfl #[(0, .agg (ptN one zr).toArray), (1, .agg (ptN mu one).toArray)] (by simp [Act.eval, Act.put]) (.agg (rgN one zr mu one).toArray) (HB4.out _) ?_) | (refine wpList_load_blk rfl _ _ rfl (A + 1) rfl _ _ _ _ HM.out Try.underlying23 HIM.out ?_) | (refine wpList_store_blk rfl _ _ _ rfl wd.heap.size (rgN one zr mu one) rfl rfl _ _ HZ.out HGL.out HGS.out (rgN_one _ _ _ _) ?_; intro we hb hg))
  have HX := Lib.hid (ext_grown HEA.out hg (Nat.le_refl _))
  obtain ⟨T, hT⟩ : ∃ T, T = wd.heap.size := ⟨_, rfl⟩
  have HT : Hid (A + 1 + 1 < T) := Lib.hid (by rw [hT]; exact HR.out.lt)
  rw [← hT] at hb ⊢
  have HK := Lib.hid (ext_blk HK.out HX.out)
  have HM := Lib.hid (ext_blk HM.out HX.out)
  have HR := Lib.hid (ext_blk HR.out HX.out)
  have HE := Lib.hid (HE.out.trans HX.out)
  have HG := Lib.hid hb
  clear hb hg HX HZ HEA hT HGS HGL HB1 HB2 HB3 HB4
  go_wp2_with fail
  go_loopw [6] (fun i wr => ∃ (k : Nat) (a b c d : List UInt8), k ≤ 255 ∧ i = .int .i64 (254 - (k : Int)) ∧ Blk wr T (rgN a b c d) 45 ∧ F32 a (lrun x1f (leN cl) k).x2 ∧ F32 b (lrun x1f (leN cl) k).z2 ∧ F32 c (lrun x1f (leN cl) k).x3 ∧ F32 d (lrun x1f (leN cl) k).z3 ∧ Blk wr A (cl.map bval) 23 ∧ Blk wr (A + 1) (mu.map bval) 23 ∧ Blk wr (A + 1 + 1) (ints .u8 (List.replicate 32 0)) 23 ∧ Ext w wr) (fun i _ => (intOf i + 1).toNat)
  case atStart => exact ⟨0, one, zr, mu, one, by omega, rfl, HG.out, HOF.out, HZF.out, HMF.out, HOF.out, HK.out, HM.out, HR.out, HE.out⟩
  case round =>
    clear HG HOF HZF HK HM HR HE
    obtain ⟨k, a, b, c, d, hk, rfl, q1, q2, q3, q4, q5, q6, q7, q8, q9⟩ := hrel
    have i0' : (0 : Int) ≤ (k : Int) := Int.natCast_nonneg _
    obtain ⟨s, hs⟩ : ∃ s, s = lrun x1f (leN cl) k := ⟨_, rfl⟩
    rw [← hs] at q2 q3 q4 q5
    have HG := Lib.hid q1
    have Ha := Lib.hid q2
    have Hb := Lib.hid q3
    have Hc := Lib.hid q4
    have Hd := Lib.hid q5
    have HK := Lib.hid q6
    have HM := Lib.hid q7
    have HR := Lib.hid q8
    have HE := Lib.hid q9
    clear q1 q2 q3 q4 q5 q6 q7 q8 q9
    by_cases hlt : k < 255
    · have i1 : (0 : Int) ≤ 254 - (k : Int) := by omega
      obtain ⟨m, hm⟩ : ∃ m, m = 254 - k := ⟨_, rfl⟩
      have hmi : 254 - (k : Int) = (m : Int) := by omega
      have hbit := leN_bit cl m (by have := HCL.out; omega)
      obtain ⟨bt, hbt⟩ : ∃ bt, bt = (cl.getD (m / 8) 0).toNat := ⟨_, rfl⟩
      rw [← hbt] at hbit
      have hbl : bt < 256 := by rw [hbt]; exact UInt8.toNat_lt _
      have htb : (leN cl).testBit m = decide (bt / 2 ^ (m % 8) % 2 = 1) := by rw [Nat.testBit_eq_decide_div_mod_eq, hbit]
      obtain ⟨t, ht⟩ : ∃ t, t = (leN cl).testBit m := ⟨_, rfl⟩
      rw [← ht] at htb
      have HTB : Hid (decide (bits .and .u8 ((bt / 2 ^ (m % 8) : Nat) : Int) 1 = 1) = t) := Lib.hid (by
        rw [andU1, htb]
        congr 1
        apply propext
        omega)
      have HST : Hid (lrun x1f (leN cl) (k + 1) = s.bit x1f t) := Lib.hid (by rw [lrun, ht, hm, hs])
      have HBT := Lib.hid hbt
      have HMI := Lib.hid hmi
      have hm8 : m / 8 < 32 := by omega
      have hmk : m ≤ 254 := by omega
      have HM8 := Lib.hid hm8
      have HMK := Lib.hid hmk
      have HCC : ∀ w', Ext wr w' → w'.cell? ⟨A, m / 8, none⟩ = some (.int .u8 (bt : Int)) := fun w' hw' => by
        have h := (ext_blk HK.out hw').cell (m / 8)
        rw [bval_get (by rw [HCL.out]; exact HM8.out)] at h
        rw [h, ← HBT.out]
      have HCC := Lib.hid HCC
      have HSC := Lib.hid (bit_code x1f s t)
      clear hbit hbt hbl htb ht hm hmi hm8 hmk hs
      go_wp2_with fail
      refine wp_region_from 12 1 12 rfl (by kernel_rfl) (by kernel_rfl) (fun d v c a w h => by cases d <;> exact h) (by kernel_rfl) ?_
      refine det_loadk _ _ T 0 (rgN a b c d) _ (by rfl) rfl rfl (fun w hw => (ext_blk HG.out hw).range) Try.underlying45 rfl (rgN_size Ha.out.1 Hb.out.1 Hc.out.1 Hd.out.1) ?_
      simp only [Act.put, List.getElem_toArray, List.getElem_cons_zero, List.getElem_cons_succ, List.setIfInBounds_toArray, List.set_cons_zero, List.set_cons_succ]
      refine det_loadk _ _ (A + 1) 0 ((mu).map bval) _ (by rfl) rfl rfl (fun w hw => (ext_blk HM.out hw).range) Try.underlying23 rfl (num_size HMF.out.1) ?_
      simp only [Act.put, List.getElem_toArray, List.getElem_cons_zero, List.getElem_cons_succ, List.setIfInBounds_toArray, List.set_cons_zero, List.set_cons_succ]
      refine det_move _ (.int .i64 (m : Int)) (by rfl) rfl (by show Value.int .i64 (254 - (k : Int)) = _; rw [HMI.out]) ?_
      simp only [Act.put, List.getElem_toArray, List.getElem_cons_zero, List.getElem_cons_succ, List.setIfInBounds_toArray, List.set_cons_zero, List.set_cons_succ]
      refine det_quo _ _ _ _ m 8 (by rfl) rfl rfl rfl (by omega) (by have := HMK.out; omega) ?_
      simp only [Act.put, List.getElem_toArray, List.getElem_cons_zero, List.getElem_cons_succ, List.setIfInBounds_toArray, List.set_cons_zero, List.set_cons_succ]
      refine det_index _ _ _ _ A 32 (m / 8) (by rfl) rfl rfl rfl Try.underlying23 HM8.out (Try.sizeOf5) ?_
      simp only [Act.put, List.getElem_toArray, List.getElem_cons_zero, List.getElem_cons_succ, List.setIfInBounds_toArray, List.set_cons_zero, List.set_cons_succ]
      refine det_cell _ _ A (m / 8) (.int .u8 (bt : Int)) (by rfl) rfl rfl HCC.out (Try.isAgg5) ?_
      simp only [Act.put, List.getElem_toArray, List.getElem_cons_zero, List.getElem_cons_succ, List.setIfInBounds_toArray, List.set_cons_zero, List.set_cons_succ]
      refine det_move _ (.int .i64 (m : Int)) (by rfl) rfl (by show Value.int .i64 (254 - (k : Int)) = _; rw [HMI.out]) ?_
      simp only [Act.put, List.getElem_toArray, List.getElem_cons_zero, List.getElem_cons_succ, List.setIfInBounds_toArray, List.set_cons_zero, List.set_cons_succ]
      refine det_rem _ _ _ _ m 8 (by rfl) rfl rfl rfl (by omega) (by have := HMK.out; omega) ?_
      simp only [Act.put, List.getElem_toArray, List.getElem_cons_zero, List.getElem_cons_succ, List.setIfInBounds_toArray, List.set_cons_zero, List.set_cons_succ]
      refine det_shrn .u8 _ _ _ _ bt (m % 8) (by rfl) rfl rfl rfl (by show m % 8 ≤ 8; omega) ?_
      simp only [Act.put, List.getElem_toArray, List.getElem_cons_zero, List.getElem_cons_succ, List.setIfInBounds_toArray, List.set_cons_zero, List.set_cons_succ]
      refine det_and _ _ _ _ .u8 _ _ (bits .and .u8 ((bt / 2 ^ (m % 8) : Nat) : Int) 1) (by rfl) rfl rfl rfl rfl ?_
      simp only [Act.put, List.getElem_toArray, List.getElem_cons_zero, List.getElem_cons_succ, List.setIfInBounds_toArray, List.set_cons_zero, List.set_cons_succ]
      refine det_eqi .u8 _ _ _ _ _ _ t (by rfl) rfl rfl rfl HTB.out ?_
      simp only [Act.put, List.getElem_toArray, List.getElem_cons_zero, List.getElem_cons_succ, List.setIfInBounds_toArray, List.set_cons_zero, List.set_cons_succ]
      refine det_call _ _ _ [.agg (rgN a b c d).toArray, .agg ((mu).map bval).toArray, .bool t] (.agg (rgN (pkL t (nbF (dblX s.x2 s.z2)) (nbF (sumX s.x2 s.z2 s.x3 s.z3))) (pkL t (nbF (dblZ s.x2 s.z2)) (nbF (sumZ s.x2 s.z2 s.x3 s.z3 x1f))) (pkL t (nbF (sumX s.x2 s.z2 s.x3 s.z3)) (nbF (dblX s.x3 s.z3))) (pkL t (nbF (sumZ s.x2 s.z2 s.x3 s.z3 x1f)) (nbF (dblZ s.x3 s.z3)))).toArray) (by rfl) rfl Try.call22 rfl (fun w hw => lclimb_f t w Ha.out Hb.out Hc.out Hd.out HMF.out) ?_
      simp only [Act.put, List.getElem_toArray, List.getElem_cons_zero, List.getElem_cons_succ, List.setIfInBounds_toArray, List.set_cons_zero, List.set_cons_succ]
      refine det_nil (end_set (k := 12) _ _ _ _ T (rgN (pkL t (nbF (dblX s.x2 s.z2)) (nbF (sumX s.x2 s.z2 s.x3 s.z3))) (pkL t (nbF (dblZ s.x2 s.z2)) (nbF (sumZ s.x2 s.z2 s.x3 s.z3 x1f))) (pkL t (nbF (sumX s.x2 s.z2 s.x3 s.z3)) (nbF (dblX s.x3 s.z3))) (pkL t (nbF (sumZ s.x2 s.z2 s.x3 s.z3 x1f)) (nbF (dblZ s.x3 s.z3)))) (rgN a b c d) rfl (by kernel_rfl) (by kernel_rfl) (by kernel_rfl) rfl rfl rfl rfl HG.out ((rgN_length (pk_len t (nbF_length _) (nbF_length _)) (pk_len t (nbF_length _) (nbF_length _)) (pk_len t (nbF_length _) (nbF_length _)) (pk_len t (nbF_length _) (nbF_length _))).trans (rgN_length Ha.out.1 Hb.out.1 Hc.out.1 Hd.out.1).symm) (rgN_size (pk_len t (nbF_length _) (nbF_length _)) (pk_len t (nbF_length _) (nbF_length _)) (pk_len t (nbF_length _) (nbF_length _)) (pk_len t (nbF_length _) (nbF_length _))) (rgN_one _ _ _ _) (fun w8 hb8 hg8 => ?_))
      simp only [Act.put]
      go_wp2_with fail
      go_roundw
      case rel =>
        obtain ⟨e1, e2, e3, e4⟩ := HSC.out
        refine ⟨k + 1, _, _, _, _, by omega, by go_num, hb8, ?_, ?_, ?_, ?_, HK.out.grown hg8 (by have := HT.out; simp; omega), HM.out.grown hg8 (by have := HT.out; simp; omega), HR.out.grown hg8 (by have := HT.out; simp; omega), ext_grown HE.out hg8 (by have := HT.out; have := HO.out; omega)⟩
        · rw [HST.out, e1]; exact F32.pk t (F32.nb _) (F32.nb _)
        · rw [HST.out, e2]; exact F32.pk t (F32.nb _) (F32.nb _)
        · rw [HST.out, e3]; exact F32.pk t (F32.nb _) (F32.nb _)
        · rw [HST.out, e4]; exact F32.pk t (F32.nb _) (F32.nb _)
      case measure => simp [intOf]; omega
    · have hk' : k = 255 := by omega
      subst hk'
      have HF : Hid (nbF (s.x2 * fi s.z2) = ladB kb ub) := Lib.hid (by rw [hs, HXF.out, HME.out, HCE.out]; rfl)
      clear hs
      go_wp2_with fail
      refine wp_region_from 8 1 8 rfl (by kernel_rfl) (by kernel_rfl) (fun d v c a w h => by cases d <;> exact h) (by kernel_rfl) ?_
      refine det_fieldk _ _ T _ 0 0 (by rfl) rfl rfl (fun w => by go_simp) ?_
      simp only [Act.put, List.getElem_toArray, List.getElem_cons_zero, List.getElem_cons_succ, List.setIfInBounds_toArray, List.set_cons_zero, List.set_cons_succ]
      refine det_fieldk _ _ T _ 0 0 (by rfl) rfl rfl (fun w => by go_simp) ?_
      simp only [Act.put, List.getElem_toArray, List.getElem_cons_zero, List.getElem_cons_succ, List.setIfInBounds_toArray, List.set_cons_zero, List.set_cons_succ]
      refine det_loadk _ _ T 0 ((a).map bval) _ (by rfl) rfl rfl (fun w hw => ptN_x (rgN_lo ((ext_blk HG.out hw).range))) Try.underlying23 rfl (num_size Ha.out.1) ?_
      simp only [Act.put, List.getElem_toArray, List.getElem_cons_zero, List.getElem_cons_succ, List.setIfInBounds_toArray, List.set_cons_zero, List.set_cons_succ]
      refine det_fieldk _ _ T _ 0 0 (by rfl) rfl rfl (fun w => by go_simp) ?_
      simp only [Act.put, List.getElem_toArray, List.getElem_cons_zero, List.getElem_cons_succ, List.setIfInBounds_toArray, List.set_cons_zero, List.set_cons_succ]
      refine det_fieldk _ _ T _ 0 32 (by rfl) rfl rfl (fun w => by go_simp) ?_
      simp only [Act.put, List.getElem_toArray, List.getElem_cons_zero, List.getElem_cons_succ, List.setIfInBounds_toArray, List.set_cons_zero, List.set_cons_succ]
      refine det_loadk _ _ T 32 ((b).map bval) _ (by rfl) rfl rfl (fun w hw => ptN_z (rgN_lo ((ext_blk HG.out hw).range)) Ha.out.1 rfl) Try.underlying23 rfl (num_size Hb.out.1) ?_
      simp only [Act.put, List.getElem_toArray, List.getElem_cons_zero, List.getElem_cons_succ, List.setIfInBounds_toArray, List.set_cons_zero, List.set_cons_succ]
      refine det_call _ _ _ [.agg ((b).map bval).toArray] (.agg ((nbF (fi s.z2)).map bval).toArray) (by rfl) rfl Try.call24 rfl (fun w hw => finv_f w Hb.out) ?_
      simp only [Act.put, List.getElem_toArray, List.getElem_cons_zero, List.getElem_cons_succ, List.setIfInBounds_toArray, List.set_cons_zero, List.set_cons_succ]
      refine det_call _ _ _ [.agg ((a).map bval).toArray, .agg ((nbF (fi s.z2)).map bval).toArray] (.agg ((nbF (s.x2 * fi s.z2)).map bval).toArray) (by rfl) rfl Try.call23 rfl (fun w hw => fmul_f w Ha.out (F32.nb _)) ?_
      simp only [Act.put, List.getElem_toArray, List.getElem_cons_zero, List.getElem_cons_succ, List.setIfInBounds_toArray, List.set_cons_zero, List.set_cons_succ]
      refine det_nil (end_set (k := 8) _ _ _ _ (A + 1 + 1) ((nbF (s.x2 * fi s.z2)).map bval) (ints .u8 (List.replicate 32 0)) rfl (by kernel_rfl) (by kernel_rfl) (by kernel_rfl) rfl rfl rfl rfl HR.out (by rw [List.length_map, (F32.nb _).1]; rfl) (num_size (F32.nb _).1) (bval_one _) (fun w8 hb8 hg8 => ?_))
      simp only [Act.put]
      go_wp2_with fail
      exact bodyPost_ret (result_row (by rfl) _ (A + 1 + 1) _ _ _ (by rfl) hb8 Try.underlying23 rfl (num_size (nbF_length _))) rfl ⟨by rw [HF.out], ext_grown HE.out hg8 (by have := HO.out; omega)⟩

end Go.Proofs.Ytdjdalaghfknoaa

/- s[n:] of whatever reads as a list, whatever its address. Nothing here speaks of a program. Each theorem names its own conditions. -/
namespace Go.Proofs.Ytdjdalaghfknoaa
open Go.RowKit
set_option linter.unusedVariables false

section
variable {P : Program} {w : World}
theorem row_cut {t e : TypeId} (ht : P.underlying t = some (.slice e)) (hs : ∀ w, (sizeOf e).run P w = .ok 1 w) {v : Value} {vs : List Value} (h : Row1 w v vs) (n : Nat) (hn : n ≤ vs.length) :
    ∃ v', Row1 w v' (vs.drop n) ∧ ∀ w', (Instr.sliceAt t v (some (.int .i64 (n : Int))) none none).run P w' = .ok v' w' := by
  obtain ⟨a, cap, rfl, h1, h2, h3, h4⟩ := h
  have e2 : P.elem t = e := by unfold Program.elem; rw [ht]
  have ht2 : P.underlying t = some (.slice (P.elem t)) := by rw [e2]; exact ht
  have hr : ∀ w', (Instr.sliceAt t (.slice a vs.length cap) (some (.int .i64 (n : Int))) none none).run P w' = .ok (sliced a n vs.length cap 1) w' := fun w' => by
    rw [run_sliceAt_slice w' t _ _ _ _ ht2, run_slice_l (ht := ht2) (kl := .i64) (l := (n : Int)) (h0 := by omega) (h1 := by omega), e2, hs]
    simp
  refine ⟨_, ?_, hr⟩
  have hl : (vs.drop n).length = vs.length - n := by simp
  unfold sliced
  by_cases hc : cap = n
  · rw [if_pos hc]
    have hv : vs.drop n = [] := List.drop_eq_nil_of_le (by omega)
    rw [hv]
    refine ⟨a, cap - n, by rw [show vs.length - n = 0 from by omega]; rfl, Nat.zero_le _, by omega, fun e => by have := h3 e; omega, fun h => absurd rfl h⟩
  · rw [if_neg hc]
    refine ⟨a.map (·.add (n * 1)), cap - n, by rw [hl], by rw [hl]; omega, by omega, fun e => ?_, fun hne => ?_⟩
    · cases a with
      | none => have := h3 rfl; omega
      | some a => cases e
    · have hne2 : vs ≠ [] := by rintro rfl; simp at hne
      obtain ⟨b, off, rfl, g1, g2⟩ := h4 hne2
      refine ⟨b, off + n, by rw [Option.map_some, WideShapes.add_plain, Nat.mul_one], g1, fun i hi => ?_⟩
      rw [hl] at hi
      rw [Nat.add_assoc, g2 (n + i) (by omega), List.getElem?_drop]
/-- A part of what reads as a list, by the address that slicing makes of it. -/
theorem row_sliced {a : Option Addr} {cap : Nat} {vs : List Value} (h : Row1 w (.slice a vs.length cap) vs) (i k : Nat) (hik : i ≤ k) (hk : k ≤ vs.length) : Row1 w (sliced a i k cap 1) ((vs.drop i).take (k - i)) := by
  obtain ⟨a0, cap0, e0, h1, h2, h3, h4⟩ := h
  cases e0
  have hl : ((vs.drop i).take (k - i)).length = k - i := by simp; omega
  unfold sliced
  by_cases hc : cap = i
  · rw [if_pos hc]
    have hv : (vs.drop i).take (k - i) = [] := List.eq_nil_of_length_eq_zero (by omega)
    rw [hv]
    refine ⟨a, cap - i, by rw [show k - i = 0 from by omega]; rfl, Nat.zero_le _, by omega, fun e => by have := h3 e; omega, fun h => absurd rfl h⟩
  · rw [if_neg hc]
    refine ⟨a.map (·.add (i * 1)), cap - i, by rw [hl], by rw [hl]; omega, by omega, fun e => ?_, fun hne => ?_⟩
    · cases a with
      | none => have := h3 rfl; omega
      | some a => cases e
    · have hne2 : vs ≠ [] := by rintro rfl; simp at hne
      obtain ⟨b, off, rfl, g1, g2⟩ := h4 hne2
      refine ⟨b, off + i, by rw [Option.map_some, WideShapes.add_plain, Nat.mul_one], g1, fun j hj => ?_⟩
      rw [hl] at hj
      rw [Nat.add_assoc, g2 (i + j) (by omega), List.getElem?_take, if_pos hj, List.getElem?_drop]
/-- s[:k]. -/
theorem row_upto {t e : TypeId} (ht : P.underlying t = some (.slice e)) (hs : ∀ w, (sizeOf e).run P w = .ok 1 w) {v : Value} {vs : List Value} (h : Row1 w v vs) (k : Nat) (hk : k ≤ vs.length) :
    ∃ v', Row1 w v' (vs.take k) ∧ ∀ w', (Instr.sliceAt t v none (some (.int .i64 (k : Int))) none).run P w' = .ok v' w' := by
  obtain ⟨a, cap, rfl, h1, _⟩ := id h
  have e2 : P.elem t = e := by unfold Program.elem; rw [ht]
  have ht2 : P.underlying t = some (.slice (P.elem t)) := by rw [e2]; exact ht
  refine ⟨sliced a 0 k cap 1, by simpa using row_sliced h 0 k (Nat.zero_le _) hk, fun w' => ?_⟩
  rw [run_sliceAt_slice w' t _ _ _ _ ht2, run_slice_h (ht := ht2) (kh := .i64) (h := (k : Int)) (h0 := by omega) (h2 := by omega), e2, hs]
  simp
/-- s[i:k]. -/
theorem row_mid {t e : TypeId} (ht : P.underlying t = some (.slice e)) (hs : ∀ w, (sizeOf e).run P w = .ok 1 w) {v : Value} {vs : List Value} (h : Row1 w v vs) (i k : Nat) (hik : i ≤ k) (hk : k ≤ vs.length) :
    ∃ v', Row1 w v' ((vs.drop i).take (k - i)) ∧ ∀ w', (Instr.sliceAt t v (some (.int .i64 (i : Int))) (some (.int .i64 (k : Int))) none).run P w' = .ok v' w' := by
  obtain ⟨a, cap, rfl, h1, _⟩ := id h
  have e2 : P.elem t = e := by unfold Program.elem; rw [ht]
  have ht2 : P.underlying t = some (.slice (P.elem t)) := by rw [e2]; exact ht
  refine ⟨sliced a i k cap 1, row_sliced h i k hik hk, fun w' => ?_⟩
  rw [run_sliceAt_slice w' t _ _ _ _ ht2, run_slice_lh (ht := ht2) (kl := .i64) (kh := .i64) (l := (i : Int)) (h := (k : Int)) (h0 := by omega) (h1 := by omega) (h2 := by omega), e2, hs]
  simp
/-- Rows of rows. -/
theorem rowB1 {v x : Value} {l : List UInt8} (h : Row1 w v [x]) (hx : Row1 w x (l.map bval)) : RowB w v [l] :=
  ⟨_, h, rfl, fun i y k hy hk => by
    match i with
    | 0 => simp at hy hk; subst hy; subst hk; exact hx
    | i + 1 => simp at hy⟩
theorem rowB2 {v x y : Value} {l m : List UInt8} (h : Row1 w v [x, y]) (hx : Row1 w x (l.map bval)) (hy : Row1 w y (m.map bval)) : RowB w v [l, m] :=
  ⟨_, h, rfl, fun i u k hu hk => by
    match i with
    | 0 => simp at hu hk; subst hu; subst hk; exact hx
    | 1 => simp at hu hk; subst hu; subst hk; exact hy
    | i + 2 => simp at hu⟩
theorem rowB3 {v x y z : Value} {l m n : List UInt8} (h : Row1 w v [x, y, z]) (hx : Row1 w x (l.map bval)) (hy : Row1 w y (m.map bval)) (hz : Row1 w z (n.map bval)) : RowB w v [l, m, n] :=
  ⟨_, h, rfl, fun i u k hu hk => by
    match i with
    | 0 => simp at hu hk; subst hu; subst hk; exact hx
    | 1 => simp at hu hk; subst hu; subst hk; exact hy
    | 2 => simp at hu hk; subst hu; subst hk; exact hz
    | i + 3 => simp at hu⟩
theorem rowB4 {v x y z u : Value} {l m n o : List UInt8} (h : Row1 w v [x, y, z, u]) (hx : Row1 w x (l.map bval)) (hy : Row1 w y (m.map bval)) (hz : Row1 w z (n.map bval)) (hu : Row1 w u (o.map bval)) : RowB w v [l, m, n, o] :=
  ⟨_, h, rfl, fun i q k hq hk => by
    match i with
    | 0 => simp at hq hk; subst hq; subst hk; exact hx
    | 1 => simp at hq hk; subst hq; subst hk; exact hy
    | 2 => simp at hq hk; subst hq; subst hk; exact hz
    | 3 => simp at hq hk; subst hq; subst hk; exact hu
    | i + 4 => simp at hq⟩
/-- A new block of cells that bears a mark, as a row. -/
theorem Row1.made_mark (w : World) (c : Array Value) (e : TypeId) (fr : Nat × Nat) (n m : Nat) (l : List Value) (hn : w.heap.size = n) (hc : c.toList = l) (hl : l.length = m) (hm : m ≤ maxLen) : Row1 (w.alloc (.cells c e fr)) (.slice (some ⟨n, 0, none⟩) m m) l := by
  subst hn; subst hl; subst hc
  refine ⟨_, _, rfl, Nat.le_refl _, hm, (fun e => by cases e), fun _ => ⟨w.heap.size, 0, rfl, by simp, fun i hi => ?_⟩⟩
  rw [Nat.zero_add, World.cell?_alloc_mark]
  simp
/-- A whole array, as a row. -/
theorem blk_row {c n : Nat} {cs : List Value} {t : TypeId} (h : Blk w c cs t) (hn : cs.length = n) (hm : n ≤ maxLen) : Row1 w (.slice (some ⟨c, 0, none⟩) n n) cs := by
  subst hn
  exact ⟨_, _, rfl, Nat.le_refl _, hm, (fun e => by cases e), fun _ => ⟨c, 0, rfl, h.lt, fun i _ => by rw [Nat.zero_add, h.cell]⟩⟩
/-- a[:] of an array that is a variable. -/
theorem cut_whole {t : TypeId} {n : Nat} {e : TypeId} (ht : P.underlying t = some (.array n e)) (h : ∀ w, (sizeOf e).run P w = .ok 1 w) (hn : 0 < n) (A : Nat) (w : World) :
    (Instr.sliceAt t (.pointer (some ⟨A, 0, none⟩)) none none none).run P w = .ok (.slice (some ⟨A, 0, none⟩) n n) w := by
  have e1 : P.arrayLen t = n := by unfold Program.arrayLen; rw [ht]
  have e2 : P.elem t = e := by unfold Program.elem; rw [ht]
  rw [run_sliceAt_array_all w t ⟨A, 0, none⟩ (by rw [e1, e2]; exact ht), e2, h, e1]
  simp [slicedAt, Addr.add, show ¬ n = 0 by omega]
end

end Go.Proofs.Ytdjdalaghfknoaa

/- An array of integers indexed by a variable, as a value; a slice of an array from a variable on. Nothing here speaks of a program. Each theorem names its own conditions. -/
namespace Go.Proofs.Ytdjdalaghfknoaa
open Go.RowKit
set_option linter.unusedVariables false
set_option linter.unusedSimpArgs false

theorem index_ints {P : Program} {T e : TypeId} {n : Nat} {kd : IntKind} (hT : P.underlying T = some (.array n e)) (hs : ∀ w, (sizeOf e).run P w = .ok 1 w) (ha : ∀ w, (isAgg e).run P w = .ok false w) (h : List Int) (hl : h.length = n) (k : Nat) (hk : k < n) (w : World) :
    (Instr.index T (.agg (ints kd h).toArray) (.int .i64 (k : Int))).run P w = .ok (.int kd (h.getD k 0)) w := by
  have hg : (ints kd h)[k]? = some (.int kd (h.getD k 0)) := ints_get (by rw [hl]; exact hk)
  have hi : 0 ≤ (k : Int) ∧ (k : Int) < (n : Int) := by omega
  unfold Instr.index
  simp only [asIntOf, Sem.run_bind, Sem.run_pure, Result.andThen_ok, run_underlying hT, hi, hs, part, ha]
  rw [if_pos ⟨trivial, trivial⟩]
  simp only [Sem.run_bind, hs, ha, Result.andThen_ok, Int.toNat_natCast, Nat.mul_one, List.getElem?_toArray, hg, Bool.false_eq_true, if_false, Sem.run_pure]
theorem cut_from {P : Program} {t e : TypeId} {n : Nat} (ht : P.underlying t = some (.array n e)) (h : ∀ w, (sizeOf e).run P w = .ok 1 w) (w : World) (A p : Nat) (hp : p < n) :
    (Instr.sliceAt t (.pointer (some ⟨A, 0, none⟩)) (some (.int .i64 (p : Int))) none none).run P w = .ok (.slice (some ⟨A, p, none⟩) (n - p) (n - p)) w := by
  have e1 : P.arrayLen t = n := by unfold Program.arrayLen; rw [ht]
  have e2 : P.elem t = e := by unfold Program.elem; rw [ht]
  rw [run_sliceAt_array_l w t ⟨A, 0, none⟩ (by rw [e1, e2]; exact ht) .i64 (p : Int) (by omega) (by rw [e1]; omega), e2, h, e1]
  simp [slicedAt, Addr.add, show ¬ n = p by omega]
  exact fun h => h.symm

end Go.Proofs.Ytdjdalaghfknoaa

/- The walk of the code's isZero. Each theorem names its own conditions. -/
namespace Go.Proofs.Ytdjdalaghfknoaa
open Go.RowKit
set_option linter.unusedVariables false
set_option linter.unusedSimpArgs false

/-- All the bits of the first k bytes. -/
def orL (z : List UInt8) : Nat → UInt8
  | 0 => 0
  | k + 1 => orL z k ||| z.getD k 0
theorem u8_or_zero (a b : UInt8) : a ||| b = 0 ↔ a = 0 ∧ b = 0 := by
  rw [← UInt8.toNat_inj, ← UInt8.toNat_inj, ← UInt8.toNat_inj, UInt8.toNat_or]
  exact Nat.or_eq_zero_iff
theorem orL_zero (z : List UInt8) : ∀ k, orL z k = 0 ↔ ∀ i, i < k → z.getD i 0 = 0
  | 0 => ⟨fun _ i h => absurd h (Nat.not_lt_zero _), fun _ => rfl⟩
  | k + 1 => by
    rw [orL, u8_or_zero, orL_zero z k]
    constructor
    · rintro ⟨h1, h2⟩ i hi
      by_cases e : i = k
      · rw [e]; exact h2
      · exact h1 i (by omega)
    · intro h
      exact ⟨fun i hi => h i (by omega), h k (by omega)⟩
theorem orL_zer {z : List UInt8} (hz : z.length = 32) : orL z 32 = 0 ↔ z = zer := by
  rw [orL_zero]
  unfold zer
  constructor
  · intro h
    apply List.ext_getElem (by rw [hz]; simp)
    intro i h1 h2
    have e := h i (by omega)
    simp [List.getD, h1] at e
    rw [e, List.getElem_replicate]
  · rintro rfl i hi
    simp only [List.getD, List.getElem?_replicate, if_pos hi, Option.getD_some]
theorem orL_nat (z : List UInt8) (hz : z.length = 32) : decide ((orL z 32).toNat = 0) = decide (z = zer) := by
  have e : (orL z 32).toNat = 0 ↔ z = zer := by rw [← orL_zer hz, ← UInt8.toNat_inj]; rfl
  by_cases h : z = zer
  · rw [decide_eq_true h, decide_eq_true (e.2 h)]
  · rw [decide_eq_false h, decide_eq_false (fun h' => h (e.1 h'))]
theorem lbval_ints (l : List UInt8) : l.map bval = ints .u8 (l.map fun b => (b.toNat : Int)) := by simp [ints, bval]

set_option maxRecDepth 100000 in
set_option maxHeartbeats 4000000 in
theorem lisz_any (z : List UInt8) (w : World) (hz : z.length = 32) : Calls Try.prog 20 #[.agg (z.map bval).toArray] w fun e w' => e = .returned (.bool (decide (z = zer))) ∧ Below w.heap.size w w' := by
  have HZL := Lib.hid hz
  have HB := Lib.hid (boxes_one w (z.map bval) 23)
  have HI := Lib.hid (num_size hz)
  clear hz
  go_enter Try.func20, Try.ntmps20
  go_upto_region 1 with (fail)
  obtain ⟨H1, HE⟩ := HB.out
  change Code.wp _ _ _ _ (w.alloc (.cells (z.map bval).toArray 23))
  generalize w.alloc (.cells (z.map bval).toArray 23) = wa at *
  obtain ⟨A, hA⟩ : ∃ A, A = w.heap.size := ⟨_, rfl⟩
  have HAW : Hid (w.heap.size ≤ A) := Lib.hid (by omega)
  rw [← hA] at H1 ⊢
  have H1 := Lib.hid H1
  have HE : Hid (Ext w wa) := Lib.hid HE
  clear hA HB
  go_upto_region 3 with (refine wpList_load_blk rfl _ _ rfl A rfl _ _ _ _ H1.out Try.underlying23 HI.out ?_)
  have HO := Lib.hid (orL_nat z HZL.out)
  obtain ⟨zi, hzi⟩ : ∃ zi, zi = z.map fun b => (b.toNat : Int) := ⟨_, rfl⟩
  have HZI := Lib.hid hzi
  have HZE := Lib.hid (lbval_ints z)
  rw [← hzi] at HZE
  clear hzi
  rw [HZE.out]
  go_loop [3, 7] (fun bv iv => ∃ k : Nat, k ≤ 32 ∧ bv = .int .u8 ((orL z k).toNat : Int) ∧ iv = .int .i64 (k : Int)) (fun _ iv => 32 - (intOf iv).toNat)
  case atStart => exact ⟨0, by omega, rfl, rfl⟩
  case round =>
    obtain ⟨k, hk, rfl, rfl⟩ := hrel
    have k0 : (0 : Int) ≤ (k : Int) := Int.natCast_nonneg _
    by_cases hlt : k < 32
    · have k1 : (k : Int) < 32 := by omega
      have hix := index_ints (kd := .u8) Try.underlying23 Try.sizeOf5 Try.isAgg5 zi (by rw [HZI.out, List.length_map]; exact HZL.out) k hlt
      have hge : zi.getD k 0 = ((z.getD k 0).toNat : Int) := by rw [HZI.out]; simp [List.getD, show k < z.length by have := HZL.out; omega]
      rw [hge] at hix
      have hor := u8_or (orL z k) (z.getD k 0)
      rw [show orL z k ||| z.getD k 0 = orL z (k + 1) from rfl] at hor
      clear hge
      generalize ((orL z k).toNat : Int) = q1 at *
      generalize ((z.getD k 0).toNat : Int) = q2 at *
      generalize hq3 : ((orL z (k + 1)).toNat : Int) = q3 at *
      go_wp2_with fail
      go_round
      case rel => exact ⟨k + 1, by omega, by rw [hq3], by go_num⟩
      case measure => simp [intOf]; omega
    · have hk' : k = 32 := by omega
      subst hk'
      generalize (orL z 32).toNat = q at *
      have hd : ((q : Int) == 0) = decide (z = zer) := by
        rw [← HO.out, Bool.eq_iff_iff]
        simp
      obtain ⟨r, hr⟩ : ∃ r, r = decide (z = zer) := ⟨_, rfl⟩
      rw [← hr] at hd
      have HRQ := Lib.hid hr
      clear hr HO
      go_wp2_with fail
      go_ret
      exact ⟨by rw [← HRQ.out]; rfl, HE.out⟩

end Go.Proofs.Ytdjdalaghfknoaa

/- The walks of the code's own Public and Shared. Each theorem names its own conditions. -/
namespace Go.Proofs.Ytdjdalaghfknoaa
open Go.RowKit
set_option linter.unusedVariables false
set_option linter.unusedSimpArgs false

set_option maxRecDepth 100000 in
set_option maxHeartbeats 4000000 in
theorem LPub_num (k : List UInt8) (w : World) (hk : k.length = 32) : Calls Try.prog 16 #[.agg (k.map bval).toArray] w fun e w' => e = .returned (.agg ((pubB k).map bval).toArray) ∧ Below w.heap.size w w' := by
  have HB := Lib.hid (boxes2 w (k.map bval) (ints .u8 (List.replicate 32 0)) 23 23)
  have HkL := Lib.hid hk
  clear hk
  go_enter Try.func16, Try.ntmps16
  go_upto_region 1 with (fail)
  obtain ⟨H1, H3, HE⟩ := HB.out
  change Code.wp _ _ _ _ ((w.alloc (.cells (k.map bval).toArray 23)).alloc (.cells (ints .u8 (List.replicate 32 0)).toArray 23))
  generalize (w.alloc (.cells (k.map bval).toArray 23)).alloc (.cells (ints .u8 (List.replicate 32 0)).toArray 23) = wa at *
  obtain ⟨A, hA⟩ : ∃ A, A = w.heap.size := ⟨_, rfl⟩
  have HAW : Hid (w.heap.size ≤ A) := Lib.hid (by omega)
  rw [← hA] at H1 H3 ⊢
  have H1 := Lib.hid H1
  have H3 := Lib.hid H3
  have HE : Hid (Ext w wa) := Lib.hid HE
  clear hA HB
  have HIk := Lib.hid (num_size HkL.out)
  have HZL : Hid ((pubB k).length = 32) := Lib.hid (ladB_length _ _)
  obtain ⟨n9, hn9⟩ : ∃ n9, n9 = nineB := ⟨_, rfl⟩
  have HC := Lib.hid (LMul_num k n9 wa HkL.out (by rw [hn9]; exact nineB_length))
  rw [show ladB k n9 = pubB k from by rw [hn9]; rfl] at HC
  have HB9 : Hid (∀ w, (Instr.build 23 #[(0, .int .u8 9)]).run Try.prog w = .ok (.agg (n9.map bval).toArray) w) := Lib.hid (fun w => by
    rw [hn9]
    refine run_build w _ _ _ ?_
    kernel_rfl)
  clear hn9
  obtain ⟨z, hz⟩ : ∃ z, z = pubB k := ⟨_, rfl⟩
  rw [← hz] at HC HZL
  have HZQ := Lib.hid hz
  clear hz
  have HIZ := Lib.hid (num_size HZL.out)
  have HLZ : Hid ((z.map bval).length = (ints .u8 (List.replicate 32 0)).length) := Lib.hid (by rw [List.length_map, ints_length, HZL.out]; rfl)
  go_wp2_with (first | (refine wpList_load_blk rfl _ _ rfl A rfl _ _ _ _ H1.out Try.underlying23 HIk.out ?_) | (refine wpList_build rfl 23 #[(0, _)] rfl #[(0, .int .u8 9)] (by simp [Act.eval, Act.put]) (.agg (n9.map bval).toArray) (HB9.out _) ?_))
  refine HC.out.mono ?_
  rintro e w5 ⟨rfl, hb⟩
  have H3 := Lib.hid (ext_blk H3.out hb)
  have HE := Lib.hid (HE.out.trans hb)
  clear hb HC H1
  go_wp2_with (refine wpList_store_blk rfl _ _ _ rfl (A + 1) (z.map bval) rfl rfl _ _ H3.out HLZ.out HIZ.out (bval_one _) ?_; intro w7 hb7 hg7)
  refine bodyPost_ret (result_blk rfl _ (A + 1) _ _ _ _ rfl hb7 Try.underlying23 HIZ.out) rfl ⟨by rw [← HZQ.out], ext_grown HE.out hg7 (by have := HAW.out; omega)⟩

set_option maxRecDepth 100000 in
set_option maxHeartbeats 4000000 in
theorem LShared_num (k u : List UInt8) (w : World) (hk : k.length = 32) (hu : u.length = 32) : Calls Try.prog 11 #[.agg (k.map bval).toArray, .agg (u.map bval).toArray] w fun e w' => e = .returned (.tuple #[.agg ((ladB k u).map bval).toArray, .int .i64 (shErr k u)]) ∧ Below w.heap.size w w' := by
  have HB := Lib.hid (boxes3 w (k.map bval) (u.map bval) (ints .u8 (List.replicate 32 0)) 23 23 23)
  have HkL := Lib.hid hk
  have HuL := Lib.hid hu
  clear hk hu
  go_enter Try.func11, Try.ntmps11
  go_upto_region 1 with (fail)
  obtain ⟨H1, H2, H3, HE⟩ := HB.out
  change Code.wp _ _ _ _ (((w.alloc (.cells (k.map bval).toArray 23)).alloc (.cells (u.map bval).toArray 23)).alloc (.cells (ints .u8 (List.replicate 32 0)).toArray 23))
  generalize ((w.alloc (.cells (k.map bval).toArray 23)).alloc (.cells (u.map bval).toArray 23)).alloc (.cells (ints .u8 (List.replicate 32 0)).toArray 23) = wa at *
  obtain ⟨A, hA⟩ : ∃ A, A = w.heap.size := ⟨_, rfl⟩
  have HAW : Hid (w.heap.size ≤ A) := Lib.hid (by omega)
  rw [← hA] at H1 H2 H3 ⊢
  have H1 := Lib.hid H1
  have H2 := Lib.hid H2
  have H3 := Lib.hid H3
  have HE : Hid (Ext w wa) := Lib.hid HE
  clear hA HB
  have HIk := Lib.hid (num_size HkL.out)
  have HIu := Lib.hid (num_size HuL.out)
  have HZL : Hid ((ladB k u).length = 32) := Lib.hid (ladB_length _ _)
  have HC := Lib.hid (LMul_num k u wa HkL.out HuL.out)
  obtain ⟨z, hz⟩ : ∃ z, z = ladB k u := ⟨_, rfl⟩
  have HER : Hid (shErr k u = if z = zer then 21 else 0) := Lib.hid (by rw [hz]; rfl)
  rw [← hz] at HC HZL
  have HZQ := Lib.hid hz
  clear hz
  have HIZ := Lib.hid (num_size HZL.out)
  have HLZ : Hid ((z.map bval).length = (ints .u8 (List.replicate 32 0)).length) := Lib.hid (by rw [List.length_map, ints_length, HZL.out]; rfl)
  go_wp2_with (first | (refine wpList_load_blk rfl _ _ rfl A rfl _ _ _ _ H1.out Try.underlying23 HIk.out ?_) | (refine wpList_load_blk rfl _ _ rfl (A + 1) rfl _ _ _ _ H2.out Try.underlying23 HIu.out ?_))
  refine HC.out.mono ?_
  rintro e w5 ⟨rfl, hb⟩
  have H3 := Lib.hid (ext_blk H3.out hb)
  have HE := Lib.hid (HE.out.trans hb)
  clear hb HC H1 H2
  have HZ := Lib.hid (Blk.made w5 (ints .u8 (List.replicate 32 0)) 23)
  have HEA := Lib.hid (Ext.alloc w5 (.cells (ints .u8 (List.replicate 32 0)).toArray 23))
  go_upto_region 2 with (refine wpList_store_blk rfl _ _ _ rfl w5.heap.size (z.map bval) rfl rfl _ _ HZ.out HLZ.out HIZ.out (bval_one _) ?_; intro w6 hb6 hg6)
  have HX := Lib.hid (ext_grown HEA.out hg6 (Nat.le_refl _))
  have H3 := Lib.hid (ext_blk H3.out HX.out)
  have HE := Lib.hid (HE.out.trans HX.out)
  have HD := Lib.hid hb6
  generalize w5.heap.size = D at *
  clear hb6 hg6 HZ HEA HX
  have HQ := Lib.hid (lisz_any z w6 HZL.out)
  obtain ⟨r, hr⟩ : ∃ r, r = decide (z = zer) := ⟨_, rfl⟩
  rw [← hr] at HQ
  have HRQ := Lib.hid hr
  clear hr
  go_wp2_with (refine wpList_load_blk rfl _ _ rfl D rfl _ _ _ _ HD.out Try.underlying23 HIZ.out ?_)
  refine HQ.out.mono ?_
  rintro e w7 ⟨rfl, hb⟩
  have H3 := Lib.hid (ext_blk H3.out hb)
  have HD := Lib.hid (ext_blk HD.out hb)
  have HE := Lib.hid (HE.out.trans hb)
  clear hb HQ
  cases r with
  | true =>
    have hzz : z = zer := of_decide_eq_true HRQ.out.symm
    have HEQ : Hid (shErr k u = 21) := Lib.hid (by rw [HER.out, if_pos hzz])
    have HNZ : Hid ((ints .u8 (List.replicate 32 0)) = z.map bval) := Lib.hid (by rw [hzz]; rfl)
    have HNI : Hid ((Try.prog.info? 23).map (·.size) = some (ints .u8 (List.replicate 32 0)).length) := Lib.hid (by rw [HNZ.out]; exact HIZ.out)
    clear hzz
    go_wp2_with (refine wpList_store_blk rfl _ _ _ rfl (A + 1 + 1) (ints .u8 (List.replicate 32 0)) rfl rfl _ _ H3.out rfl HNI.out (ints_one _ _) ?_; intro w8 hb7 hg7)
    refine bodyPost_ret (result_row_tmp (p := 4) (u := 5) (by rfl) _ (A + 1 + 1) _ _ _ (by rfl) hb7 Try.underlying23 rfl HNI.out) rfl ⟨by rw [← HZQ.out, HEQ.out, HNZ.out]; rfl, ext_grown HE.out hg7 (by have := HAW.out; omega)⟩
  | false =>
    have hzz : ¬ z = zer := of_decide_eq_false HRQ.out.symm
    have HEQ : Hid (shErr k u = 0) := Lib.hid (by rw [HER.out, if_neg hzz])
    clear hzz
    go_wp2_with (first | (refine wpList_load_blk rfl _ _ rfl D rfl _ _ _ _ HD.out Try.underlying23 HIZ.out ?_) | (refine wpList_store_blk rfl _ _ _ rfl (A + 1 + 1) (z.map bval) rfl rfl _ _ H3.out HLZ.out HIZ.out (bval_one _) ?_; intro w8 hb7 hg7))
    refine bodyPost_ret (result_row_tmp (p := 4) (u := 5) (by rfl) _ (A + 1 + 1) _ _ _ (by rfl) hb7 Try.underlying23 rfl HIZ.out) rfl ⟨by rw [← HZQ.out, HEQ.out]; rfl, ext_grown HE.out hg7 (by have := HAW.out; omega)⟩

end Go.Proofs.Ytdjdalaghfknoaa

/- X25519's ladder at the points that lead to nothing, and a product that is known of old. No program. Each theorem names its own conditions. -/
namespace Go.Proofs.Ytdjdalaghfknoaa
set_option linter.unusedVariables false

/-! ### 1: a point of order four -/

def qP : Pt := ⟨iF, 0, by
  unfold On
  rw [iF_sq]
  rw [Fin.mul_zero, Fin.mul_zero, Fin.mul_zero, Fin.add_zero]
  decide +kernel⟩
theorem qP_two : padd qP qP = ⟨0, -1, by unfold On; decide +kernel⟩ := by
  refine (padd_of ?_ ?_).symm
  · show (0 : Fp) * _ = iF * 0 + iF * 0
    rw [Fin.zero_mul, Fin.mul_zero, Fin.add_zero]
  · show (-1 : Fp) * (1 - dF * (iF * iF * (0 * 0))) = 0 * 0 + iF * iF
    rw [iF_sq, Fin.mul_zero, Fin.mul_zero, Fin.mul_zero]
    decide +kernel
theorem qP_four : padd (padd qP qP) (padd qP qP) = pzero := by
  rw [qP_two]
  refine (padd_of ?_ ?_).symm
  · show (0 : Fp) * _ = 0 * (-1) + 0 * (-1)
    rw [Fin.zero_mul, Fin.zero_mul, Fin.add_zero]
  · show (1 : Fp) * (1 - dF * (0 * 0 * (-1 * -1))) = -1 * -1 + 0 * 0
    rw [Fin.mul_zero, Fin.zero_mul, Fin.mul_zero]
    decide +kernel
theorem uv_qP : uv qP = 1 := by
  unfold uv
  have e : (1 : Fp) - qP.y = 1 := by
    show (1 : Fp) - 0 = 1
    decide +kernel
  have e2 : (1 : Fp) + qP.y = 1 := by
    show (1 : Fp) + 0 = 1
    decide +kernel
  rw [e, e2]
  exact f_inv f_one_ne
theorem lmul_one' {k : Nat} (hk : k < 2 ^ 255) (h4 : k % 4 = 0) : lmul k 1 = 0 := by
  have h := lmul_uv qP hk (by omega)
  rw [uv_qP] at h
  rw [h]
  have e : k = k / 4 * (2 * 2) := by omega
  rw [e, pmul_mul, pmul_two]
  have e2 : pmul 2 qP = padd qP qP := by rw [show 2 = 2 * 1 from rfl, pmul_two, pmul_one]
  rw [e2, qP_four, pmul_pzero, uv_pzero]

/-! ### -1: a point of order four of the other curve -/

theorem f_neg (a : Fp) : 0 - a = -a := by grind
def K0 (X Z : Fp) : Prop := Z = 0
def K1 (X Z : Fp) : Prop := X + Z = 0
def K2 (X Z : Fp) : Prop := X = 0
theorem kd0 {s : LS} (x1 : Fp) (h : s.z2 = 0) : (s.step x1).z2 = 0 := (step_z2 x1 s).trans (lz s.x2 121665 h)
theorem kd2 {s : LS} (x1 : Fp) (h : s.x2 = 0) : (s.step x1).z2 = 0 := by
  rw [step_z2, h]
  generalize s.z2 = Z
  have e : (0 + Z) * (0 + Z) = (0 - Z) * (0 - Z) := by
    rw [Fin.zero_add]
    generalize hw : (0 : Fp) - Z = W
    have : W = -Z := by rw [← hw]; clear hw; exact f_neg Z
    rw [this]
    clear this hw
    grind
  rw [e, f_self, Fin.zero_mul]
theorem kd1 {s : LS} (x1 : Fp) (h : s.x2 + s.z2 = 0) : (s.step x1).x2 = 0 := by
  show (s.x2 + s.z2) * (s.x2 + s.z2) * _ = 0
  rw [h, Fin.zero_mul, Fin.zero_mul]
theorem step_x3 (x1 : Fp) (s : LS) : (s.step x1).x3 = ((s.x3 - s.z3) * (s.x2 + s.z2) + (s.x3 + s.z3) * (s.x2 - s.z2)) * ((s.x3 - s.z3) * (s.x2 + s.z2) + (s.x3 + s.z3) * (s.x2 - s.z2)) := rfl
theorem step_z3' (x1 : Fp) (s : LS) : (s.step x1).z3 = x1 * (((s.x3 - s.z3) * (s.x2 + s.z2) - (s.x3 + s.z3) * (s.x2 - s.z2)) * ((s.x3 - s.z3) * (s.x2 + s.z2) - (s.x3 + s.z3) * (s.x2 - s.z2))) := rfl
theorem kid (A B : Fp) (h : A = 0 ∨ B = 0) : (A + B) * (A + B) + -1 * ((A - B) * (A - B)) = 0 := by
  have e : (A + B) * (A + B) + -1 * ((A - B) * (A - B)) = 4 * (A * B) := by clear h; grind
  rw [e]
  rcases h with h | h
  · rw [h, Fin.zero_mul, Fin.mul_zero]
  · rw [h, Fin.mul_zero, Fin.mul_zero]
theorem kdif {s : LS} (h : s.x2 + s.z2 = 0 ∨ s.x3 + s.z3 = 0) : (s.step (-1)).x3 + (s.step (-1)).z3 = 0 := by
  rw [step_x3, step_z3']
  refine kid _ _ ?_
  rcases h with h | h
  · exact Or.inl (by rw [h, Fin.mul_zero])
  · exact Or.inr (by rw [h, Fin.zero_mul])

/-- The state at the number n, counted modulo 4. -/
def KInv (n : Nat) (s : LS) : Prop :=
  (n % 4 = 0 → s.z2 = 0 ∧ s.x3 + s.z3 = 0) ∧ (n % 4 = 1 → s.x2 + s.z2 = 0 ∧ s.x3 = 0) ∧ (n % 4 = 2 → s.x2 = 0 ∧ s.x3 + s.z3 = 0) ∧ (n % 4 = 3 → s.x2 + s.z2 = 0 ∧ s.z3 = 0)
theorem kinv_step {n : Nat} {s : LS} (h : KInv n s) (b : Bool) : KInv (2 * n + b.toNat) (s.bit (-1) b) := by
  obtain ⟨h0, h1, h2, h3⟩ := h
  rcases (show n % 4 = 0 ∨ n % 4 = 1 ∨ n % 4 = 2 ∨ n % 4 = 3 from by omega) with hn | hn | hn | hn
  · obtain ⟨a, c⟩ := h0 hn
    cases b
    · exact ⟨fun _ => ⟨kd0 (-1) a, kdif (Or.inr c)⟩, fun h => by simp only [Bool.toNat_false] at h; omega, fun h => by simp only [Bool.toNat_false] at h; omega, fun h => by simp only [Bool.toNat_false] at h; omega⟩
    · exact ⟨fun h => by simp only [Bool.toNat_true] at h; omega, fun _ => ⟨kdif (s := s.swap) (Or.inl c), kd1 (s := s.swap) (-1) c⟩, fun h => by simp only [Bool.toNat_true] at h; omega, fun h => by simp only [Bool.toNat_true] at h; omega⟩
  · obtain ⟨a, c⟩ := h1 hn
    cases b
    · exact ⟨fun h => by simp only [Bool.toNat_false] at h; omega, fun h => by simp only [Bool.toNat_false] at h; omega, fun _ => ⟨kd1 (-1) a, kdif (Or.inl a)⟩, fun h => by simp only [Bool.toNat_false] at h; omega⟩
    · exact ⟨fun h => by simp only [Bool.toNat_true] at h; omega, fun h => by simp only [Bool.toNat_true] at h; omega, fun h => by simp only [Bool.toNat_true] at h; omega, fun _ => ⟨kdif (s := s.swap) (Or.inr a), kd2 (s := s.swap) (-1) c⟩⟩
  · obtain ⟨a, c⟩ := h2 hn
    cases b
    · exact ⟨fun _ => ⟨kd2 (-1) a, kdif (Or.inr c)⟩, fun h => by simp only [Bool.toNat_false] at h; omega, fun h => by simp only [Bool.toNat_false] at h; omega, fun h => by simp only [Bool.toNat_false] at h; omega⟩
    · exact ⟨fun h => by simp only [Bool.toNat_true] at h; omega, fun _ => ⟨kdif (s := s.swap) (Or.inl c), kd1 (s := s.swap) (-1) c⟩, fun h => by simp only [Bool.toNat_true] at h; omega, fun h => by simp only [Bool.toNat_true] at h; omega⟩
  · obtain ⟨a, c⟩ := h3 hn
    cases b
    · exact ⟨fun h => by simp only [Bool.toNat_false] at h; omega, fun h => by simp only [Bool.toNat_false] at h; omega, fun _ => ⟨kd1 (-1) a, kdif (Or.inl a)⟩, fun h => by simp only [Bool.toNat_false] at h; omega⟩
    · exact ⟨fun h => by simp only [Bool.toNat_true] at h; omega, fun h => by simp only [Bool.toNat_true] at h; omega, fun h => by simp only [Bool.toNat_true] at h; omega, fun _ => ⟨kdif (s := s.swap) (Or.inr a), kd0 (s := s.swap) (-1) c⟩⟩
theorem krun {k : Nat} (hk : k < 2 ^ 255) : ∀ t, t ≤ 255 → KInv (k >>> (255 - t)) (lrun (-1) k t)
  | 0, _ => by
    have e : k >>> (255 - 0) = 0 := by
      rw [Nat.sub_zero, Nat.shiftRight_eq_div_pow]
      exact Nat.div_eq_of_lt hk
    rw [e]
    refine ⟨fun _ => ⟨rfl, ?_⟩, fun h => by omega, fun h => by omega, fun h => by omega⟩
    show (-1 : Fp) + 1 = 0
    decide +kernel
  | t + 1, h => by
    rw [shift_bit k t (by omega)]
    exact kinv_step (krun hk t (by omega)) _
theorem lmul_minus {k : Nat} (hk : k < 2 ^ 255) (h4 : k % 4 = 0) : lmul k (-1) = 0 := by
  have h := krun hk 255 (Nat.le_refl _)
  rw [Nat.sub_self, Nat.shiftRight_zero] at h
  unfold lmul
  rw [(h.1 h4).1, fi_zero, Fin.mul_zero]

/-! ### Nine times nine -/

def nineN : Nat := 28948022309329048855892746252171976963317496166410141009864396001978282409992
theorem lrun_nine : (lrun 9 nineN 255).x2 = fp 54815864700279561125610391355931320566748822376190344121911385527384361806914 * (lrun 9 nineN 255).z2 := by decide +kernel

end Go.Proofs.Ytdjdalaghfknoaa

/- What chapter 12's answers are at some numbers. No program. Each theorem names its own conditions. -/
namespace Go.Proofs.Ytdjdalaghfknoaa
open Go.RowKit
set_option linter.unusedVariables false

theorem nbF_zer {f : Fp} (h : nbF f = zer) : f = 0 := by
  have h1 : leN (nbF f) = 0 := by rw [h, leN_zer]
  have h2 := leN_bytesN 32 f.val
  have h3 : f.val < 256 ^ 32 := Nat.lt_trans f.isLt (by decide +kernel)
  unfold nbF at h1
  rw [h1, Nat.mod_eq_of_lt h3] at h2
  exact Fin.ext h2.symm
theorem nbF_nought : nbF 0 = zer := by decide +kernel
theorem mask_zer : maskB zer = zer := by decide +kernel
theorem ladB_zer (k : List UInt8) : ladB k zer = zer := by
  unfold ladB
  rw [mask_zer, leN_zer]
  have h : fp ((0 : Nat) : Int) = 0 := fp_zero
  rw [h, lmul_zero, nbF_nought]
theorem shErr_zer (k : List UInt8) : shErr k zer = 21 := by unfold shErr; rw [ladB_zer, if_pos rfl]
theorem one_nine_x : (lrun (fp (leN (maskB nineB))) (leN (clampB (smL 1))) 255).x2 ≠ 0 := by decide +kernel
theorem one_nine_z : (lrun (fp (leN (maskB nineB))) (leN (clampB (smL 1))) 255).z2 ≠ 0 := by decide +kernel
theorem pub_alive : pubB (smL 1) ≠ zer := by
  intro h
  have h0 := nbF_zer h
  unfold lmul at h0
  rcases f_dom h0 with h1 | h1
  · exact one_nine_x h1
  · have h2 := f_inv one_nine_z
    rw [h1] at h2
    exact absurd h2 (by decide +kernel)

end Go.Proofs.Ytdjdalaghfknoaa

/- The walk of what every law of chapter 12 begins with: alive. Each theorem names its own conditions. -/
namespace Go.Proofs.Ytdjdalaghfknoaa
open Go.RowKit
set_option linter.unusedVariables false
set_option linter.unusedSimpArgs false

theorem num_any (n : Int) (w : World) : Calls Try.prog 15 #[.int .i64 n] w fun e w' => e = .returned (.int .i64 n) ∧ w = w' := by
  go_enter Try.func15, Try.ntmps15
  go_wp2_with fail
  go_ret
  exact ⟨rfl, rfl⟩
theorem num_ext (n : Int) (w : World) : Calls Try.prog 15 #[.int .i64 n] w fun e w' => e = .returned (.int .i64 n) ∧ Below w.heap.size w w' := by
  refine (num_any n w).mono ?_
  rintro e w' ⟨rfl, rfl⟩
  exact ⟨rfl, Below.refl _ _⟩

set_option maxRecDepth 100000 in
set_option maxHeartbeats 4000000 in
theorem alive_any12 (w : World) : Calls Try.prog 10 #[] w fun e w' => e = .returned (.bool true) ∧ Below w.heap.size w w' := by
  have kb1 := build_one
  have kbz := build_zer
  go_enter Try.func10, Try.ntmps10
  go_wp2_with fail
  refine (LShared_num (smL 1) zer w (smL_length _) zer_length).mono ?_
  rintro e w1 ⟨rfl, hb⟩
  rw [ladB_zer, shErr_zer]
  have HE := Lib.hid (show Ext w w1 from hb)
  have HZ := Lib.hid (Blk.made w1 (ints .u8 (List.replicate 32 0)) 23)
  have HLZ : Hid ((zer.map bval).length = (ints .u8 (List.replicate 32 0)).length) := Lib.hid (by rw [List.length_map, ints_length, zer_length]; rfl)
  have HE := Lib.hid (HE.out.trans (Ext.alloc w1 (.cells (ints .u8 (List.replicate 32 0)).toArray 23)))
  have HW := Lib.hid hb.size
  clear hb
  go_upto_region 2 with (refine wpList_store_blk rfl _ _ _ rfl w1.heap.size (zer.map bval) rfl rfl _ _ HZ.out HLZ.out zer_size (bval_one _) ?_; intro w2 hb2 hg2)
  have HE := Lib.hid (ext_grown HE.out hg2 HW.out)
  clear hb2 hg2 HZ HW
  generalize w1.heap.size = D at *
  go_wp2_with fail
  refine (LPub_num (smL 1) w2 (smL_length _)).mono ?_
  rintro e w3 ⟨rfl, hb⟩
  have HE := Lib.hid (HE.out.trans hb)
  have HPL : Hid ((pubB (smL 1)).length = 32) := Lib.hid (ladB_length _ _)
  have HPN := Lib.hid pub_alive
  clear hb
  generalize pubB (smL 1) = pb at *
  have HLP : Hid ((pb.map bval).length = (ints .u8 (List.replicate 32 0)).length) := Lib.hid (by rw [List.length_map, ints_length, HPL.out]; rfl)
  have HZ := Lib.hid (Blk.made w3 (ints .u8 (List.replicate 32 0)) 23)
  have HW := Lib.hid HE.out.size
  have HE := Lib.hid (HE.out.trans (Ext.alloc w3 (.cells (ints .u8 (List.replicate 32 0)).toArray 23)))
  go_upto_region 3 with (refine wpList_store_blk rfl _ _ _ rfl w3.heap.size (pb.map bval) rfl rfl _ _ HZ.out HLP.out (num_size HPL.out) (bval_one _) ?_; intro w4 hb4 hg4)
  have HE := Lib.hid (ext_grown HE.out hg4 HW.out)
  have HP := Lib.hid hb4
  clear hb4 hg4 HZ HW
  generalize w3.heap.size = D3 at *
  go_wp2_with fail
  refine (num_any 21 w4).mono ?_
  rintro e w5 ⟨rfl, rfl⟩
  have HQ := Lib.hid (decide_eq_false HPN.out)
  go_wp2_with (first | (refine wpList_eql (by rfl) _ _ _ _ _ _ 32 _ pb zer true rfl (Or.inr ⟨rfl, HQ.out⟩) Try.underlying23 Try.underlying5 num_info num_cells num_guard rfl rfl HPL.out zer_length ?_) | (refine wpList_load_w (by rfl) _ _ rfl D3 rfl _ _ _ _ HP.out Try.underlying23 (num_size HPL.out) ?_))
  go_ret
  exact ⟨rfl, HE.out⟩

end Go.Proofs.Ytdjdalaghfknoaa
