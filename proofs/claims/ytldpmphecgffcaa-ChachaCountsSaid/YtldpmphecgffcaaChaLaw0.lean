/- The walk of what every law of chapter 9 begins with: alive. Each theorem names its own conditions. -/
import Derived.Test.YtldpmphecgffcaaChaCode
import Derived.Test.YtldpmphecgffcaaNumKit
import Derived.Test.YtldpmphecgffcaaHeldMore
import Derived.Test.YtldpmphecgffcaaRowCut
import Derived.Lib.SlBytesConst
namespace Go.Proofs.Ytldpmphecgffcaa
open Go.RowKit
set_option linter.unusedVariables false
set_option linter.unusedSimpArgs false

theorem build_seven (w : World) : (Instr.build 23 #[(0, .int .u8 7)]).run Try.prog w = .ok (.agg ((smL 7).map bval).toArray) w := by
  simp [Instr.build, Try.zeroValue23]
  rfl
theorem build_nonce (w : World) : (Instr.build 25 #[]).run Try.prog w = .ok (.agg ((zB 12).map bval).toArray) w := by
  simp [Instr.build, Try.zeroValue25]
  rfl
def longer : List UInt8 := [97, 32, 108, 111, 110, 103, 101, 114, 32, 116, 101, 120, 116, 32, 116, 104, 97, 110, 32, 116, 104, 97, 116]
theorem longer_turned : decide (chaTurn (smL 7) 1 (zB 12) longer = longer) = false := by decide +kernel

set_option maxRecDepth 100000 in
set_option maxHeartbeats 4000000 in
theorem alive_any9 (w : World) : Calls Try.prog 7 #[] w fun e w' => e = .returned (.bool true) ∧ Below w.heap.size w w' := by
  have kb7 := build_seven
  have kbn := build_nonce
  have HNZ : Hid (decide (chaTurn (smL 7) 1 (zB 12) longer = longer) = !true) := Lib.hid longer_turned
  have kc := fun (w : World) (C : Array Value) (n c : Nat) => Lib.run_convert_bytes_const (P := Try.prog) w 31 5 C n c Try.underlying31 Try.underlying5
  have HE1 := Lib.hid (Ext.alloc w (.cells (longer.map bval).toArray 5 (23, 24)))
  have HR1 : Hid (Row1 (w.alloc (.cells (longer.map bval).toArray 5 (23, 24))) (.slice (some ⟨w.heap.size, 0, none⟩) 23 23) (longer.map bval)) := Lib.hid (Row1.made_mark w _ _ _ _ _ _ rfl rfl rfl (by unfold maxLen; omega))
  go_enter Try.func7, Try.ntmps7
  go_wp2_with fail
  clear kc
  change Calls _ _ _ (w.alloc (.cells (longer.map bval).toArray 5 (23, 24))) _
  generalize w.alloc (.cells (longer.map bval).toArray 5 (23, 24)) = w1 at *
  obtain ⟨B, hB⟩ : ∃ B, B = w.heap.size := ⟨_, rfl⟩
  have HBW : Hid (w.heap.size ≤ B) := Lib.hid (by omega)
  rw [← hB] at HR1 ⊢
  clear hB
  refine (CTurn_num (smL 7) (zB 12) longer _ 1 w1 (smL_length _) (zB_length _) HR1.out (by decide) (by decide) (by decide)).mono ?_
  rintro e w5 ⟨x, rfl, ho, hb⟩
  have hc : Row1 w5 x ((chaTurn (smL 7) 1 (zB 12) longer).map bval) := Row1.of_own ho
  have HC5 := Lib.hid hc
  have HB5 := Lib.hid (HR1.out.below hb)
  have HE := Lib.hid (HE1.out.trans hb)
  obtain ⟨ac, cc, hxv, _⟩ := id hc
  rw [List.length_map, chaTurn_length, show longer.length = 23 from rfl] at hxv
  subst hxv
  clear ho hc hb HR1 HE1
  go_upto_region 3 with (fail)
  clear kb7 kbn
  have B0 : Ext w5 w5.drew := Ext.drew _
  refine wp_region_held_drew (S := fun w' => Ext w5 w') (by kernel_rfl) B0 (fun hHeld => ?_)
  refine wpAnyH_take (i := 0) (v := .agg ((smL 7).map bval).toArray) rfl (by kernel_rfl) (by kernel_rfl) (by kernel_rfl) (fun _ _ _ h => h) (yi_build _ _ _ _ build_seven (by rfl) rfl (by simp [Act.eval])) hHeld ?_
  simp only [Act.put, List.getElem_toArray, List.getElem_cons_zero, List.getElem_cons_succ, List.setIfInBounds_toArray, List.set_cons_zero, List.set_cons_succ]
  refine wpAnyH_take (i := 1) (v := .agg ((zB 12).map bval).toArray) rfl (by kernel_rfl) (by kernel_rfl) (by kernel_rfl) (fun _ _ _ h => h) (yi_build _ _ _ _ build_nonce (by rfl) rfl (by simp)) hHeld ?_
  simp only [Act.put, List.getElem_toArray, List.getElem_cons_zero, List.getElem_cons_succ, List.setIfInBounds_toArray, List.set_cons_zero, List.set_cons_succ]
  refine wpAnyH_take (i := 2) (v := .slice ac 23 cc) rfl (by kernel_rfl) (by kernel_rfl) (by kernel_rfl) (fun _ _ _ h => h) (yi_move _ (.slice ac 23 cc) (by rfl) rfl rfl) hHeld ?_
  simp only [Act.put, List.getElem_toArray, List.getElem_cons_zero, List.getElem_cons_succ, List.setIfInBounds_toArray, List.set_cons_zero, List.set_cons_succ]
  refine wpAnyH_take (i := 5) (v := .slice (some ⟨B, 0, none⟩) 23 23) rfl (by kernel_rfl) (by kernel_rfl) (by kernel_rfl) (fun _ _ _ h => h) (yi_move _ (.slice (some ⟨B, 0, none⟩) 23 23) (by rfl) rfl rfl) hHeld ?_
  simp only [Act.put, List.getElem_toArray, List.getElem_cons_zero, List.getElem_cons_succ, List.setIfInBounds_toArray, List.set_cons_zero, List.set_cons_succ]
  refine wpAnyH_take (i := 6) (v := .string ⟨(longer).toArray⟩) rfl (by kernel_rfl) (by kernel_rfl) (by kernel_rfl) (fun _ _ _ h => h) (yi_conv _ _ _ (.slice (some ⟨B, 0, none⟩) 23 23) _ (by rfl) rfl rfl (fun w h => run_string_row _ _ 5 Try.underlying31 Try.underlying5 Try.underlying9 ((HB5.out).below h))) hHeld ?_
  simp only [Act.put, List.getElem_toArray, List.getElem_cons_zero, List.getElem_cons_succ, List.setIfInBounds_toArray, List.set_cons_zero, List.set_cons_succ]
  refine wpAnyH_ready (rs := [3]) (by kernel_rfl) (by simp) (AllReadyH.cons rfl (fun K hK => ?_) AllReadyH.nil)
  go_simp
  refine (CTurn_num (smL 7) (zB 12) (chaTurn (smL 7) 1 (zB 12) longer) _ 1 _ (smL_length _) (zB_length _) ((HC5.out).below B0) (by rw [chaTurn_length]; decide) (by decide) (by decide)).mono ?_
  rintro e m1 ⟨x1, rfl, o1, b1⟩
  have r1 : Row1 m1 x1 ((chaTurn (smL 7) 1 (zB 12) (chaTurn (smL 7) 1 (zB 12) longer)).map bval) := Row1.of_own o1
  obtain ⟨a1, c1, hx1, _⟩ := id r1
  rw [show ((chaTurn (smL 7) 1 (zB 12) (chaTurn (smL 7) 1 (zB 12) longer)).map bval).length = (chaTurn (smL 7) 1 (zB 12) longer).length from by rw [List.length_map, chaTurn_length]] at hx1
  subst hx1
  have N1 : Ext w5 m1 := B0.trans b1
  refine hK.out _ _ N1 (fun hHeld => ?_)
  clear hK K
  try simp only [Act.put, List.getElem_toArray, List.getElem_cons_zero, List.getElem_cons_succ, List.setIfInBounds_toArray, List.set_cons_zero, List.set_cons_succ]
  refine wpAnyH_ready (rs := [4]) (by kernel_rfl) (by simp) (AllReadyH.cons rfl (fun K hK => ?_) AllReadyH.nil)
  refine step_wp (by rfl) ?_
  refine wp_conv_d (some 13) _ _ _ _ _ (m1) rfl rfl rfl (run_string_row 31 9 5 Try.underlying31 Try.underlying5 Try.underlying9 r1) ?_
  refine hK.out _ _ N1 (fun hHeld => ?_)
  clear hK K
  try simp only [Act.put, List.getElem_toArray, List.getElem_cons_zero, List.getElem_cons_succ, List.setIfInBounds_toArray, List.set_cons_zero, List.set_cons_succ]
  refine wpAnyH_take (i := 7) (v := .bool true) rfl (by kernel_rfl) (by kernel_rfl) (by kernel_rfl) (fun _ _ _ h => h) (yi_eqt _ _ _ _ (chaTurn (smL 7) 1 (zB 12) (chaTurn (smL 7) 1 (zB 12) longer)) (longer) true (decide_eq_true (chaTurn_twice _ _ _ _)) (by rfl) rfl rfl rfl) hHeld ?_
  simp only [Act.put, List.getElem_toArray, List.getElem_cons_zero, List.getElem_cons_succ, List.setIfInBounds_toArray, List.set_cons_zero, List.set_cons_succ]
  refine wpAnyH_take (i := 8) (v := .bool true) rfl (by kernel_rfl) (by kernel_rfl) (by kernel_rfl) (fun _ _ _ h => h) (yi_move _ (.bool true) (by rfl) rfl rfl) hHeld ?_
  simp only [Act.put, List.getElem_toArray, List.getElem_cons_zero, List.getElem_cons_succ, List.setIfInBounds_toArray, List.set_cons_zero, List.set_cons_succ]
  refine wpAnyH_take (i := 9) (v := .slice ac 23 cc) rfl (by kernel_rfl) (by kernel_rfl) (by kernel_rfl) (fun _ _ _ h => h) (yi_move _ (.slice ac 23 cc) (by rfl) rfl rfl) hHeld ?_
  simp only [Act.put, List.getElem_toArray, List.getElem_cons_zero, List.getElem_cons_succ, List.setIfInBounds_toArray, List.set_cons_zero, List.set_cons_succ]
  refine wpAnyH_take (i := 10) (v := .string ⟨(chaTurn (smL 7) 1 (zB 12) longer).toArray⟩) rfl (by kernel_rfl) (by kernel_rfl) (by kernel_rfl) (fun _ _ _ h => h) (yi_conv _ _ _ (.slice ac 23 cc) _ (by rfl) rfl rfl (fun w h => run_string_row _ _ 5 Try.underlying31 Try.underlying5 Try.underlying9 ((HC5.out).below h))) hHeld ?_
  simp only [Act.put, List.getElem_toArray, List.getElem_cons_zero, List.getElem_cons_succ, List.setIfInBounds_toArray, List.set_cons_zero, List.set_cons_succ]
  refine wpAnyH_take (i := 11) (v := .slice (some ⟨B, 0, none⟩) 23 23) rfl (by kernel_rfl) (by kernel_rfl) (by kernel_rfl) (fun _ _ _ h => h) (yi_move _ (.slice (some ⟨B, 0, none⟩) 23 23) (by rfl) rfl rfl) hHeld ?_
  simp only [Act.put, List.getElem_toArray, List.getElem_cons_zero, List.getElem_cons_succ, List.setIfInBounds_toArray, List.set_cons_zero, List.set_cons_succ]
  refine wpAnyH_take (i := 12) (v := .string ⟨(longer).toArray⟩) rfl (by kernel_rfl) (by kernel_rfl) (by kernel_rfl) (fun _ _ _ h => h) (yi_conv _ _ _ (.slice (some ⟨B, 0, none⟩) 23 23) _ (by rfl) rfl rfl (fun w h => run_string_row _ _ 5 Try.underlying31 Try.underlying5 Try.underlying9 ((HB5.out).below h))) hHeld ?_
  simp only [Act.put, List.getElem_toArray, List.getElem_cons_zero, List.getElem_cons_succ, List.setIfInBounds_toArray, List.set_cons_zero, List.set_cons_succ]
  refine wpAnyH_take (i := 13) (v := .bool true) rfl (by kernel_rfl) (by kernel_rfl) (by kernel_rfl) (fun _ _ _ h => h) (yi_net _ _ _ _ (chaTurn (smL 7) 1 (zB 12) longer) longer true HNZ.out (by rfl) rfl rfl rfl) hHeld ?_
  simp only [Act.put, List.getElem_toArray, List.getElem_cons_zero, List.getElem_cons_succ, List.setIfInBounds_toArray, List.set_cons_zero, List.set_cons_succ]
  refine wpAnyH_take (i := 14) (v := .bool true) rfl (by kernel_rfl) (by kernel_rfl) (by kernel_rfl) (fun _ _ _ h => h) (yi_pick _ _ _ true _ (by rfl) rfl rfl rfl) hHeld ?_
  simp only [Act.put, List.getElem_toArray, List.getElem_cons_zero, List.getElem_cons_succ, List.setIfInBounds_toArray, List.set_cons_zero, List.set_cons_succ]
  refine wpAnyH_ready (rs := [15]) (by kernel_rfl) (by simp) (AllReadyH.cons rfl (fun K hK => ?_) AllReadyH.nil)
  go_simp
  refine hK.out _ _ N1 (fun hHeld => ?_)
  clear hK K
  try simp only [Act.put, List.getElem_toArray, List.getElem_cons_zero, List.getElem_cons_succ, List.setIfInBounds_toArray, List.set_cons_zero, List.set_cons_succ]
  refine wpAnyH_done (by kernel_rfl) ?_ _
  go_wp2_with fail
  go_ret
  exact ⟨rfl, HE.out.trans N1⟩

end Go.Proofs.Ytldpmphecgffcaa
