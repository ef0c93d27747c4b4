/- The walk of the document's own Join: many lists of bytes laid in one. Each theorem names its own conditions. -/
import Derived.Test.YtmadoehajapfhaaDoorProg
import Derived.Test.YtmadoehajapfhaaDoorRowMore
import Derived.Test.YtmadoehajapfhaaDoorInfoKit
namespace Go.Proofs.YtmadoehajapfhaaDoor
open Go.RowKit
set_option linter.unusedVariables false
set_option linter.unusedSimpArgs false

theorem flat_succ (ls : List (List UInt8)) (k : Nat) (l : List UInt8) (h : ls[k]? = some l) : (ls.take (k + 1)).flatten = (ls.take k).flatten ++ l := by
  have hk : k < ls.length := by
    rcases Nat.lt_or_ge k ls.length with h' | h'
    · exact h'
    · rw [List.getElem?_eq_none h'] at h; cases h
  rw [List.take_succ_eq_append_getElem hk, List.flatten_append]
  rw [List.getElem?_eq_getElem hk] at h
  cases h
  simp
theorem flat_part (ls : List (List UInt8)) (k : Nat) : (ls.take k).flatten.length ≤ ls.flatten.length := by
  have h : ls.flatten = (ls.take k).flatten ++ (ls.drop k).flatten := by rw [← List.flatten_append, List.take_append_drop]
  rw [h, List.length_append]
  omega

set_option maxRecDepth 100000 in
set_option maxHeartbeats 4000000 in
theorem join_any (v : Value) (ls : List (List UInt8)) (w : World) (hv : RowB w v ls) (hb : ls.flatten.length ≤ 1099511627776) :
    Calls Tryd.prog 12 #[v] w fun e w' => ∃ x, e = .returned x ∧ Row1 w' x (ls.flatten.map bval) ∧ Below w.heap.size w w' := by
  obtain ⟨i0, hi, hz0, hz1, hz2⟩ := info_parts Tryd.info5
  obtain ⟨vals, hr, hlen, hx⟩ := hv
  obtain ⟨a, cap, rfl, r1, r2, r3, r4⟩ := id hr
  unfold maxLen at r2
  rw [hlen] at r1 ⊢
  have HI0 := Lib.hid hi
  have HZ0 := Lib.hid hz0
  have HZ1 := Lib.hid hz1
  have HZ2 := Lib.hid hz2
  have HX := Lib.hid hx
  have HC := Lib.hid r4
  have HLN := Lib.hid hlen
  have HB := Lib.hid hb
  have HNIL : Hid (w.ownsRow w.heap.size 5 1 (.slice none 0 0) 0 []) := Lib.hid (World.ownsRow_nil _ _ _ _)
  clear hr hx r3 r4 hb hlen hi hz0 hz1 hz2
  go_enter Tryd.func12, Tryd.ntmps12
  go_wp2_with fail
  go_loopw [3, 4] (fun x iv wr => ∃ (k : Nat), k ≤ ls.length ∧ iv = .int .i64 (k : Int) ∧ wr.ownsRow w.heap.size 5 1 x (ls.take k).flatten.length ((ls.take k).flatten.map bval) ∧ Ext w wr) (fun _ iv _ => ls.length - (intOf iv).toNat)
  case atStart => exact ⟨0, by omega, rfl, HNIL.out, Ext.refl w⟩
  case round =>
    clear HNIL
    obtain ⟨k, hk, rfl, ho, hE⟩ := hrel
    have k0 : (0 : Int) ≤ (k : Int) := Int.natCast_nonneg _
    have HO := Lib.hid ho
    have HE := Lib.hid hE
    have HS := Lib.hid hE.size
    clear ho hE
    by_cases hlk : k < ls.length
    · have k1 : (k : Int) < (ls.length : Int) := by omega
      obtain ⟨b', off, rfl, hbs, hcell⟩ := HC.out (by intro e; have h := congrArg List.length e; rw [HLN.out] at h; simp only [List.length_nil] at h; omega)
      obtain ⟨xv, hxv⟩ : ∃ x, vals[k]? = some x := ⟨_, List.getElem?_eq_getElem (by rw [HLN.out]; exact hlk)⟩
      obtain ⟨lk, hlk2⟩ : ∃ x, ls[k]? = some x := ⟨_, List.getElem?_eq_getElem hlk⟩
      have HXR := Lib.hid ((HX.out k xv lk hxv hlk2).below HE.out)
      have hft := flat_succ ls k lk hlk2
      have hfl := flat_part ls (k + 1)
      rw [hft, List.length_append] at hfl
      have HFT := Lib.hid hft
      have c0 : wr.cell? ⟨b', off + k, none⟩ = some xv := by
        have h := hcell k (by rw [HLN.out]; exact hlk)
        rw [hxv] at h
        rw [← h]
        exact HE.out.cell (p := ⟨b', off + k, none⟩) hbs
      have HFL : Hid ((ls.take k).flatten.length + (lk.map bval).length ≤ 1099511627776) := Lib.hid (by rw [List.length_map]; have := HB.out; omega)
      clear hcell hxv hlk2 hft hfl
      go_wp2_with (at_builtin; refine wpList_append_row rfl _ _ 25 rfl w.heap.size 5 i0 (.int .u8 0) 1 Tryd.underlying25 HI0.out HZ0.out HZ1.out HZ2.out rfl _ _ _ rfl HO.out rfl HXR.out (bval_one _) (by have := HFL.out; unfold maxLen; omega) (by have := HFL.out; omega) HS.out ?_; intro v3 w3 hown3 hgrow3)
      go_roundw
      case rel =>
        refine ⟨k + 1, by omega, by go_num, ?_, ext_own HE.out HO.out (Nat.le_refl _) hgrow3⟩
        rw [HFT.out, List.map_append, List.length_append]
        rw [List.length_map] at hown3
        exact hown3
      case measure => simp [intOf]; omega
    · have hk2 : (ls.length : Int) ≤ (k : Int) := by omega
      have hke : k = ls.length := by omega
      have hrw := Row1.of_own HO.out
      rw [hke, List.take_length] at hrw
      have HR := Lib.hid hrw
      clear hrw
      clear HO hke
      go_wp2_with fail
      go_ret
      exact ⟨_, rfl, HR.out, HE.out⟩

end Go.Proofs.YtmadoehajapfhaaDoor
