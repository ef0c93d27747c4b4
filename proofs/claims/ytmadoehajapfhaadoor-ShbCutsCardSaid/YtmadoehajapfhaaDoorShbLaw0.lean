/- The walk of what every law of chapter 5 begins with: alive. Each theorem names its own conditions. -/
import Derived.Test.YtmadoehajapfhaaDoorShbSum
import Derived.Test.YtmadoehajapfhaaDoorRefShb
import Derived.Test.YtmadoehajapfhaaDoorRefHex
import Derived.Test.YtmadoehajapfhaaDoorDetEql
import Derived.Lib.SlBytesConst
namespace Go.Proofs.YtmadoehajapfhaaDoor
open Go.RowKit
set_option linter.unusedVariables false
set_option linter.unusedSimpArgs false

theorem alive_hexQ : hexL ((sha512 [97, 98, 99]).take 8) = [100, 100, 97, 102, 51, 53, 97, 49, 57, 51, 54, 49, 55, 97, 98, 97] := by decide +kernel

set_option maxRecDepth 100000 in
set_option maxHeartbeats 4000000 in
theorem alive_anyQ (w : World) (hG : GlobRQ w) : Calls Tryd.prog 15 #[] w fun e w' => e = .returned (.bool true) ∧ Below w.heap.size w w' := by
  have HG := Lib.hid hG
  clear hG
  have kc := fun (w : World) (C : Array Value) (n c : Nat) => Lib.run_convert_bytes_const (P := Tryd.prog) w 25 5 C n c Tryd.underlying25 Tryd.underlying5
  go_enter Tryd.func15, Tryd.ntmps15
  go_wp2_with fail
  have HE1 := Lib.hid (Ext.alloc w (.cells #[.int .u8 97, .int .u8 98, .int .u8 99] 5 (3, 4)))
  have HR1 : Hid (Row1 (w.alloc (.cells #[.int .u8 97, .int .u8 98, .int .u8 99] 5 (3, 4))) (.slice (some ⟨w.heap.size, 0, none⟩) 3 3) ([97, 98, 99].map bval)) := Lib.hid (Row1.made_mark w _ _ _ _ _ _ rfl rfl rfl (by unfold maxLen; omega))
  have HS1 : Hid ((w.alloc (.cells #[.int .u8 97, .int .u8 98, .int .u8 99] 5 (3, 4))).heap.size = w.heap.size + 1) := Lib.hid (by simp)
  generalize w.alloc (.cells #[.int .u8 97, .int .u8 98, .int .u8 99] 5 (3, 4)) = w1 at *
  have HR2 : Hid (Row1 (w1.alloc (.cells #[.slice (some ⟨w.heap.size, 0, none⟩) 3 3] 25)) (.slice (some ⟨w.heap.size + 1, 0, none⟩) 1 1) [.slice (some ⟨w.heap.size, 0, none⟩) 3 3]) := Lib.hid (Row1.made w1 _ _ _ _ _ HS1.out rfl rfl (by unfold maxLen; omega))
  have HEA := Lib.hid (Ext.alloc w1 (.cells #[.slice (some ⟨w.heap.size, 0, none⟩) 3 3] 25))
  have HE2 := Lib.hid (HE1.out.trans HEA.out)
  have HR3 := Lib.hid (rowB1 HR2.out (HR1.out.below HEA.out))
  refine (Sum_numQ _ _ _ HR3.out (by decide) (HG.out.ext HE2.out)).mono ?_
  rintro e w2 ⟨rfl, hb⟩
  have HE3 := Lib.hid (HE2.out.trans hb)
  clear hb HR1 HR2 HR3 HE1 HE2 HEA HS1
  have hfl : [[97, 98, 99]].flatten = ([97, 98, 99] : List UInt8) := rfl
  rw [hfl]
  clear hfl
  have HAH := Lib.hid alive_hexQ
  have HL := Lib.hid (sha512_length [97, 98, 99])
  generalize sha512 [97, 98, 99] = o at *
  have HZ := Lib.hid (Blk.made w2 (ints .u8 (List.replicate 64 0)) 35)
  have HS2 := Lib.hid HE3.out.size
  have HE4 := Lib.hid (HE3.out.trans (Ext.alloc w2 (.cells (ints .u8 (List.replicate 64 0)).toArray 35)))
  have HIo : Hid ((Tryd.prog.info? 35).map (·.size) = some (o.map bval).length) := Lib.hid (sig_size HL.out)
  have HLo : Hid ((o.map bval).length = (ints .u8 (List.replicate 64 0)).length) := Lib.hid (by rw [List.length_map, HL.out, ints_length, List.length_replicate])
  go_wp2_with (refine wpList_store_blk rfl _ _ _ rfl w2.heap.size (o.map bval) rfl rfl _ _ HZ.out HLo.out HIo.out (bval_one _) ?_; intro w7 hb7 hg7)
  have HE5 := Lib.hid (ext_grown HE4.out hg7 HS2.out)
  have HR5 := Lib.hid (blk_row (n := 64) hb7 (by rw [List.length_map, HL.out]) (by unfold maxLen; omega))
  have hr8 := row_sliced (cap := 64) (by rw [List.length_map, HL.out]; exact HR5.out) 0 8 (by omega) (by rw [List.length_map, HL.out]; omega)
  have HR8 : Hid (Row1 w7 (.slice (some ⟨w2.heap.size, 0, none⟩) 8 64) ((o.take 8).map bval)) := Lib.hid (by rw [List.map_take]; simpa [sliced, WideShapes.add_plain] using hr8)
  clear hb7 hg7 HZ HE4 hr8
  refine (hex_any _ (o.take 8) _ HR8.out (by rw [List.length_take, HL.out]; omega)).mono ?_
  rintro e w8 ⟨rfl, hb⟩
  have HE6 := Lib.hid (HE5.out.trans hb)
  clear hb HR5 HR8
  rw [HAH.out]
  go_wp2_with fail
  go_ret
  exact ⟨rfl, HE6.out⟩

/-- The hash of one list, laid in a slice that was just made. -/
theorem Sum_oneQ (x : Value) (l : List UInt8) (w : World) (hx : Row1 w x (l.map bval)) (hl : l.length ≤ 1099511627776) (hG : GlobRQ w) :
    Calls Tryd.prog 17 #[.slice (some ⟨w.heap.size, 0, none⟩) 1 1] (w.alloc (.cells #[x] 25)) fun e w' => e = .returned (.agg ((sha512 l).map bval).toArray) ∧ Ext w w' := by
  have he := Ext.alloc w (.cells #[x] 25)
  have h := Sum_numQ _ [l] _ (rowB1 (Row1.made w #[x] 25 _ 1 [x] rfl rfl rfl (by unfold maxLen; omega)) (hx.below he)) (by simpa using hl) (hG.ext he)
  refine h.mono fun e w' hh => ⟨?_, he.trans hh.2⟩
  rw [hh.1]
  simp

theorem Tryd.info25 : (Tryd.prog.info? 25).map (fun i => (i.zero, i.size)) = some (some (.slice none 0 0), 1) := by kernel_rfl
theorem info_twoQ {P : Program} {t : TypeId} {z : Value} {n : Nat} (h : (P.info? t).map (fun i => (i.zero, i.size)) = some (some z, n)) : ∃ i, P.info? t = some i ∧ i.zero = some z ∧ i.size = n := by
  cases hp : P.info? t with
  | none => rw [hp] at h; cases h
  | some i =>
    rw [hp] at h
    simp only [Option.map_some, Option.some.injEq, Prod.mk.injEq] at h
    exact ⟨i, rfl, h.1, h.2⟩


theorem row_form2Q {w : World} {v : Value} {vs : List Value} (h : Row1 w v vs) : ∃ a n c, v = .slice a n c := by
  obtain ⟨a, c, rfl, _⟩ := h
  exact ⟨_, _, _, rfl⟩

end Go.Proofs.YtmadoehajapfhaaDoor
