/- The walk of package sha's Sum. Each theorem names its own conditions. -/
import Derived.Test.YtbhncbiicokeoaaDoorShaEnd
import Derived.Test.YtbhncbiicokeoaaDoorRowCut
import Derived.Laws.CopyOwn
namespace Go.Proofs.YtbhncbiicokeoaaDoor
open Go.RowKit
set_option linter.unusedVariables false
set_option linter.unusedSimpArgs false

/-- The state of the hash of p: whole blocks told, the rest laid at the open one's beginning. -/
structure ShaSt (w : World) (Bh Bo : Nat) (p : List UInt8) (n f : Nat) (l : List UInt8) : Prop where
  len : p.length = 64 * n + f
  few : f < 64
  all : l.length = 64
  top : l.take f = p.drop (64 * n)
  blkH : Blk w Bh (ints .u32 (ws (hRun p n))) 41
  blkO : Blk w Bo (l.map bval) 44

theorem splice_map (l c : List UInt8) (f : Nat) : splice (l.map bval) f (c.map bval) = (l.take f ++ c ++ l.drop (f + c.length)).map bval := by
  unfold splice
  simp

/-- A slice's length. -/
def lenV : Value → Nat
  | .slice _ n _ => n
  | _ => 0
theorem joined_length {l c : List UInt8} {f : Nat} (hl : l.length = 64) (hf : f + c.length ≤ 64) : (l.take f ++ c ++ l.drop (f + c.length)).length = 64 := by
  simp
  omega
/-- More bytes, and no block is full. -/
theorem ShaSt.more {w w' : World} {Bh Bo : Nat} {p l c : List UInt8} {n f : Nat} (h : ShaSt w Bh Bo p n f l) (hc : f + c.length < 64) (hh : Blk w' Bh (ints .u32 (ws (hRun p n))) 41)
    (ho : Blk w' Bo ((l.take f ++ c ++ l.drop (f + c.length)).map bval) 44) : ShaSt w' Bh Bo (p ++ c) n (f + c.length) (l.take f ++ c ++ l.drop (f + c.length)) := by
  have h1 := h.len
  have h2 := h.all
  have h3 : (l.take f ++ c).length = f + c.length := by simp; omega
  refine ⟨by rw [List.length_append]; omega, hc, joined_length h2 (by omega), ?_, ?_, ho⟩
  · rw [List.take_append_of_le_length (by omega), ← h3, List.take_length, List.drop_append_of_le_length (by omega), h.top]
  · rw [hRun_front p c n (by omega)]
    exact hh
/-- A block is full. -/
theorem ShaSt.full {w : World} {Bh Bo : Nat} {p l c : List UInt8} {n f : Nat} (h : ShaSt w Bh Bo p n f l) (hc : f + c.length = 64) : hRun (p ++ c) (n + 1) = mixF (hRun p n) (l.take f ++ c ++ l.drop (f + c.length)) := by
  have h1 := h.len
  have h2 := h.all
  have e1 : l.drop (f + c.length) = [] := List.drop_eq_nil_of_le (by omega)
  have e2 : p ++ c = p.take (64 * n) ++ (p.drop (64 * n) ++ c) ++ [] := by
    rw [List.append_nil, ← List.append_assoc, List.take_append_drop]
  have e5 : hRun p n = hRun (p.take (64 * n)) n := by
    have g := hRun_front (p.take (64 * n)) (p.drop (64 * n)) n (by simp; omega)
    rwa [List.take_append_drop] at g
  rw [e1, List.append_nil, e2, hRun_block _ _ n (by simp; omega) (by simp; omega), h.top, e5]
theorem ShaSt.next {w w' : World} {Bh Bo : Nat} {p l c : List UInt8} {n f : Nat} (h : ShaSt w Bh Bo p n f l) (hc : f + c.length = 64) (hh : Blk w' Bh (ints .u32 (ws (mixF (hRun p n) (l.take f ++ c ++ l.drop (f + c.length))))) 41)
    (ho : Blk w' Bo ((l.take f ++ c ++ l.drop (f + c.length)).map bval) 44) : ShaSt w' Bh Bo (p ++ c) (n + 1) 0 (l.take f ++ c ++ l.drop (f + c.length)) := by
  have h1 := h.len
  refine ⟨by rw [List.length_append]; omega, by omega, joined_length h.all (by omega), ?_, ?_, ho⟩
  · rw [List.take_zero, List.drop_eq_nil_of_le (by rw [List.length_append]; omega)]
  · rw [h.full hc]
    exact hh
theorem front_take (xr : List UInt8) (n : Nat) : ∃ c : List UInt8, c.length = Nat.min xr.length n ∧ xr = c ++ xr.drop c.length := by
  refine ⟨xr.take n, by rw [List.length_take, Nat.min_comm], ?_⟩
  rcases Nat.le_total n xr.length with h | h
  · rw [List.length_take, Nat.min_eq_left h, List.take_append_drop]
  · rw [List.take_of_length_le h, List.drop_length, List.append_nil]
theorem lenV_row {w : World} {v : Value} {vs : List Value} (h : Row1 w v vs) : lenV v = vs.length := by
  obtain ⟨a, cap, rfl, _⟩ := h
  rfl
theorem num_one : (Tryd.prog.info? 5).map (·.size) = some 1 := by kernel_rfl
theorem flat_take (ls : List (List UInt8)) (k : Nat) (l : List UInt8) (h : ls[k]? = some l) : (ls.take (k + 1)).flatten = (ls.take k).flatten ++ l := by
  have hk : k < ls.length := by
    rcases Nat.lt_or_ge k ls.length with h' | h'
    · exact h'
    · rw [List.getElem?_eq_none h'] at h; cases h
  rw [List.take_succ_eq_append_getElem hk, List.flatten_append]
  rw [List.getElem?_eq_getElem hk] at h
  cases h
  simp
theorem flat_len (ls : List (List UInt8)) (k : Nat) : (ls.take k).flatten.length ≤ ls.flatten.length := by
  have h : ls.flatten = (ls.take k).flatten ++ (ls.drop k).flatten := by rw [← List.flatten_append, List.take_append_drop]
  rw [h, List.length_append]
  omega

set_option maxRecDepth 100000 in
set_option maxHeartbeats 8000000 in
theorem Sum_num (v : Value) (ls : List (List UInt8)) (w : World) (hv : RowB w v ls) (hb : ls.flatten.length ≤ 1099511627776) (hG : GlobR w) :
    Calls Tryd.prog 11 #[v] w fun e w' => e = .returned (.agg ((sha256 ls.flatten).map bval).toArray) ∧ Below w.heap.size w w' := by
  obtain ⟨vals, hr, hlen, hx⟩ := hv
  obtain ⟨a, cap, rfl, r1, r2, r3, r4⟩ := id hr
  unfold maxLen at r2
  rw [hlen] at r1 ⊢
  have HG := Lib.hid hG
  have HX := Lib.hid hx
  have HC := Lib.hid r4
  have HLN := Lib.hid hlen
  have HB := Lib.hid hb
  have HZ := Lib.hid (Blk.made w (ints .u8 (List.replicate 32 0)) 28)
  have HE := Lib.hid (Ext.alloc w (.cells (ints .u8 (List.replicate 32 0)).toArray 28))
  clear hr hx r3 r4 hG hb hlen
  go_enter Tryd.func11, Tryd.ntmps11
  go_wp2_with fail
  change Calls _ _ _ (w.alloc (.cells (ints .u8 (List.replicate 32 0)).toArray 28)) _
  generalize w.alloc (.cells (ints .u8 (List.replicate 32 0)).toArray 28) = w1 at *
  obtain ⟨A, hA⟩ : ∃ A, A = w.heap.size := ⟨_, rfl⟩
  have HZ := HZ.out
  rw [← hA] at HZ ⊢
  have hA2 : w.heap.size ≤ A := by omega
  have HZ := Lib.hid HZ
  clear hA
  refine (start_any w1).mono ?_
  rintro e w2 ⟨rfl, hb⟩
  have HZ := Lib.hid (ext_blk HZ.out hb)
  have HE := Lib.hid (HE.out.trans hb)
  clear hb
  have HZL := Lib.hid HZ.out.lt
  have HH := Lib.hid (Blk.made w2 (ints .u32 (List.replicate 8 0)) 41)
  have HZ := Lib.hid (HZ.out.alloc (.cells (ints .u32 (List.replicate 8 0)).toArray 41))
  have HS := Lib.hid HE.out.size
  have HE := Lib.hid (HE.out.trans (Ext.alloc w2 (.cells (ints .u32 (List.replicate 8 0)).toArray 41)))
  go_upto_region 2 with (refine wpList_store_blk rfl _ _ _ rfl w2.heap.size (ints .u32 (ws H256)) rfl rfl _ _ HH.out rfl Tryd.arr41 (ints_one _ _) ?_; intro w3 hb3 hg3)
  have HZ := Lib.hid (HZ.out.grown hg3 (by have := HZL.out; simp; omega))
  have HE := Lib.hid (ext_grown HE.out hg3 HS.out)
  have HH := Lib.hid hb3
  have HAB : Hid (A < w2.heap.size) := HZL
  generalize w2.heap.size = Bh at *
  clear hb3 hg3 HZL HS
  have HHL := Lib.hid HH.out.lt
  have HO : Hid (Blk (w3.alloc (.cells (ints .u8 (List.replicate 64 0)).toArray 44)) w3.heap.size ((List.replicate 64 (0 : UInt8)).map bval) 44) := Lib.hid (Blk.made w3 (ints .u8 (List.replicate 64 0)) 44)
  have HH := Lib.hid (HH.out.alloc (.cells (ints .u8 (List.replicate 64 0)).toArray 44))
  have HZ := Lib.hid (HZ.out.alloc (.cells (ints .u8 (List.replicate 64 0)).toArray 44))
  have HS3 := Lib.hid HE.out.size
  have HE := Lib.hid (HE.out.trans (Ext.alloc w3 (.cells (ints .u8 (List.replicate 64 0)).toArray 44)))
  go_upto_region 3 with (fail)
  change Code.wp _ _ _ _ (w3.alloc (.cells (ints .u8 (List.replicate 64 0)).toArray 44))
  generalize w3.alloc (.cells (ints .u8 (List.replicate 64 0)).toArray 44) = w4 at *
  have HHO : Hid (Bh < w3.heap.size) := HHL
  generalize w3.heap.size = Bo at *
  clear HHL
  have HST : Hid (ShaSt w4 Bh Bo [] 0 0 (List.replicate 64 0)) := Lib.hid ⟨rfl, by omega, rfl, rfl, HH.out, HO.out⟩
  clear HH HO
  go_wp2_with fail
  go_loopw [5, 6, 13] (fun i5 i6 i13 wr => ∃ (k n f : Nat) (p l : List UInt8), k ≤ ls.length ∧ i13 = .int .i64 (k : Int) ∧ i5 = .int .i64 (f : Int) ∧ i6 = .int .i64 (p.length : Int) ∧ p = (ls.take k).flatten ∧ ShaSt wr Bh Bo p n f l ∧ Blk wr A (ints .u8 (List.replicate 32 0)) 28 ∧ Ext w wr) (fun _ _ i13 _ => ls.length - (intOf i13).toNat)
  case atStart => exact ⟨0, 0, 0, [], List.replicate 64 0, by omega, rfl, rfl, rfl, rfl, HST.out, HZ.out, HE.out⟩
  case round =>
    clear HST HZ HE
    obtain ⟨k, n, f, p, l, hk, rfl, rfl, rfl, hp, hst, hz, hbel⟩ := hrel
    have HP := Lib.hid hp
    have HST := Lib.hid hst
    have HZ := Lib.hid hz
    have HE := Lib.hid hbel
    have k0 : (0 : Int) ≤ (k : Int) := Int.natCast_nonneg _
    have hpl := flat_len ls k
    rw [← hp] at hpl
    have hpb : (p.length : Int) ≤ 1099511627776 := by have := HB.out; omega
    clear hp hst hz hbel hpl
    by_cases hlk : k < ls.length
    · have k1 : (k : Int) < (ls.length : Int) := by omega
      obtain ⟨b', off, rfl, hbs, hcell⟩ := HC.out (by intro e; have h := congrArg List.length e; rw [HLN.out] at h; simp only [List.length_nil] at h; omega)
      obtain ⟨xv, hxv⟩ : ∃ x, vals[k]? = some x := ⟨_, List.getElem?_eq_getElem (by rw [HLN.out]; exact hlk)⟩
      obtain ⟨lk, hlk2⟩ : ∃ x, ls[k]? = some x := ⟨_, List.getElem?_eq_getElem hlk⟩
      have hrow := HX.out k xv lk hxv hlk2
      have hft := flat_take ls k lk hlk2
      rw [← HP.out] at hft
      have hfl := flat_len ls (k + 1)
      rw [hft, List.length_append] at hfl
      have hpb2 : (p.length : Int) + (lk.length : Int) ≤ 1099511627776 := by have := HB.out; omega
      have c0 : wr.cell? ⟨b', off + k, none⟩ = some xv := by
        have h := hcell k (by rw [HLN.out]; exact hlk)
        rw [hxv] at h
        rw [← h]
        exact HE.out.cell (p := ⟨b', off + k, none⟩) hbs
      have HFT := Lib.hid hft
      have HXR := Lib.hid hrow
      obtain ⟨a2, cap2, rfl, s1, s2, s3, s4⟩ := hrow
      rw [List.length_map] at s1 c0 HXR
      unfold maxLen at s2
      clear hcell hxv hlk2 hft hfl s3 s4
      have hl0 : (0 : Int) ≤ (lk.length : Int) := Int.natCast_nonneg _
      have hp0 : (0 : Int) ≤ (p.length : Int) := Int.natCast_nonneg _
      go_wp2_with fail
      obtain ⟨wo, rfl⟩ : ∃ wo : World, wo = wr := ⟨_, rfl⟩
      go_loopw [5, 8] (fun i5 x8 wr => ∃ (n f : Nat) (p2 xr l : List UInt8), i5 = .int .i64 (f : Int) ∧ Row1 w x8 (xr.map bval) ∧ p2 ++ xr = (ls.take (k + 1)).flatten ∧ ShaSt wr Bh Bo p2 n f l ∧ Blk wr A (ints .u8 (List.replicate 32 0)) 28 ∧ Ext w wr) (fun _ x8 _ => lenV x8)
      case atStart => exact ⟨n, f, p, lk, l, rfl, HXR.out, HFT.out.symm, HST.out, HZ.out, HE.out⟩
      case round =>
        clear HST HZ HE HXR
        obtain ⟨n, f, p2, xr, l, rfl, hrow, happ, hst, hz, hbel⟩ := hrel
        have hf64 := hst.few
        have hf0 : (f : Int) < 64 := by omega
        have hf1 : (0 : Int) ≤ (f : Int) := Int.natCast_nonneg _
        have hplen := congrArg List.length happ
        rw [List.length_append] at hplen
        have hfl := flat_len ls (k + 1)
        rw [← hplen] at hfl
        have hxb : (p2.length : Int) + (xr.length : Int) ≤ 1099511627776 := by have := HB.out; omega
        clear hplen hfl
        by_cases hx0 : 0 < xr.length
        · obtain ⟨c, hcl, hcx⟩ := front_take xr (64 - f)
          have hcm : c.length ≤ xr.length := by rw [hcl]; exact Nat.min_le_left _ _
          have hcm2 : c.length ≤ 64 - f := by rw [hcl]; exact Nat.min_le_right _ _
          have hc0 : 0 < c.length := by rw [hcl]; show 0 < min xr.length (64 - f); omega
          obtain ⟨v', hv', hrun⟩ := row_cut Tryd.underlying25 Tryd.sizeOf5 hrow c.length (by rw [List.length_map]; exact hcm)
          rw [← List.map_drop] at hv'
          obtain ⟨a3, cap3, rfl, t1, t2, t3, t4⟩ := hrow
          obtain ⟨b3, off3, rfl, t5, t6⟩ := t4 (by intro e; have h := congrArg List.length e; rw [List.length_map] at h; simp only [List.length_nil] at h; omega)
          rw [List.length_map] at t1 hrun ⊢
          unfold maxLen at t2
          have HCS : Hid (∀ (j : Nat) (v : Value), (c.map bval)[j]? = some v → wr.cell? ((⟨b3, off3, none⟩ : Addr).add j) = some v) := Lib.hid (fun j v hj => by
            have hjl : j < c.length := by
              rcases Nat.lt_or_ge j c.length with h | h
              · exact h
              · rw [List.getElem?_eq_none (by rw [List.length_map]; exact h)] at hj; cases hj
            have e := t6 j (by rw [List.length_map]; omega)
            have e2 : (xr.map bval)[j]? = (c.map bval)[j]? := by rw [hcx, List.map_append, List.getElem?_append_left (by rw [List.length_map]; exact hjl)]
            rw [WideShapes.add_plain, ← hj, ← e2, ← e]
            exact hbel.cell (p := ⟨b3, off3 + j, none⟩) t5)
          have hs := cut_arr Tryd.underlying44 num_cells Tryd.sizeOf5 wr Bo f (by omega)
          have HBO := Lib.hid (hst.blkO : wr.heap[Bo]? = some (.cells (l.map bval).toArray 44 (0, 0)))
          have HCL : Hid ((c.map bval).length = Nat.min xr.length (64 - f)) := Lib.hid (by rw [List.length_map, hcl])
          have HFT2 : Hid (f + (c.map bval).length ≤ (l.map bval).length) := Lib.hid (by rw [List.length_map, List.length_map, hst.all]; omega)
          have HBR := Lib.hid (Below.refl Bo wr)
          have HSP := Lib.hid (splice_map l c f)
          have HST := Lib.hid hst
          have HZ := Lib.hid hz
          have HE := Lib.hid hbel
          have HV := Lib.hid hv'
          have HCX := Lib.hid hcx
          have HAP := Lib.hid happ
          have hxi : (0 : Int) < (xr.length : Int) := by omega
          have hci : (c.length : Int) ≤ 64 - (f : Int) := by omega
          have hci0 : (0 : Int) < (c.length : Int) := by omega
          have hcm3 : (c.length : Int) ≤ (xr.length : Int) := by omega
          clear hst hz hbel hv' hcx happ t3 t4 t6 hcl
          go_upto_region 12 with (refine wpList_copy_splice rfl (.tmp 25) (.tmp 26) 25 25 rfl 5 Tryd.underlying25 num_one (some ⟨Bo, f, none⟩) (some ⟨b3, off3, none⟩) (64 - f) (64 - f) xr.length cap3 rfl rfl Bo f (l.map bval) 44 HBO.out (c.map bval) HCL.out (fun _ => ⟨rfl, _, rfl, HCS.out⟩) HFT2.out (bval_one _) Bo wr HBR.out (Nat.le_refl _) ?_; intro w5 hc5 hb5)
          have hg5 := hc5.out
          rw [HSP.out] at hg5
          have HH := Lib.hid (HST.out.blkH.same (hb5.block Bh (by have := HHO.out; omega)))
          have HZ := Lib.hid (HZ.out.same (hb5.block A (by have := HHO.out; have := HAB.out; omega)))
          have HE : Hid (Ext w w5) := Lib.hid (Below.trans HE.out (hb5.mono (by have := HHO.out; have := HAB.out; omega)))
          have HO : Hid (Blk w5 Bo ((l.take f ++ c ++ l.drop (f + c.length)).map bval) 44) := Lib.hid hg5
          have HM : Hid (lenV v' = xr.length - c.length) := Lib.hid (by rw [lenV_row HV.out, List.length_map, List.length_drop])
          have HAP2 : Hid (p2 ++ c ++ xr.drop c.length = (ls.take (k + 1)).flatten) := Lib.hid (by rw [List.append_assoc, ← HCX.out]; exact HAP.out)
          have HJ := Lib.hid (joined_length (l := l) (c := c) (f := f) HST.out.all (by omega))
          clear hc5 hb5 hg5 HCS HBO HCL HFT2 HBR HSP hs hrun HCX
          by_cases h64 : f + c.length = 64
          · have t64 : ((f : Int) + (c.length : Int) == 64) = true := by simp; omega
            have HN : Hid (∀ w', Blk w' Bh _ _ → Blk w' Bo _ _ → ShaSt w' Bh Bo (p2 ++ c) (n + 1) 0 (l.take f ++ c ++ l.drop (f + c.length))) := Lib.hid (fun w' h1 h2 => HST.out.next h64 h1 h2)
            have HR8 := Lib.hid (hRun_length p2 n)
            have HMX := Lib.hid (mixed_any (hRun p2 n) (l.take f ++ c ++ l.drop (f + c.length)) w5 HR8.out HJ.out (HG.out.ext HE.out))
            generalize l.take f ++ c ++ l.drop (f + c.length) = l2 at *
            generalize hRun p2 n = h2 at *
            have HI1 : Hid ((Tryd.prog.info? 41).map (·.size) = some (ints .u32 (ws h2)).length) := Lib.hid (by rw [ints_length, ws_length, HR8.out]; exact Tryd.arr41)
            have HI2 : Hid ((Tryd.prog.info? 44).map (·.size) = some (l2.map bval).length) := Lib.hid (by rw [List.length_map, HJ.out]; exact Tryd.arr44)
            have HI3 : Hid ((Tryd.prog.info? 41).map (·.size) = some (ints .u32 (ws (mixF h2 l2))).length) := Lib.hid (by rw [ints_length, ws_length, mixF_length, HR8.out]; exact Tryd.arr41)
            have HI4 : Hid ((ints .u32 (ws (mixF h2 l2))).length = (ints .u32 (ws h2)).length) := Lib.hid (by rw [ints_length, ws_length, mixF_length, ints_length, ws_length])
            clear HST
            go_wp2_with (first | (refine wpList_load_blk rfl _ _ rfl Bh rfl _ _ _ _ HH.out Tryd.underlying41 HI1.out ?_) | (refine wpList_load_blk rfl _ _ rfl Bo rfl _ _ _ _ HO.out Tryd.underlying44 HI2.out ?_))
            refine HMX.out.mono ?_
            rintro e w6 ⟨rfl, hb⟩
            have HZ := Lib.hid (ext_blk HZ.out hb)
            have HH := Lib.hid (ext_blk HH.out hb)
            have HO := Lib.hid (ext_blk HO.out hb)
            have HE := Lib.hid (HE.out.trans hb)
            clear hb HMX
            go_wp2_with (refine wpList_store_blk rfl _ _ _ rfl Bh (ints .u32 (ws (mixF h2 l2))) rfl rfl _ _ HH.out HI4.out HI3.out (ints_one _ _) ?_; intro w7 hb7 hg7)
            go_roundw
            case rel => exact ⟨n + 1, 0, p2 ++ c, xr.drop c.length, l2, rfl, HV.out, HAP2.out, HN.out _ hb7 (HO.out.grown hg7 (by have := HHO.out; simp; omega)), HZ.out.grown hg7 (by have := HAB.out; simp; omega), ext_grown HE.out hg7 (by have := HAB.out; omega)⟩
            case measure => rw [HM.out]; show _ < xr.length; omega
          · have t64 : ((f : Int) + (c.length : Int) == 64) = false := by simp; omega
            go_wp2_with fail
            go_roundw
            case rel => exact ⟨n, f + c.length, p2 ++ c, xr.drop c.length, _, by go_num, HV.out, HAP2.out, HST.out.more (by omega) HH.out HO.out, HZ.out, HE.out⟩
            case measure => rw [HM.out]; show _ < xr.length; omega
        · have hx1 : xr = [] := List.eq_nil_of_length_eq_zero (by omega)
          subst hx1
          obtain ⟨a3, cap3, rfl, t1, t2, t3, t4⟩ := hrow
          rw [List.append_nil] at happ
          have HST := Lib.hid hst
          have HZ := Lib.hid hz
          have HE := Lib.hid hbel
          have HPL : Hid ((p.length : Int) + (lk.length : Int) = (p2.length : Int)) := Lib.hid (by have := congrArg List.length HFT.out; rw [← happ, List.length_append] at this; omega)
          have HAP := Lib.hid happ
          clear hst hz hbel happ t3 t4
          go_wp2_with fail
          go_roundw
          case rel => exact ⟨k + 1, n, f, p2, l, by omega, by go_num, rfl, by rw [HPL.out], HAP.out, HST.out, HZ.out, HE.out⟩
          case measure => simp [intOf]; omega
    · have hkl : k = ls.length := by omega
      have hpe : p = ls.flatten := by rw [HP.out, hkl, List.take_length]
      have HI1 : Hid ((Tryd.prog.info? 41).map (·.size) = some (ints .u32 (ws (hRun p n))).length) := Lib.hid (by rw [ints_length, ws_length, hRun_length]; exact Tryd.arr41)
      have HI2 : Hid ((Tryd.prog.info? 44).map (·.size) = some (l.map bval).length) := Lib.hid (by rw [List.length_map, HST.out.all]; exact Tryd.arr44)
      have HCA := Lib.hid (closed_any p l n f wr HST.out.len HST.out.few HST.out.all HST.out.top (by omega) (HG.out.ext HE.out))
      have HPE := Lib.hid hpe
      have hk2 : (ls.length : Int) ≤ (k : Int) := by omega
      clear hpe hkl
      go_wp2_with (first | (refine wpList_load_blk rfl _ _ rfl Bh rfl _ _ _ _ HST.out.blkH Tryd.underlying41 HI1.out ?_) | (refine wpList_load_blk rfl _ _ rfl Bo rfl _ _ _ _ HST.out.blkO Tryd.underlying44 HI2.out ?_))
      refine HCA.out.mono ?_
      rintro e w5 ⟨rfl, hb⟩
      have HZ := Lib.hid (ext_blk HZ.out hb)
      have HE := Lib.hid (HE.out.trans hb)
      clear hb HCA
      have HSH : Hid (outB (hRun (padded p) ((p.length + 72) / 64)) = sha256 ls.flatten) := Lib.hid (by rw [HPE.out]; rfl)
      have HL8 := Lib.hid (hRun_length (padded p) ((p.length + 72) / 64))
      generalize hRun (padded p) ((p.length + 72) / 64) = R at *
      go_wp2_with fail
      refine (numOf_any R HL8.out w5).mono ?_
      rintro e w6 ⟨rfl, hb⟩
      have HZ := Lib.hid (ext_blk HZ.out hb)
      have HE := Lib.hid (HE.out.trans hb)
      clear hb
      obtain ⟨o, ho⟩ : ∃ o, o = sha256 ls.flatten := ⟨_, rfl⟩
      rw [HSH.out, ← ho]
      have HOL : Hid (o.length = 32) := Lib.hid (by rw [ho, sha256_length])
      have HOO := Lib.hid ho
      clear ho
      have HIo : Hid ((Tryd.prog.info? 28).map (·.size) = some (o.map bval).length) := Lib.hid (num_size HOL.out)
      have HLo : Hid ((o.map bval).length = (ints .u8 (List.replicate 32 0)).length) := Lib.hid (by rw [List.length_map, HOL.out, ints_length, List.length_replicate])
      go_wp2_with (refine wpList_store_blk rfl _ _ _ rfl A (o.map bval) rfl rfl _ _ HZ.out HLo.out HIo.out (bval_one _) ?_; intro w7 hb7 hg7)
      refine bodyPost_ret (result_blk rfl _ A _ _ _ _ rfl hb7 Tryd.underlying28 HIo.out) rfl ?_
      exact ⟨by rw [HOO.out], ext_grown HE.out hg7 (by omega)⟩

end Go.Proofs.YtbhncbiicokeoaaDoor
