/- The walk of FieldSquares. Each theorem names its own conditions. -/
import Derived.Test.YtmiapjmdolecbaaFldRoot
import Derived.Test.YtmiapjmdolecbaaFldSqM
import Derived.Test.YtmiapjmdolecbaaFldTop5
import Derived.Test.YtmiapjmdolecbaaRefNum
import Derived.Test.YtmiapjmdolecbaaDetLoad
namespace Go.Proofs.Ytmiapjmdolecbaa
open Go.RowKit
set_option linter.unusedVariables false
set_option linter.unusedSimpArgs false

set_option maxRecDepth 100000 in
set_option maxHeartbeats 16000000 in
theorem fieldSquares_any (l m : List UInt8) (w : World) (hl : l.length = 32) (hm : m.length = 32) :
    Calls Try.prog 9 #[.agg (l.map bval).toArray, .agg (m.map bval).toArray] w fun e w' => e = .returned (.bool true) ∧ Below w.heap.size w w' := by
  have HLl := Lib.hid hl
  have HIl : Hid ((Try.prog.info? 23).map (·.size) = some (l.map bval).length) := Lib.hid (by rw [List.length_map, hl]; exact Try.arr23)
  have HLm := Lib.hid hm
  have HIm : Hid ((Try.prog.info? 23).map (·.size) = some (m.map bval).length) := Lib.hid (by rw [List.length_map, hm]; exact Try.arr23)
  have HB := Lib.hid (boxes2 w (l.map bval) (m.map bval) 23 23)
  clear hl hm
  go_enter Try.func9, Try.ntmps9
  go_wp2_with fail
  change Calls _ _ _ ((w.alloc (.cells (l.map bval).toArray 23)).alloc (.cells (m.map bval).toArray 23)) _
  generalize (w.alloc (.cells (l.map bval).toArray 23)).alloc (.cells (m.map bval).toArray 23) = w0 at *
  obtain ⟨h1, h2, hE⟩ := HB.out
  obtain ⟨A, hA⟩ : ∃ A, A = w.heap.size := ⟨_, rfl⟩
  rw [← hA] at h1 h2 ⊢
  have hA2 : w.heap.size ≤ A := by omega
  have H1 := Lib.hid h1
  have H2 := Lib.hid h2
  have HE : Hid (Ext w w0) := Lib.hid hE
  clear h1 h2 hE HB hA
  refine (alive_any _).mono ?_
  rintro e wa ⟨rfl, hb⟩
  have H1 := Lib.hid (ext_blk H1.out hb)
  have H2 := Lib.hid (ext_blk H2.out hb)
  have HE := Lib.hid (HE.out.trans hb)
  clear hb
  have HD := Lib.hid (Blk.made wa zero32 23)
  have HX := Lib.hid (Ext.alloc wa (.cells zero32.toArray 23))
  obtain ⟨G, hG⟩ : ∃ q, q = wa.heap.size := ⟨_, rfl⟩
  have lG : A + 1 < G := by have := H2.out.lt; omega
  have hwG : w.heap.size ≤ G := by omega
  rw [← hG] at HD
  have H1 := Lib.hid (ext_blk H1.out HX.out)
  have H2 := Lib.hid (ext_blk H2.out HX.out)
  have HE := Lib.hid (HE.out.trans HX.out)
  go_wp2_with fail
  rw [← hG]
  change Code.wp _ _ _ _ (wa.alloc (.cells zero32.toArray 23))
  generalize wa.alloc (.cells zero32.toArray 23) = w1 at *
  clear hG HX
  obtain ⟨wo, rfl⟩ : ∃ wo : World, wo = w1 := ⟨_, rfl⟩
  go_loopw [7] (fun i wr => ∃ (k : Nat) (bs : List Int), k ≤ 32 ∧ i = .int .i64 k ∧ FullB bs k ∧ Blk wr A (l.map bval) 23 ∧ Blk wr (A + 1) (m.map bval) 23 ∧ Blk wr G (ints .u8 bs) 23 ∧ Ext w wr) (fun i _ => 32 - (intOf i).toNat)
  case atStart => exact ⟨0, _, by omega, rfl, ⟨rfl, fun j hj => by omega⟩, H1.out, H2.out, HD.out, HE.out⟩
  case round =>
    clear H1 H2 HD HE
    obtain ⟨k, bs, hk, rfl, hfb, hb1, hb2, hb3, hbe⟩ := hrel
    have i0' : (0 : Int) ≤ (k : Int) := Int.natCast_nonneg _
    have hlen := hfb.len
    by_cases hlt : k < 32
    · have i1 : (k : Int) < 32 := by omega
      have e1 := hb3.cell k
      rw [ints_get (by omega)] at e1
      have f1 := hb3.free k
      have HST := Lib.hid (hfb.step hlt)
      have H1 := Lib.hid hb1
      have H2 := Lib.hid hb2
      have HD := Lib.hid hb3
      have HE := Lib.hid hbe
      clear hb1 hb2 hb3 hbe hfb hlen
      go_wp2_with fail
      go_roundw
      case rel =>
        refine ⟨k + 1, _, by omega, by go_num, HST.out, H1.out.far (by simp; omega) _, H2.out.far (by simp; omega) _, ?_, Below.setCell HE.out (by simp; omega) _⟩
        rw [← ints_set]
        exact HD.out.set k _
      case measure => simp [intOf]; omega
    · have hk' : k = 32 := by omega
      subst hk'
      have hd := hfb.done
      subst hd
      have e1 : wr.cell? ⟨G, 31, none⟩ = some (.int .u8 255) := by rw [hb3.cell 31]; rfl
      have e2 : wr.cell? ⟨G, 0, none⟩ = some (.int .u8 255) := by rw [hb3.cell 0]; rfl
      have f1 := hb3.free 31
      have f2 := hb3.free 0
      have e3 : ints .u8 (((List.replicate 32 255).set 0 246).set 31 63) = halfL.map bval := by kernel_rfl
      have h3 := (hb3.set 0 (.int .u8 246)).set 31 (.int .u8 63)
      rw [ints_set, ints_set, e3] at h3
      have HH := Lib.hid h3
      have H1 := Lib.hid ((hb1.far (a := ⟨G, 0, none⟩) (by simp; omega) (.int .u8 246)).far (a := ⟨G, 31, none⟩) (by simp; omega) (.int .u8 63))
      have H2 := Lib.hid ((hb2.far (a := ⟨G, 0, none⟩) (by simp; omega) (.int .u8 246)).far (a := ⟨G, 31, none⟩) (by simp; omega) (.int .u8 63))
      have HE : Hid (Ext w ((wr.setCell ⟨G, 0, none⟩ (.int .u8 246)).setCell ⟨G, 31, none⟩ (.int .u8 63))) := Lib.hid (Below.setCell (Below.setCell hbe (by simp; omega) _) (by simp; omega) _)
      clear hb1 hb2 hb3 hbe hfb hlen e3 h3
      go_wp2_with (refine wpList_load_blk rfl _ _ rfl A rfl _ _ _ _ H1.out Try.underlying23 HIl.out ?_)
      generalize (wr.setCell ⟨G, 0, none⟩ (.int .u8 246)).setCell ⟨G, 31, none⟩ (.int .u8 63) = w2 at *
      obtain ⟨NA, hNA⟩ : ∃ n, n = rootN ((leN l : Nat) : Int) := ⟨_, rfl⟩
      obtain ⟨pa, hpa⟩ : ∃ n, n = rootB ((leN l : Nat) : Int) := ⟨_, rfl⟩
      obtain ⟨NB, hNB⟩ : ∃ n, n = rootN ((leN m : Nat) : Int) := ⟨_, rfl⟩
      obtain ⟨pb, hpb⟩ : ∃ n, n = rootB ((leN m : Nat) : Int) := ⟨_, rfl⟩
      obtain ⟨NC, hNC⟩ : ∃ n, n = rootN ((leN (nb (((leN l : Nat) : Int) * ((leN m : Nat) : Int))) : Nat) : Int) := ⟨_, rfl⟩
      obtain ⟨pc, hpc⟩ : ∃ n, n = rootB ((leN (nb (((leN l : Nat) : Int) * ((leN m : Nat) : Int))) : Nat) : Int) := ⟨_, rfl⟩
      have HRA : Hid (∀ w, Calls Try.prog 26 #[.agg (l.map bval).toArray] w fun e w' => e = .returned (.tuple #[.agg (NA.map bval).toArray, .bool pa]) ∧ Below w.heap.size w w') := Lib.hid (fun w => by rw [hNA, hpa]; exact Root_num l w HLl.out)
      have LNA : Hid (NA.length = 32) := Lib.hid (by rw [hNA]; exact rootN_length _)
      have LZA : Hid ((NA.map bval).length = zero32.length) := Lib.hid (by rw [List.length_map, LNA.out]; rfl)
      have LSA : Hid ((Try.prog.info? 23).map (·.size) = some (NA.map bval).length) := Lib.hid (by rw [List.length_map, LNA.out]; exact Try.arr23)
      have HPA := Lib.hid hpa
      have HRB : Hid (∀ w, Calls Try.prog 26 #[.agg (m.map bval).toArray] w fun e w' => e = .returned (.tuple #[.agg (NB.map bval).toArray, .bool pb]) ∧ Below w.heap.size w w') := Lib.hid (fun w => by rw [hNB, hpb]; exact Root_num m w HLm.out)
      have LNB : Hid (NB.length = 32) := Lib.hid (by rw [hNB]; exact rootN_length _)
      have LZB : Hid ((NB.map bval).length = zero32.length) := Lib.hid (by rw [List.length_map, LNB.out]; rfl)
      have LSB : Hid ((Try.prog.info? 23).map (·.size) = some (NB.map bval).length) := Lib.hid (by rw [List.length_map, LNB.out]; exact Try.arr23)
      have HPB := Lib.hid hpb
      have HRC : Hid (∀ w, Calls Try.prog 26 #[.agg ((nb (((leN l : Nat) : Int) * ((leN m : Nat) : Int))).map bval).toArray] w fun e w' => e = .returned (.tuple #[.agg (NC.map bval).toArray, .bool pc]) ∧ Below w.heap.size w w') := Lib.hid (fun w => by rw [hNC, hpc]; exact Root_num (nb (((leN l : Nat) : Int) * ((leN m : Nat) : Int))) w (nb_length _))
      have LNC : Hid (NC.length = 32) := Lib.hid (by rw [hNC]; exact rootN_length _)
      have LZC : Hid ((NC.map bval).length = zero32.length) := Lib.hid (by rw [List.length_map, LNC.out]; rfl)
      have LSC : Hid ((Try.prog.info? 23).map (·.size) = some (NC.map bval).length) := Lib.hid (by rw [List.length_map, LNC.out]; exact Try.arr23)
      have HPC := Lib.hid hpc
      clear hNA hNB hNC hpa hpb hpc
      have HIh : Hid ((Try.prog.info? 23).map (·.size) = some (halfL.map bval).length) := Lib.hid (by rw [List.length_map, halfL_length]; exact Try.arr23)
      obtain ⟨hh, hhh⟩ : ∃ x, x = halfL := ⟨_, rfl⟩
      rw [← hhh] at HH HIh
      have HHL : Hid (hh.length = 32) := Lib.hid (by rw [hhh]; exact halfL_length)
      have HHH := Lib.hid hhh
      clear hhh
      refine (HRA.out _).mono ?_
      rintro e wc1 ⟨rfl, hb⟩
      have H1 := Lib.hid (ext_blk H1.out hb)
      have H2 := Lib.hid (ext_blk H2.out hb)
      have HH := Lib.hid (ext_blk HH.out hb)
      have HE := Lib.hid (HE.out.trans hb)
      clear hb
      have bH1 := H1.out.lt
      have bH2 := H2.out.lt
      have bHH := HH.out.lt
      have HD := Lib.hid (Blk.made wc1 zero32 23)
      have HX := Lib.hid (Ext.alloc wc1 (.cells zero32.toArray 23))
      have KH1 := Lib.hid (ext_blk H1.out HX.out)
      have KH2 := Lib.hid (ext_blk H2.out HX.out)
      have KHH := Lib.hid (ext_blk HH.out HX.out)
      have cH1 := Lib.hid bH1
      have cH2 := Lib.hid bH2
      have cHH := Lib.hid bHH
      clear bH1 bH2 bHH
      go_wp2_with (first | (refine wpList_store_blk rfl _ _ _ rfl wc1.heap.size (NA.map bval) rfl rfl _ _ HD.out LZA.out LSA.out (bval_one _) ?_; intro w5 hb5 hg5; have nH2 := KH2.out.grown hg5 (by have := cH2.out; simp; omega)) | (refine wpList_load_w (by rfl) _ _ rfl (A + 1) rfl _ _ _ _ nH2 Try.underlying23 HIm.out ?_))
      obtain ⟨GA, hG⟩ : ∃ q, q = wc1.heap.size := ⟨_, rfl⟩
      have dH1 := cH1.out
      have dH2 := cH2.out
      have dHH := cHH.out
      rw [← hG] at hb5 hg5 ⊢
      have lH1GA : A < GA := by omega
      have H1 := Lib.hid (KH1.out.grown hg5 (by simp; omega))
      have lH2GA : (A + 1) < GA := by omega
      have H2 := Lib.hid (KH2.out.grown hg5 (by simp; omega))
      have lHHGA : G < GA := by omega
      have HH := Lib.hid (KHH.out.grown hg5 (by simp; omega))
      have hwGA : w.heap.size ≤ GA := by have := HE.out.size; omega
      have HE := Lib.hid (ext_grown (HE.out.trans HX.out) hg5 hwGA)
      have HNA := Lib.hid hb5
      clear hb5 hg5 hG HD HX KH1 cH1 dH1 KH2 cH2 dH2 KHH cHH dHH nH2
      refine (HRB.out _).mono ?_
      rintro e wc2 ⟨rfl, hb⟩
      have H1 := Lib.hid (ext_blk H1.out hb)
      have H2 := Lib.hid (ext_blk H2.out hb)
      have HH := Lib.hid (ext_blk HH.out hb)
      have HNA := Lib.hid (ext_blk HNA.out hb)
      have HE := Lib.hid (HE.out.trans hb)
      clear hb
      have bH1 := H1.out.lt
      have bH2 := H2.out.lt
      have bHH := HH.out.lt
      have bHNA := HNA.out.lt
      have HD := Lib.hid (Blk.made wc2 zero32 23)
      have HX := Lib.hid (Ext.alloc wc2 (.cells zero32.toArray 23))
      have KH1 := Lib.hid (ext_blk H1.out HX.out)
      have KH2 := Lib.hid (ext_blk H2.out HX.out)
      have KHH := Lib.hid (ext_blk HH.out HX.out)
      have KHNA := Lib.hid (ext_blk HNA.out HX.out)
      have cH1 := Lib.hid bH1
      have cH2 := Lib.hid bH2
      have cHH := Lib.hid bHH
      have cHNA := Lib.hid bHNA
      clear bH1 bH2 bHH bHNA
      go_wp2_with (first | (refine wpList_store_blk rfl _ _ _ rfl wc2.heap.size (NB.map bval) rfl rfl _ _ HD.out LZB.out LSB.out (bval_one _) ?_; intro w5 hb5 hg5; have nH1 := KH1.out.grown hg5 (by have := cH1.out; simp; omega); have nH2 := KH2.out.grown hg5 (by have := cH2.out; simp; omega)) | (refine wpList_load_w (by rfl) _ _ rfl A rfl _ _ _ _ nH1 Try.underlying23 HIl.out ?_) | (refine wpList_load_w (by rfl) _ _ rfl (A + 1) rfl _ _ _ _ nH2 Try.underlying23 HIm.out ?_))
      obtain ⟨GB, hG⟩ : ∃ q, q = wc2.heap.size := ⟨_, rfl⟩
      have dH1 := cH1.out
      have dH2 := cH2.out
      have dHH := cHH.out
      have dHNA := cHNA.out
      rw [← hG] at hb5 hg5 ⊢
      have lH1GB : A < GB := by omega
      have H1 := Lib.hid (KH1.out.grown hg5 (by simp; omega))
      have lH2GB : (A + 1) < GB := by omega
      have H2 := Lib.hid (KH2.out.grown hg5 (by simp; omega))
      have lHHGB : G < GB := by omega
      have HH := Lib.hid (KHH.out.grown hg5 (by simp; omega))
      have lHNAGB : GA < GB := by omega
      have HNA := Lib.hid (KHNA.out.grown hg5 (by simp; omega))
      have hwGB : w.heap.size ≤ GB := by have := HE.out.size; omega
      have HE := Lib.hid (ext_grown (HE.out.trans HX.out) hg5 hwGB)
      have HNB := Lib.hid hb5
      clear hb5 hg5 hG HD HX KH1 cH1 dH1 KH2 cH2 dH2 KHH cHH dHH KHNA cHNA dHNA nH1 nH2
      refine (Mul_num l m _ HLl.out HLm.out).mono ?_
      rintro e wc3 ⟨rfl, hb⟩
      have H1 := Lib.hid (ext_blk H1.out hb)
      have H2 := Lib.hid (ext_blk H2.out hb)
      have HH := Lib.hid (ext_blk HH.out hb)
      have HNA := Lib.hid (ext_blk HNA.out hb)
      have HNB := Lib.hid (ext_blk HNB.out hb)
      have HE := Lib.hid (HE.out.trans hb)
      clear hb
      go_wp2_with fail
      refine (HRC.out _).mono ?_
      rintro e wc4 ⟨rfl, hb⟩
      have H1 := Lib.hid (ext_blk H1.out hb)
      have H2 := Lib.hid (ext_blk H2.out hb)
      have HH := Lib.hid (ext_blk HH.out hb)
      have HNA := Lib.hid (ext_blk HNA.out hb)
      have HNB := Lib.hid (ext_blk HNB.out hb)
      have HE := Lib.hid (HE.out.trans hb)
      clear hb
      have bH1 := H1.out.lt
      have bH2 := H2.out.lt
      have bHH := HH.out.lt
      have bHNA := HNA.out.lt
      have bHNB := HNB.out.lt
      have HD := Lib.hid (Blk.made wc4 zero32 23)
      have HX := Lib.hid (Ext.alloc wc4 (.cells zero32.toArray 23))
      have KH1 := Lib.hid (ext_blk H1.out HX.out)
      have KH2 := Lib.hid (ext_blk H2.out HX.out)
      have KHH := Lib.hid (ext_blk HH.out HX.out)
      have KHNA := Lib.hid (ext_blk HNA.out HX.out)
      have KHNB := Lib.hid (ext_blk HNB.out HX.out)
      have cH1 := Lib.hid bH1
      have cH2 := Lib.hid bH2
      have cHH := Lib.hid bHH
      have cHNA := Lib.hid bHNA
      have cHNB := Lib.hid bHNB
      clear bH1 bH2 bHH bHNA bHNB
      go_wp2_with (first | (refine wpList_store_blk rfl _ _ _ rfl wc4.heap.size (NC.map bval) rfl rfl _ _ HD.out LZC.out LSC.out (bval_one _) ?_; intro w5 hb5 hg5; have nH1 := KH1.out.grown hg5 (by have := cH1.out; simp; omega)) | (refine wpList_load_w (by rfl) _ _ rfl A rfl _ _ _ _ nH1 Try.underlying23 HIl.out ?_))
      obtain ⟨GC, hG⟩ : ∃ q, q = wc4.heap.size := ⟨_, rfl⟩
      have dH1 := cH1.out
      have dH2 := cH2.out
      have dHH := cHH.out
      have dHNA := cHNA.out
      have dHNB := cHNB.out
      rw [← hG] at hb5 hg5 ⊢
      have lH1GC : A < GC := by omega
      have H1 := Lib.hid (KH1.out.grown hg5 (by simp; omega))
      have lH2GC : (A + 1) < GC := by omega
      have H2 := Lib.hid (KH2.out.grown hg5 (by simp; omega))
      have lHHGC : G < GC := by omega
      have HH := Lib.hid (KHH.out.grown hg5 (by simp; omega))
      have lHNAGC : GA < GC := by omega
      have HNA := Lib.hid (KHNA.out.grown hg5 (by simp; omega))
      have lHNBGC : GB < GC := by omega
      have HNB := Lib.hid (KHNB.out.grown hg5 (by simp; omega))
      have hwGC : w.heap.size ≤ GC := by have := HE.out.size; omega
      have HE := Lib.hid (ext_grown (HE.out.trans HX.out) hg5 hwGC)
      have HNC := Lib.hid hb5
      clear hb5 hg5 hG HD HX KH1 cH1 dH1 KH2 cH2 dH2 KHH cHH dHH KHNA cHNA dHNA KHNB cHNB dHNB nH1
      refine (Canon_num l _ HLl.out).mono ?_
      rintro e wc5 ⟨rfl, hb⟩
      have H1 := Lib.hid (ext_blk H1.out hb)
      have H2 := Lib.hid (ext_blk H2.out hb)
      have HH := Lib.hid (ext_blk HH.out hb)
      have HNA := Lib.hid (ext_blk HNA.out hb)
      have HNB := Lib.hid (ext_blk HNB.out hb)
      have HNC := Lib.hid (ext_blk HNC.out hb)
      have HE := Lib.hid (HE.out.trans hb)
      clear hb
      have bH1 := H1.out.lt
      have bH2 := H2.out.lt
      have bHH := HH.out.lt
      have bHNA := HNA.out.lt
      have bHNB := HNB.out.lt
      have bHNC := HNC.out.lt
      have HD := Lib.hid (Blk.made wc5 zero32 23)
      have HX := Lib.hid (Ext.alloc wc5 (.cells zero32.toArray 23))
      have KH1 := Lib.hid (ext_blk H1.out HX.out)
      have KH2 := Lib.hid (ext_blk H2.out HX.out)
      have KHH := Lib.hid (ext_blk HH.out HX.out)
      have KHNA := Lib.hid (ext_blk HNA.out HX.out)
      have KHNB := Lib.hid (ext_blk HNB.out HX.out)
      have KHNC := Lib.hid (ext_blk HNC.out HX.out)
      have cH1 := Lib.hid bH1
      have cH2 := Lib.hid bH2
      have cHH := Lib.hid bHH
      have cHNA := Lib.hid bHNA
      have cHNB := Lib.hid bHNB
      have cHNC := Lib.hid bHNC
      clear bH1 bH2 bHH bHNA bHNB bHNC
      go_wp2_with (first | (refine wpList_store_blk rfl _ _ _ rfl wc5.heap.size ((nb ((leN l : Nat) : Int)).map bval) rfl rfl _ _ HD.out (nb_len _) (nb_size _) (bval_one _) ?_; intro w5 hb5 hg5; have nH2 := KH2.out.grown hg5 (by have := cH2.out; simp; omega)) | (refine wpList_load_w (by rfl) _ _ rfl (A + 1) rfl _ _ _ _ nH2 Try.underlying23 HIm.out ?_))
      obtain ⟨GD, hG⟩ : ∃ q, q = wc5.heap.size := ⟨_, rfl⟩
      have dH1 := cH1.out
      have dH2 := cH2.out
      have dHH := cHH.out
      have dHNA := cHNA.out
      have dHNB := cHNB.out
      have dHNC := cHNC.out
      rw [← hG] at hb5 hg5 ⊢
      have lH1GD : A < GD := by omega
      have H1 := Lib.hid (KH1.out.grown hg5 (by simp; omega))
      have lH2GD : (A + 1) < GD := by omega
      have H2 := Lib.hid (KH2.out.grown hg5 (by simp; omega))
      have lHHGD : G < GD := by omega
      have HH := Lib.hid (KHH.out.grown hg5 (by simp; omega))
      have lHNAGD : GA < GD := by omega
      have HNA := Lib.hid (KHNA.out.grown hg5 (by simp; omega))
      have lHNBGD : GB < GD := by omega
      have HNB := Lib.hid (KHNB.out.grown hg5 (by simp; omega))
      have lHNCGD : GC < GD := by omega
      have HNC := Lib.hid (KHNC.out.grown hg5 (by simp; omega))
      have hwGD : w.heap.size ≤ GD := by have := HE.out.size; omega
      have HE := Lib.hid (ext_grown (HE.out.trans HX.out) hg5 hwGD)
      have HCA := Lib.hid hb5
      clear hb5 hg5 hG HD HX KH1 cH1 dH1 KH2 cH2 dH2 KHH cHH dHH KHNA cHNA dHNA KHNB cHNB dHNB KHNC cHNC dHNC nH2
      refine (Canon_num m _ HLm.out).mono ?_
      rintro e wc6 ⟨rfl, hb⟩
      have H1 := Lib.hid (ext_blk H1.out hb)
      have H2 := Lib.hid (ext_blk H2.out hb)
      have HH := Lib.hid (ext_blk HH.out hb)
      have HNA := Lib.hid (ext_blk HNA.out hb)
      have HNB := Lib.hid (ext_blk HNB.out hb)
      have HNC := Lib.hid (ext_blk HNC.out hb)
      have HCA := Lib.hid (ext_blk HCA.out hb)
      have HE := Lib.hid (HE.out.trans hb)
      clear hb
      have bH1 := H1.out.lt
      have bH2 := H2.out.lt
      have bHH := HH.out.lt
      have bHNA := HNA.out.lt
      have bHNB := HNB.out.lt
      have bHNC := HNC.out.lt
      have bHCA := HCA.out.lt
      have HD := Lib.hid (Blk.made wc6 zero32 23)
      have HX := Lib.hid (Ext.alloc wc6 (.cells zero32.toArray 23))
      have KH1 := Lib.hid (ext_blk H1.out HX.out)
      have KH2 := Lib.hid (ext_blk H2.out HX.out)
      have KHH := Lib.hid (ext_blk HH.out HX.out)
      have KHNA := Lib.hid (ext_blk HNA.out HX.out)
      have KHNB := Lib.hid (ext_blk HNB.out HX.out)
      have KHNC := Lib.hid (ext_blk HNC.out HX.out)
      have KHCA := Lib.hid (ext_blk HCA.out HX.out)
      have cH1 := Lib.hid bH1
      have cH2 := Lib.hid bH2
      have cHH := Lib.hid bHH
      have cHNA := Lib.hid bHNA
      have cHNB := Lib.hid bHNB
      have cHNC := Lib.hid bHNC
      have cHCA := Lib.hid bHCA
      clear bH1 bH2 bHH bHNA bHNB bHNC bHCA
      go_wp2_with (first | (refine wpList_store_blk rfl _ _ _ rfl wc6.heap.size ((nb ((leN m : Nat) : Int)).map bval) rfl rfl _ _ HD.out (nb_len _) (nb_size _) (bval_one _) ?_; intro w5 hb5 hg5; have nH1 := KH1.out.grown hg5 (by have := cH1.out; simp; omega); have nHH := KHH.out.grown hg5 (by have := cHH.out; simp; omega)) | (refine wpList_load_w (by rfl) _ _ rfl A rfl _ _ _ _ nH1 Try.underlying23 HIl.out ?_) | (refine wpList_load_w (by rfl) _ _ rfl G rfl _ _ _ _ nHH Try.underlying23 HIh.out ?_))
      obtain ⟨GE, hG⟩ : ∃ q, q = wc6.heap.size := ⟨_, rfl⟩
      have dH1 := cH1.out
      have dH2 := cH2.out
      have dHH := cHH.out
      have dHNA := cHNA.out
      have dHNB := cHNB.out
      have dHNC := cHNC.out
      have dHCA := cHCA.out
      rw [← hG] at hb5 hg5 ⊢
      have lH1GE : A < GE := by omega
      have H1 := Lib.hid (KH1.out.grown hg5 (by simp; omega))
      have lH2GE : (A + 1) < GE := by omega
      have H2 := Lib.hid (KH2.out.grown hg5 (by simp; omega))
      have lHHGE : G < GE := by omega
      have HH := Lib.hid (KHH.out.grown hg5 (by simp; omega))
      have lHNAGE : GA < GE := by omega
      have HNA := Lib.hid (KHNA.out.grown hg5 (by simp; omega))
      have lHNBGE : GB < GE := by omega
      have HNB := Lib.hid (KHNB.out.grown hg5 (by simp; omega))
      have lHNCGE : GC < GE := by omega
      have HNC := Lib.hid (KHNC.out.grown hg5 (by simp; omega))
      have lHCAGE : GD < GE := by omega
      have HCA := Lib.hid (KHCA.out.grown hg5 (by simp; omega))
      have hwGE : w.heap.size ≤ GE := by have := HE.out.size; omega
      have HE := Lib.hid (ext_grown (HE.out.trans HX.out) hg5 hwGE)
      have HCB := Lib.hid hb5
      clear hb5 hg5 hG HD HX KH1 cH1 dH1 KH2 cH2 dH2 KHH cHH dHH KHNA cHNA dHNA KHNB cHNB dHNB KHNC cHNC dHNC KHCA cHCA dHCA nH1 nHH
      refine (Pow_num l hh _ HLl.out HHL.out).mono ?_
      rintro e wc7 ⟨rfl, hb⟩
      have H1 := Lib.hid (ext_blk H1.out hb)
      have H2 := Lib.hid (ext_blk H2.out hb)
      have HH := Lib.hid (ext_blk HH.out hb)
      have HNA := Lib.hid (ext_blk HNA.out hb)
      have HNB := Lib.hid (ext_blk HNB.out hb)
      have HNC := Lib.hid (ext_blk HNC.out hb)
      have HCA := Lib.hid (ext_blk HCA.out hb)
      have HCB := Lib.hid (ext_blk HCB.out hb)
      have HE := Lib.hid (HE.out.trans hb)
      clear hb
      by_cases hza : nb ((leN l : Nat) : Int) = zer
      · have HZA := Lib.hid hza
        clear hza
        have bH1 := H1.out.lt
        have bH2 := H2.out.lt
        have bHH := HH.out.lt
        have bHNA := HNA.out.lt
        have bHNB := HNB.out.lt
        have bHNC := HNC.out.lt
        have bHCA := HCA.out.lt
        have bHCB := HCB.out.lt
        have HD := Lib.hid (Blk.made wc7 zero32 23)
        have HX := Lib.hid (Ext.alloc wc7 (.cells zero32.toArray 23))
        have KH1 := Lib.hid (ext_blk H1.out HX.out)
        have KH2 := Lib.hid (ext_blk H2.out HX.out)
        have KHH := Lib.hid (ext_blk HH.out HX.out)
        have KHNA := Lib.hid (ext_blk HNA.out HX.out)
        have KHNB := Lib.hid (ext_blk HNB.out HX.out)
        have KHNC := Lib.hid (ext_blk HNC.out HX.out)
        have KHCA := Lib.hid (ext_blk HCA.out HX.out)
        have KHCB := Lib.hid (ext_blk HCB.out HX.out)
        have cH1 := Lib.hid bH1
        have cH2 := Lib.hid bH2
        have cHH := Lib.hid bHH
        have cHNA := Lib.hid bHNA
        have cHNB := Lib.hid bHNB
        have cHNC := Lib.hid bHNC
        have cHCA := Lib.hid bHCA
        have cHCB := Lib.hid bHCB
        clear bH1 bH2 bHH bHNA bHNB bHNC bHCA bHCB
        go_wp2_with (first | (refine wpList_store_blk rfl _ _ _ rfl wc7.heap.size ((nb (((leN l : Nat) : Int) ^ leN hh)).map bval) rfl rfl _ _ HD.out (nb_len _) (nb_size _) (bval_one _) ?_; intro w5 hb5 hg5; have nHCA := KHCA.out.grown hg5 (by have := cHCA.out; simp; omega); have nHCB := KHCB.out.grown hg5 (by have := cHCB.out; simp; omega)) | (refine wpList_load_w (by rfl) _ _ rfl GD rfl _ _ _ _ nHCA Try.underlying23 (nb_size _) ?_) | (refine wpList_load_w (by rfl) _ _ rfl GE rfl _ _ _ _ nHCB Try.underlying23 (nb_size _) ?_) | (refine wpList_eql (by rfl) _ _ _ _ _ _ 32 _ (nb ((leN l : Nat) : Int)) zer true rfl (Or.inl ⟨rfl, decide_eq_true HZA.out⟩) Try.underlying23 Try.underlying5 num_info num_cells num_guard rfl rfl (nb_length _) zer_length ?_))
        obtain ⟨GF, hG⟩ : ∃ q, q = wc7.heap.size := ⟨_, rfl⟩
        have dH1 := cH1.out
        have dH2 := cH2.out
        have dHH := cHH.out
        have dHNA := cHNA.out
        have dHNB := cHNB.out
        have dHNC := cHNC.out
        have dHCA := cHCA.out
        have dHCB := cHCB.out
        rw [← hG] at hb5 hg5 ⊢
        have lH1GF : A < GF := by omega
        have H1 := Lib.hid (KH1.out.grown hg5 (by simp; omega))
        have lH2GF : (A + 1) < GF := by omega
        have H2 := Lib.hid (KH2.out.grown hg5 (by simp; omega))
        have lHHGF : G < GF := by omega
        have HH := Lib.hid (KHH.out.grown hg5 (by simp; omega))
        have lHNAGF : GA < GF := by omega
        have HNA := Lib.hid (KHNA.out.grown hg5 (by simp; omega))
        have lHNBGF : GB < GF := by omega
        have HNB := Lib.hid (KHNB.out.grown hg5 (by simp; omega))
        have lHNCGF : GC < GF := by omega
        have HNC := Lib.hid (KHNC.out.grown hg5 (by simp; omega))
        have lHCAGF : GD < GF := by omega
        have HCA := Lib.hid (KHCA.out.grown hg5 (by simp; omega))
        have lHCBGF : GE < GF := by omega
        have HCB := Lib.hid (KHCB.out.grown hg5 (by simp; omega))
        have hwGF : w.heap.size ≤ GF := by have := HE.out.size; omega
        have HE := Lib.hid (ext_grown (HE.out.trans HX.out) hg5 hwGF)
        have HHF := Lib.hid hb5
        clear hb5 hg5 hG HD HX KH1 cH1 dH1 KH2 cH2 dH2 KHH cHH dHH KHNA cHNA dHNA KHNB cHNB dHNB KHNC cHNC dHNC KHCA cHCA dHCA KHCB cHCB dHCB nHCA nHCB
        go_ret
        exact ⟨rfl, HE.out⟩
      by_cases hzb : nb ((leN m : Nat) : Int) = zer
      · have HZB := Lib.hid hzb
        clear hzb
        have bH1 := H1.out.lt
        have bH2 := H2.out.lt
        have bHH := HH.out.lt
        have bHNA := HNA.out.lt
        have bHNB := HNB.out.lt
        have bHNC := HNC.out.lt
        have bHCA := HCA.out.lt
        have bHCB := HCB.out.lt
        have HD := Lib.hid (Blk.made wc7 zero32 23)
        have HX := Lib.hid (Ext.alloc wc7 (.cells zero32.toArray 23))
        have KH1 := Lib.hid (ext_blk H1.out HX.out)
        have KH2 := Lib.hid (ext_blk H2.out HX.out)
        have KHH := Lib.hid (ext_blk HH.out HX.out)
        have KHNA := Lib.hid (ext_blk HNA.out HX.out)
        have KHNB := Lib.hid (ext_blk HNB.out HX.out)
        have KHNC := Lib.hid (ext_blk HNC.out HX.out)
        have KHCA := Lib.hid (ext_blk HCA.out HX.out)
        have KHCB := Lib.hid (ext_blk HCB.out HX.out)
        have cH1 := Lib.hid bH1
        have cH2 := Lib.hid bH2
        have cHH := Lib.hid bHH
        have cHNA := Lib.hid bHNA
        have cHNB := Lib.hid bHNB
        have cHNC := Lib.hid bHNC
        have cHCA := Lib.hid bHCA
        have cHCB := Lib.hid bHCB
        clear bH1 bH2 bHH bHNA bHNB bHNC bHCA bHCB
        go_wp2_with (first | (refine wpList_store_blk rfl _ _ _ rfl wc7.heap.size ((nb (((leN l : Nat) : Int) ^ leN hh)).map bval) rfl rfl _ _ HD.out (nb_len _) (nb_size _) (bval_one _) ?_; intro w5 hb5 hg5; have nHCA := KHCA.out.grown hg5 (by have := cHCA.out; simp; omega); have nHCB := KHCB.out.grown hg5 (by have := cHCB.out; simp; omega)) | (refine wpList_load_w (by rfl) _ _ rfl GD rfl _ _ _ _ nHCA Try.underlying23 (nb_size _) ?_) | (refine wpList_load_w (by rfl) _ _ rfl GE rfl _ _ _ _ nHCB Try.underlying23 (nb_size _) ?_) | (refine wpList_eql (by rfl) _ _ _ _ _ _ 32 _ (nb ((leN l : Nat) : Int)) zer false rfl (Or.inl ⟨rfl, decide_eq_false hza⟩) Try.underlying23 Try.underlying5 num_info num_cells num_guard rfl rfl (nb_length _) zer_length ?_) | (refine wpList_eql (by rfl) _ _ _ _ _ _ 32 _ (nb ((leN m : Nat) : Int)) zer true rfl (Or.inl ⟨rfl, decide_eq_true HZB.out⟩) Try.underlying23 Try.underlying5 num_info num_cells num_guard rfl rfl (nb_length _) zer_length ?_))
        obtain ⟨GF, hG⟩ : ∃ q, q = wc7.heap.size := ⟨_, rfl⟩
        have dH1 := cH1.out
        have dH2 := cH2.out
        have dHH := cHH.out
        have dHNA := cHNA.out
        have dHNB := cHNB.out
        have dHNC := cHNC.out
        have dHCA := cHCA.out
        have dHCB := cHCB.out
        rw [← hG] at hb5 hg5 ⊢
        have lH1GF : A < GF := by omega
        have H1 := Lib.hid (KH1.out.grown hg5 (by simp; omega))
        have lH2GF : (A + 1) < GF := by omega
        have H2 := Lib.hid (KH2.out.grown hg5 (by simp; omega))
        have lHHGF : G < GF := by omega
        have HH := Lib.hid (KHH.out.grown hg5 (by simp; omega))
        have lHNAGF : GA < GF := by omega
        have HNA := Lib.hid (KHNA.out.grown hg5 (by simp; omega))
        have lHNBGF : GB < GF := by omega
        have HNB := Lib.hid (KHNB.out.grown hg5 (by simp; omega))
        have lHNCGF : GC < GF := by omega
        have HNC := Lib.hid (KHNC.out.grown hg5 (by simp; omega))
        have lHCAGF : GD < GF := by omega
        have HCA := Lib.hid (KHCA.out.grown hg5 (by simp; omega))
        have lHCBGF : GE < GF := by omega
        have HCB := Lib.hid (KHCB.out.grown hg5 (by simp; omega))
        have hwGF : w.heap.size ≤ GF := by have := HE.out.size; omega
        have HE := Lib.hid (ext_grown (HE.out.trans HX.out) hg5 hwGF)
        have HHF := Lib.hid hb5
        clear hb5 hg5 hG HD HX KH1 cH1 dH1 KH2 cH2 dH2 KHH cHH dHH KHNA cHNA dHNA KHNB cHNB dHNB KHNC cHNC dHNC KHCA cHCA dHCA KHCB cHCB dHCB nHCA nHCB
        go_ret
        exact ⟨rfl, HE.out⟩
      have bH1 := H1.out.lt
      have bH2 := H2.out.lt
      have bHH := HH.out.lt
      have bHNA := HNA.out.lt
      have bHNB := HNB.out.lt
      have bHNC := HNC.out.lt
      have bHCA := HCA.out.lt
      have bHCB := HCB.out.lt
      have HD := Lib.hid (Blk.made wc7 zero32 23)
      have HX := Lib.hid (Ext.alloc wc7 (.cells zero32.toArray 23))
      have KH1 := Lib.hid (ext_blk H1.out HX.out)
      have KH2 := Lib.hid (ext_blk H2.out HX.out)
      have KHH := Lib.hid (ext_blk HH.out HX.out)
      have KHNA := Lib.hid (ext_blk HNA.out HX.out)
      have KHNB := Lib.hid (ext_blk HNB.out HX.out)
      have KHNC := Lib.hid (ext_blk HNC.out HX.out)
      have KHCA := Lib.hid (ext_blk HCA.out HX.out)
      have KHCB := Lib.hid (ext_blk HCB.out HX.out)
      have cH1 := Lib.hid bH1
      have cH2 := Lib.hid bH2
      have cHH := Lib.hid bHH
      have cHNA := Lib.hid bHNA
      have cHNB := Lib.hid bHNB
      have cHNC := Lib.hid bHNC
      have cHCA := Lib.hid bHCA
      have cHCB := Lib.hid bHCB
      clear bH1 bH2 bHH bHNA bHNB bHNC bHCA bHCB
      go_wp2_with (first | (refine wpList_store_blk rfl _ _ _ rfl wc7.heap.size ((nb (((leN l : Nat) : Int) ^ leN hh)).map bval) rfl rfl _ _ HD.out (nb_len _) (nb_size _) (bval_one _) ?_; intro w5 hb5 hg5; have nHCA := KHCA.out.grown hg5 (by have := cHCA.out; simp; omega); have nHCB := KHCB.out.grown hg5 (by have := cHCB.out; simp; omega)) | (refine wpList_load_w (by rfl) _ _ rfl GD rfl _ _ _ _ nHCA Try.underlying23 (nb_size _) ?_) | (refine wpList_load_w (by rfl) _ _ rfl GE rfl _ _ _ _ nHCB Try.underlying23 (nb_size _) ?_) | (refine wpList_eql (by rfl) _ _ _ _ _ _ 32 _ (nb ((leN l : Nat) : Int)) zer false rfl (Or.inl ⟨rfl, decide_eq_false hza⟩) Try.underlying23 Try.underlying5 num_info num_cells num_guard rfl rfl (nb_length _) zer_length ?_) | (refine wpList_eql (by rfl) _ _ _ _ _ _ 32 _ (nb ((leN m : Nat) : Int)) zer false rfl (Or.inl ⟨rfl, decide_eq_false hzb⟩) Try.underlying23 Try.underlying5 num_info num_cells num_guard rfl rfl (nb_length _) zer_length ?_))
      obtain ⟨GF, hG⟩ : ∃ q, q = wc7.heap.size := ⟨_, rfl⟩
      have dH1 := cH1.out
      have dH2 := cH2.out
      have dHH := cHH.out
      have dHNA := cHNA.out
      have dHNB := cHNB.out
      have dHNC := cHNC.out
      have dHCA := cHCA.out
      have dHCB := cHCB.out
      rw [← hG] at hb5 hg5 ⊢
      have lH1GF : A < GF := by omega
      have H1 := Lib.hid (KH1.out.grown hg5 (by simp; omega))
      have lH2GF : (A + 1) < GF := by omega
      have H2 := Lib.hid (KH2.out.grown hg5 (by simp; omega))
      have lHHGF : G < GF := by omega
      have HH := Lib.hid (KHH.out.grown hg5 (by simp; omega))
      have lHNAGF : GA < GF := by omega
      have HNA := Lib.hid (KHNA.out.grown hg5 (by simp; omega))
      have lHNBGF : GB < GF := by omega
      have HNB := Lib.hid (KHNB.out.grown hg5 (by simp; omega))
      have lHNCGF : GC < GF := by omega
      have HNC := Lib.hid (KHNC.out.grown hg5 (by simp; omega))
      have lHCAGF : GD < GF := by omega
      have HCA := Lib.hid (KHCA.out.grown hg5 (by simp; omega))
      have lHCBGF : GE < GF := by omega
      have HCB := Lib.hid (KHCB.out.grown hg5 (by simp; omega))
      have hwGF : w.heap.size ≤ GF := by have := HE.out.size; omega
      have HE := Lib.hid (ext_grown (HE.out.trans HX.out) hg5 hwGF)
      have HHF := Lib.hid hb5
      clear hb5 hg5 hG HD HX KH1 cH1 dH1 KH2 cH2 dH2 KHH cHH dHH KHNA cHNA dHNA KHNB cHNB dHNB KHNC cHNC dHNC KHCA cHCA dHCA KHCB cHCB dHCB nHCA nHCB
      have HPC2 : Hid (pc = (pa == pb)) := Lib.hid (by rw [HPC.out, HPA.out, HPB.out]; exact rootB_mul hza hzb)
      have HZA := Lib.hid hza
      have HZB := Lib.hid hzb
      clear hza hzb
      cases pa
      · cases pb
        · have hpc2 : pc = true := HPC2.out
          subst hpc2
          refine wp_region_all (by kernel_rfl) (by kernel_rfl) ?_
          refine det_move _ (.bool false) (by rfl) rfl rfl ?_
          simp only [Act.put, List.setIfInBounds_toArray, List.set_cons_zero, List.set_cons_succ]
          refine det_load _ _ GF ((nb (((leN l : Nat) : Int) ^ leN hh)).map bval) _ (by rfl) rfl rfl (fun w hw => ext_range HHF.out hw) Try.underlying23 rfl (nb_size _) ?_
          simp only [Act.put, List.setIfInBounds_toArray, List.set_cons_zero, List.set_cons_succ]
          refine det_call _ _ _ [.int .u8 ((1 : UInt8).toNat : Int)] (.agg ((smL 1).map bval).toArray) (by rfl) rfl Try.call25 rfl (fun w hw => small_any 1 w) ?_
          simp only [Act.put, List.setIfInBounds_toArray, List.set_cons_zero, List.set_cons_succ]
          refine det_eql _ _ _ _ _ _ 32 _ (nb (((leN l : Nat) : Int) ^ leN hh)) (smL 1) false (by rfl) rfl (Or.inl ⟨rfl, decide_eq_false (by rw [HHH.out]; exact half_not HZA.out HPA.out.symm)⟩) Try.underlying23 Try.underlying5 num_info num_cells num_guard rfl rfl (nb_length _) (smL_length _) ?_
          simp only [Act.put, List.setIfInBounds_toArray, List.set_cons_zero, List.set_cons_succ]
          refine det_beq _ _ _ _ false false true (by rfl) rfl rfl rfl Try.underlying4 rfl ?_
          simp only [Act.put, List.setIfInBounds_toArray, List.set_cons_zero, List.set_cons_succ]
          refine det_move _ (.bool true) (by rfl) rfl rfl ?_
          simp only [Act.put, List.setIfInBounds_toArray, List.set_cons_zero, List.set_cons_succ]
          refine det_move _ (.bool false) (by rfl) rfl rfl ?_
          simp only [Act.put, List.setIfInBounds_toArray, List.set_cons_zero, List.set_cons_succ]
          refine det_move _ (.bool false) (by rfl) rfl rfl ?_
          simp only [Act.put, List.setIfInBounds_toArray, List.set_cons_zero, List.set_cons_succ]
          refine det_load _ _ GF ((nb (((leN l : Nat) : Int) ^ leN hh)).map bval) _ (by rfl) rfl rfl (fun w hw => ext_range HHF.out hw) Try.underlying23 rfl (nb_size _) ?_
          simp only [Act.put, List.setIfInBounds_toArray, List.set_cons_zero, List.set_cons_succ]
          refine det_val (.agg (zer.map bval).toArray) (by rfl) (fun w hw => by unfold execOp; simp [build_zer]) ?_
          simp only [Act.put, List.setIfInBounds_toArray, List.set_cons_zero, List.set_cons_succ]
          refine det_call _ _ _ [.int .u8 ((1 : UInt8).toNat : Int)] (.agg ((smL 1).map bval).toArray) (by rfl) rfl Try.call25 rfl (fun w hw => small_any 1 w) ?_
          simp only [Act.put, List.setIfInBounds_toArray, List.set_cons_zero, List.set_cons_succ]
          refine det_call _ _ _ [.agg (zer.map bval).toArray, .agg ((smL 1).map bval).toArray] (.agg ((nb (((leN zer : Nat) : Int) - ((leN (smL 1) : Nat) : Int))).map bval).toArray) (by rfl) rfl Try.call16 rfl (fun w hw => Sub_num zer (smL 1) w zer_length (smL_length _)) ?_
          simp only [Act.put, List.setIfInBounds_toArray, List.set_cons_zero, List.set_cons_succ]
          refine det_eql _ _ _ _ _ _ 32 _ (nb (((leN l : Nat) : Int) ^ leN hh)) (nb (((leN zer : Nat) : Int) - ((leN (smL 1) : Nat) : Int))) true (by rfl) rfl (Or.inl ⟨rfl, decide_eq_true (by rw [HHH.out]; exact half_minus HZA.out HPA.out.symm)⟩) Try.underlying23 Try.underlying5 num_info num_cells num_guard rfl rfl (nb_length _) (nb_length _) ?_
          simp only [Act.put, List.setIfInBounds_toArray, List.set_cons_zero, List.set_cons_succ]
          refine det_pick _ _ _ false (.bool true) (by rfl) rfl rfl rfl ?_
          simp only [Act.put, List.setIfInBounds_toArray, List.set_cons_zero, List.set_cons_succ]
          refine det_pick _ _ _ true (.bool true) (by rfl) rfl rfl rfl ?_
          simp only [Act.put, List.setIfInBounds_toArray, List.set_cons_zero, List.set_cons_succ]
          refine det_move _ (.bool true) (by rfl) rfl rfl ?_
          simp only [Act.put, List.setIfInBounds_toArray, List.set_cons_zero, List.set_cons_succ]
          refine det_move _ (.bool true) (by rfl) rfl rfl ?_
          simp only [Act.put, List.setIfInBounds_toArray, List.set_cons_zero, List.set_cons_succ]
          refine det_move _ (.bool false) (by rfl) rfl rfl ?_
          simp only [Act.put, List.setIfInBounds_toArray, List.set_cons_zero, List.set_cons_succ]
          refine det_move _ (.bool false) (by rfl) rfl rfl ?_
          simp only [Act.put, List.setIfInBounds_toArray, List.set_cons_zero, List.set_cons_succ]
          refine det_beq _ _ _ _ false false true (by rfl) rfl rfl rfl Try.underlying4 rfl ?_
          simp only [Act.put, List.setIfInBounds_toArray, List.set_cons_zero, List.set_cons_succ]
          refine det_beq _ _ _ _ true true true (by rfl) rfl rfl rfl Try.underlying4 rfl ?_
          simp only [Act.put, List.setIfInBounds_toArray, List.set_cons_zero, List.set_cons_succ]
          refine det_pick _ _ _ true (.bool true) (by rfl) rfl rfl rfl ?_
          simp only [Act.put, List.setIfInBounds_toArray, List.set_cons_zero, List.set_cons_succ]
          refine det_assign _ (.bool true) (by rfl) rfl rfl ?_
          simp only [Act.put, List.setIfInBounds_toArray, List.set_cons_zero, List.set_cons_succ]
          refine det_nil (fun w9 hw9 => ?_)
          go_wp2_with fail
          go_ret
          exact ⟨rfl, HE.out.trans hw9⟩
        · have hpc2 : pc = false := HPC2.out
          subst hpc2
          refine wp_region_all (by kernel_rfl) (by kernel_rfl) ?_
          refine det_move _ (.bool false) (by rfl) rfl rfl ?_
          simp only [Act.put, List.setIfInBounds_toArray, List.set_cons_zero, List.set_cons_succ]
          refine det_load _ _ GF ((nb (((leN l : Nat) : Int) ^ leN hh)).map bval) _ (by rfl) rfl rfl (fun w hw => ext_range HHF.out hw) Try.underlying23 rfl (nb_size _) ?_
          simp only [Act.put, List.setIfInBounds_toArray, List.set_cons_zero, List.set_cons_succ]
          refine det_call _ _ _ [.int .u8 ((1 : UInt8).toNat : Int)] (.agg ((smL 1).map bval).toArray) (by rfl) rfl Try.call25 rfl (fun w hw => small_any 1 w) ?_
          simp only [Act.put, List.setIfInBounds_toArray, List.set_cons_zero, List.set_cons_succ]
          refine det_eql _ _ _ _ _ _ 32 _ (nb (((leN l : Nat) : Int) ^ leN hh)) (smL 1) false (by rfl) rfl (Or.inl ⟨rfl, decide_eq_false (by rw [HHH.out]; exact half_not HZA.out HPA.out.symm)⟩) Try.underlying23 Try.underlying5 num_info num_cells num_guard rfl rfl (nb_length _) (smL_length _) ?_
          simp only [Act.put, List.setIfInBounds_toArray, List.set_cons_zero, List.set_cons_succ]
          refine det_beq _ _ _ _ false false true (by rfl) rfl rfl rfl Try.underlying4 rfl ?_
          simp only [Act.put, List.setIfInBounds_toArray, List.set_cons_zero, List.set_cons_succ]
          refine det_move _ (.bool true) (by rfl) rfl rfl ?_
          simp only [Act.put, List.setIfInBounds_toArray, List.set_cons_zero, List.set_cons_succ]
          refine det_move _ (.bool false) (by rfl) rfl rfl ?_
          simp only [Act.put, List.setIfInBounds_toArray, List.set_cons_zero, List.set_cons_succ]
          refine det_move _ (.bool false) (by rfl) rfl rfl ?_
          simp only [Act.put, List.setIfInBounds_toArray, List.set_cons_zero, List.set_cons_succ]
          refine det_load _ _ GF ((nb (((leN l : Nat) : Int) ^ leN hh)).map bval) _ (by rfl) rfl rfl (fun w hw => ext_range HHF.out hw) Try.underlying23 rfl (nb_size _) ?_
          simp only [Act.put, List.setIfInBounds_toArray, List.set_cons_zero, List.set_cons_succ]
          refine det_val (.agg (zer.map bval).toArray) (by rfl) (fun w hw => by unfold execOp; simp [build_zer]) ?_
          simp only [Act.put, List.setIfInBounds_toArray, List.set_cons_zero, List.set_cons_succ]
          refine det_call _ _ _ [.int .u8 ((1 : UInt8).toNat : Int)] (.agg ((smL 1).map bval).toArray) (by rfl) rfl Try.call25 rfl (fun w hw => small_any 1 w) ?_
          simp only [Act.put, List.setIfInBounds_toArray, List.set_cons_zero, List.set_cons_succ]
          refine det_call _ _ _ [.agg (zer.map bval).toArray, .agg ((smL 1).map bval).toArray] (.agg ((nb (((leN zer : Nat) : Int) - ((leN (smL 1) : Nat) : Int))).map bval).toArray) (by rfl) rfl Try.call16 rfl (fun w hw => Sub_num zer (smL 1) w zer_length (smL_length _)) ?_
          simp only [Act.put, List.setIfInBounds_toArray, List.set_cons_zero, List.set_cons_succ]
          refine det_eql _ _ _ _ _ _ 32 _ (nb (((leN l : Nat) : Int) ^ leN hh)) (nb (((leN zer : Nat) : Int) - ((leN (smL 1) : Nat) : Int))) true (by rfl) rfl (Or.inl ⟨rfl, decide_eq_true (by rw [HHH.out]; exact half_minus HZA.out HPA.out.symm)⟩) Try.underlying23 Try.underlying5 num_info num_cells num_guard rfl rfl (nb_length _) (nb_length _) ?_
          simp only [Act.put, List.setIfInBounds_toArray, List.set_cons_zero, List.set_cons_succ]
          refine det_pick _ _ _ false (.bool true) (by rfl) rfl rfl rfl ?_
          simp only [Act.put, List.setIfInBounds_toArray, List.set_cons_zero, List.set_cons_succ]
          refine det_pick _ _ _ true (.bool true) (by rfl) rfl rfl rfl ?_
          simp only [Act.put, List.setIfInBounds_toArray, List.set_cons_zero, List.set_cons_succ]
          refine det_move _ (.bool true) (by rfl) rfl rfl ?_
          simp only [Act.put, List.setIfInBounds_toArray, List.set_cons_zero, List.set_cons_succ]
          refine det_move _ (.bool false) (by rfl) rfl rfl ?_
          simp only [Act.put, List.setIfInBounds_toArray, List.set_cons_zero, List.set_cons_succ]
          refine det_move _ (.bool false) (by rfl) rfl rfl ?_
          simp only [Act.put, List.setIfInBounds_toArray, List.set_cons_zero, List.set_cons_succ]
          refine det_move _ (.bool true) (by rfl) rfl rfl ?_
          simp only [Act.put, List.setIfInBounds_toArray, List.set_cons_zero, List.set_cons_succ]
          refine det_beq _ _ _ _ false true false (by rfl) rfl rfl rfl Try.underlying4 rfl ?_
          simp only [Act.put, List.setIfInBounds_toArray, List.set_cons_zero, List.set_cons_succ]
          refine det_beq _ _ _ _ false false true (by rfl) rfl rfl rfl Try.underlying4 rfl ?_
          simp only [Act.put, List.setIfInBounds_toArray, List.set_cons_zero, List.set_cons_succ]
          refine det_pick _ _ _ true (.bool true) (by rfl) rfl rfl rfl ?_
          simp only [Act.put, List.setIfInBounds_toArray, List.set_cons_zero, List.set_cons_succ]
          refine det_assign _ (.bool true) (by rfl) rfl rfl ?_
          simp only [Act.put, List.setIfInBounds_toArray, List.set_cons_zero, List.set_cons_succ]
          refine det_nil (fun w9 hw9 => ?_)
          go_wp2_with fail
          go_ret
          exact ⟨rfl, HE.out.trans hw9⟩
      · cases pb
        · have hpc2 : pc = false := HPC2.out
          subst hpc2
          refine wp_region_all (by kernel_rfl) (by kernel_rfl) ?_
          refine det_move _ (.bool true) (by rfl) rfl rfl ?_
          simp only [Act.put, List.setIfInBounds_toArray, List.set_cons_zero, List.set_cons_succ]
          refine det_load _ _ GF ((nb (((leN l : Nat) : Int) ^ leN hh)).map bval) _ (by rfl) rfl rfl (fun w hw => ext_range HHF.out hw) Try.underlying23 rfl (nb_size _) ?_
          simp only [Act.put, List.setIfInBounds_toArray, List.set_cons_zero, List.set_cons_succ]
          refine det_call _ _ _ [.int .u8 ((1 : UInt8).toNat : Int)] (.agg ((smL 1).map bval).toArray) (by rfl) rfl Try.call25 rfl (fun w hw => small_any 1 w) ?_
          simp only [Act.put, List.setIfInBounds_toArray, List.set_cons_zero, List.set_cons_succ]
          refine det_eql _ _ _ _ _ _ 32 _ (nb (((leN l : Nat) : Int) ^ leN hh)) (smL 1) true (by rfl) rfl (Or.inl ⟨rfl, decide_eq_true (by rw [HHH.out]; exact half_one HZA.out HPA.out.symm)⟩) Try.underlying23 Try.underlying5 num_info num_cells num_guard rfl rfl (nb_length _) (smL_length _) ?_
          simp only [Act.put, List.setIfInBounds_toArray, List.set_cons_zero, List.set_cons_succ]
          refine det_beq _ _ _ _ true true true (by rfl) rfl rfl rfl Try.underlying4 rfl ?_
          simp only [Act.put, List.setIfInBounds_toArray, List.set_cons_zero, List.set_cons_succ]
          refine det_move _ (.bool true) (by rfl) rfl rfl ?_
          simp only [Act.put, List.setIfInBounds_toArray, List.set_cons_zero, List.set_cons_succ]
          refine det_move _ (.bool true) (by rfl) rfl rfl ?_
          simp only [Act.put, List.setIfInBounds_toArray, List.set_cons_zero, List.set_cons_succ]
          refine det_move _ (.bool true) (by rfl) rfl rfl ?_
          simp only [Act.put, List.setIfInBounds_toArray, List.set_cons_zero, List.set_cons_succ]
          refine det_skip (by rfl) ?_
          simp only [Act.put, List.setIfInBounds_toArray, List.set_cons_zero, List.set_cons_succ]
          refine det_skip (by rfl) ?_
          simp only [Act.put, List.setIfInBounds_toArray, List.set_cons_zero, List.set_cons_succ]
          refine det_skip (by rfl) ?_
          simp only [Act.put, List.setIfInBounds_toArray, List.set_cons_zero, List.set_cons_succ]
          refine det_skip (by rfl) ?_
          simp only [Act.put, List.setIfInBounds_toArray, List.set_cons_zero, List.set_cons_succ]
          refine det_skip (by rfl) ?_
          simp only [Act.put, List.setIfInBounds_toArray, List.set_cons_zero, List.set_cons_succ]
          refine det_pick _ _ _ true (.bool true) (by rfl) rfl rfl rfl ?_
          simp only [Act.put, List.setIfInBounds_toArray, List.set_cons_zero, List.set_cons_succ]
          refine det_pick _ _ _ true (.bool true) (by rfl) rfl rfl rfl ?_
          simp only [Act.put, List.setIfInBounds_toArray, List.set_cons_zero, List.set_cons_succ]
          refine det_move _ (.bool true) (by rfl) rfl rfl ?_
          simp only [Act.put, List.setIfInBounds_toArray, List.set_cons_zero, List.set_cons_succ]
          refine det_move _ (.bool false) (by rfl) rfl rfl ?_
          simp only [Act.put, List.setIfInBounds_toArray, List.set_cons_zero, List.set_cons_succ]
          refine det_move _ (.bool true) (by rfl) rfl rfl ?_
          simp only [Act.put, List.setIfInBounds_toArray, List.set_cons_zero, List.set_cons_succ]
          refine det_move _ (.bool false) (by rfl) rfl rfl ?_
          simp only [Act.put, List.setIfInBounds_toArray, List.set_cons_zero, List.set_cons_succ]
          refine det_beq _ _ _ _ true false false (by rfl) rfl rfl rfl Try.underlying4 rfl ?_
          simp only [Act.put, List.setIfInBounds_toArray, List.set_cons_zero, List.set_cons_succ]
          refine det_beq _ _ _ _ false false true (by rfl) rfl rfl rfl Try.underlying4 rfl ?_
          simp only [Act.put, List.setIfInBounds_toArray, List.set_cons_zero, List.set_cons_succ]
          refine det_pick _ _ _ true (.bool true) (by rfl) rfl rfl rfl ?_
          simp only [Act.put, List.setIfInBounds_toArray, List.set_cons_zero, List.set_cons_succ]
          refine det_assign _ (.bool true) (by rfl) rfl rfl ?_
          simp only [Act.put, List.setIfInBounds_toArray, List.set_cons_zero, List.set_cons_succ]
          refine det_nil (fun w9 hw9 => ?_)
          go_wp2_with fail
          go_ret
          exact ⟨rfl, HE.out.trans hw9⟩
        · have hpc2 : pc = true := HPC2.out
          subst hpc2
          refine wp_region_all (by kernel_rfl) (by kernel_rfl) ?_
          refine det_move _ (.bool true) (by rfl) rfl rfl ?_
          simp only [Act.put, List.setIfInBounds_toArray, List.set_cons_zero, List.set_cons_succ]
          refine det_load _ _ GF ((nb (((leN l : Nat) : Int) ^ leN hh)).map bval) _ (by rfl) rfl rfl (fun w hw => ext_range HHF.out hw) Try.underlying23 rfl (nb_size _) ?_
          simp only [Act.put, List.setIfInBounds_toArray, List.set_cons_zero, List.set_cons_succ]
          refine det_call _ _ _ [.int .u8 ((1 : UInt8).toNat : Int)] (.agg ((smL 1).map bval).toArray) (by rfl) rfl Try.call25 rfl (fun w hw => small_any 1 w) ?_
          simp only [Act.put, List.setIfInBounds_toArray, List.set_cons_zero, List.set_cons_succ]
          refine det_eql _ _ _ _ _ _ 32 _ (nb (((leN l : Nat) : Int) ^ leN hh)) (smL 1) true (by rfl) rfl (Or.inl ⟨rfl, decide_eq_true (by rw [HHH.out]; exact half_one HZA.out HPA.out.symm)⟩) Try.underlying23 Try.underlying5 num_info num_cells num_guard rfl rfl (nb_length _) (smL_length _) ?_
          simp only [Act.put, List.setIfInBounds_toArray, List.set_cons_zero, List.set_cons_succ]
          refine det_beq _ _ _ _ true true true (by rfl) rfl rfl rfl Try.underlying4 rfl ?_
          simp only [Act.put, List.setIfInBounds_toArray, List.set_cons_zero, List.set_cons_succ]
          refine det_move _ (.bool true) (by rfl) rfl rfl ?_
          simp only [Act.put, List.setIfInBounds_toArray, List.set_cons_zero, List.set_cons_succ]
          refine det_move _ (.bool true) (by rfl) rfl rfl ?_
          simp only [Act.put, List.setIfInBounds_toArray, List.set_cons_zero, List.set_cons_succ]
          refine det_move _ (.bool true) (by rfl) rfl rfl ?_
          simp only [Act.put, List.setIfInBounds_toArray, List.set_cons_zero, List.set_cons_succ]
          refine det_skip (by rfl) ?_
          simp only [Act.put, List.setIfInBounds_toArray, List.set_cons_zero, List.set_cons_succ]
          refine det_skip (by rfl) ?_
          simp only [Act.put, List.setIfInBounds_toArray, List.set_cons_zero, List.set_cons_succ]
          refine det_skip (by rfl) ?_
          simp only [Act.put, List.setIfInBounds_toArray, List.set_cons_zero, List.set_cons_succ]
          refine det_skip (by rfl) ?_
          simp only [Act.put, List.setIfInBounds_toArray, List.set_cons_zero, List.set_cons_succ]
          refine det_skip (by rfl) ?_
          simp only [Act.put, List.setIfInBounds_toArray, List.set_cons_zero, List.set_cons_succ]
          refine det_pick _ _ _ true (.bool true) (by rfl) rfl rfl rfl ?_
          simp only [Act.put, List.setIfInBounds_toArray, List.set_cons_zero, List.set_cons_succ]
          refine det_pick _ _ _ true (.bool true) (by rfl) rfl rfl rfl ?_
          simp only [Act.put, List.setIfInBounds_toArray, List.set_cons_zero, List.set_cons_succ]
          refine det_move _ (.bool true) (by rfl) rfl rfl ?_
          simp only [Act.put, List.setIfInBounds_toArray, List.set_cons_zero, List.set_cons_succ]
          refine det_move _ (.bool true) (by rfl) rfl rfl ?_
          simp only [Act.put, List.setIfInBounds_toArray, List.set_cons_zero, List.set_cons_succ]
          refine det_move _ (.bool true) (by rfl) rfl rfl ?_
          simp only [Act.put, List.setIfInBounds_toArray, List.set_cons_zero, List.set_cons_succ]
          refine det_move _ (.bool true) (by rfl) rfl rfl ?_
          simp only [Act.put, List.setIfInBounds_toArray, List.set_cons_zero, List.set_cons_succ]
          refine det_beq _ _ _ _ true true true (by rfl) rfl rfl rfl Try.underlying4 rfl ?_
          simp only [Act.put, List.setIfInBounds_toArray, List.set_cons_zero, List.set_cons_succ]
          refine det_beq _ _ _ _ true true true (by rfl) rfl rfl rfl Try.underlying4 rfl ?_
          simp only [Act.put, List.setIfInBounds_toArray, List.set_cons_zero, List.set_cons_succ]
          refine det_pick _ _ _ true (.bool true) (by rfl) rfl rfl rfl ?_
          simp only [Act.put, List.setIfInBounds_toArray, List.set_cons_zero, List.set_cons_succ]
          refine det_assign _ (.bool true) (by rfl) rfl rfl ?_
          simp only [Act.put, List.setIfInBounds_toArray, List.set_cons_zero, List.set_cons_succ]
          refine det_nil (fun w9 hw9 => ?_)
          go_wp2_with fail
          go_ret
          exact ⟨rfl, HE.out.trans hw9⟩

end Go.Proofs.Ytmiapjmdolecbaa
