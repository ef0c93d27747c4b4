/- The walk of the document's own powers. Each theorem names its own conditions. -/
import Derived.Test.YtdjdalaghfknoaaRefMulW
import Derived.Test.YtdjdalaghfknoaaRefOutW
namespace Go.Proofs.Ytdjdalaghfknoaa
open Go.RowKit
set_option linter.unusedVariables false

theorem half_step {E k : Nat} (hk : k < 256) : E / 2 ^ (255 - k) = 2 * (E / 2 ^ (256 - k)) + E / 2 ^ (255 - k) % 2 := by
  have e : E / 2 ^ (256 - k) = E / 2 ^ (255 - k) / 2 := by
    rw [Nat.div_div_eq_div_mul, ← Nat.pow_succ]
    congr 2
    omega
  rw [e]
  omega

theorem el_len {zs : List Int} {x : Int} (h : IsEl (.agg (ints .i64 zs).toArray) x) : zs.length = 16 := by
  obtain ⟨zs', e, h, _⟩ := h
  have := congrArg (fun v : Value => match v with | .agg c => c.size | _ => 0) e
  simp [ints] at this
  omega

set_option maxRecDepth 100000 in
set_option maxHeartbeats 4000000 in
theorem rpow_any (u : Value) (x : Int) (l : List UInt8) (w : World) (hu : IsEl u x) (hl : l.length = 32) :
    Calls Try.prog 43 #[u, .agg (l.map bval).toArray] w fun e w' => ∃ r, e = .returned r ∧ IsEl r (x ^ leN l) ∧ Below w.heap.size w w' := by
  have HU := Lib.hid hu
  obtain ⟨xs, rfl, la, ba, qa, va⟩ := hu
  have HL := Lib.hid hl
  have LA := Lib.hid la
  have HBX := Lib.hid (boxes3 w (ints .i64 xs) (l.map bval) (ints .i64 (List.replicate 16 0)) 48 23 48)
  have HONE := Lib.hid (rone_el 1 (((w.alloc (.cells (ints .i64 xs).toArray 48)).alloc (.cells (l.map bval).toArray 23)).alloc (.cells (ints .i64 (List.replicate 16 0)).toArray 48)) (by omega) (by omega))
  clear la ba va hl
  go_enter Try.func43, Try.ntmps43
  go_wp2_with fail
  change Calls _ _ _ (((w.alloc (.cells (ints .i64 xs).toArray 48)).alloc (.cells (l.map bval).toArray 23)).alloc (.cells (ints .i64 (List.replicate 16 0)).toArray 48)) _
  generalize ((w.alloc (.cells (ints .i64 xs).toArray 48)).alloc (.cells (l.map bval).toArray 23)).alloc (.cells (ints .i64 (List.replicate 16 0)).toArray 48) = w0 at *
  obtain ⟨h1, h2, h3, h4⟩ := HBX.out
  obtain ⟨A, hA⟩ : ∃ A, A = w.heap.size := ⟨_, rfl⟩
  rw [← hA] at h1 h2 h3 ⊢
  have hA2 : w.heap.size ≤ A := by omega
  have H1 := Lib.hid h1
  have H2 := Lib.hid h2
  have H3 := Lib.hid h3
  have H4 := Lib.hid h4
  clear h1 h2 h3 h4 HBX hA
  refine HONE.out.mono ?_
  rintro e w1 ⟨r1, rfl, hr1, hb1⟩
  obtain ⟨z1, rfl, lz1, bz1, qz1, vz1⟩ := id hr1
  obtain ⟨X, hX⟩ : ∃ X, X = w1.heap.size := ⟨_, rfl⟩
  have h11 := H1.out.same (hb1.block _ H1.out.lt)
  have h21 := H2.out.same (hb1.block _ H2.out.lt)
  have h31 := H3.out.same (hb1.block _ H3.out.lt)
  have hXA : A + 1 + 1 < X := by have := h31.lt; omega
  have hmk := Blk.made w1 (ints .i64 (List.replicate 16 0)) 48
  have hbel := H4.out.trans (hb1.mono H4.out.size)
  have K1 := Lib.hid (h11.alloc (.cells (ints .i64 (List.replicate 16 0)).toArray 48))
  have K2 := Lib.hid (h21.alloc (.cells (ints .i64 (List.replicate 16 0)).toArray 48))
  have K3 := Lib.hid (h31.alloc (.cells (ints .i64 (List.replicate 16 0)).toArray 48))
  have K4 := Lib.hid (hbel.alloc hbel.size (.cells (ints .i64 (List.replicate 16 0)).toArray 48))
  have K5 := Lib.hid hmk
  have hi1 : Hid ((Try.prog.info? 48).map (·.size) = some (ints .i64 z1).length) := Lib.hid (by rw [ints_length, lz1]; exact Try.arr48)
  have hl1 : Hid ((ints .i64 z1).length = (ints .i64 (List.replicate 16 0)).length) := Lib.hid (by rw [ints_length, ints_length, lz1]; rfl)
  have HR1 := Lib.hid hr1
  clear hb1 h11 h21 h31 hmk hbel lz1 bz1 vz1 hr1
  go_wp2_with (refine wpList_store_blk rfl _ _ _ rfl w1.heap.size (ints .i64 z1) rfl rfl _ _ K5.out hl1.out hi1.out (ints_one _ _) ?_; intro w5 hb5 hg5)
  rw [← hX] at hb5 hg5 ⊢
  have J1 := Lib.hid (K1.out.grown hg5 (by simp; omega))
  have J2 := Lib.hid (K2.out.grown hg5 (by simp; omega))
  have J3 := Lib.hid (K3.out.grown hg5 (by simp; omega))
  have J4 := Lib.hid (K4.out.grown hg5 K4.out.size (fun r hr => by cases hr; omega))
  have J5 := Lib.hid hb5
  have hE : leN l < 2 ^ 256 := by
    have := leN_lt l
    rw [HL.out] at this
    have e : (256 : Nat) ^ 32 = 2 ^ 256 := by decide +kernel
    rw [e] at this
    exact this
  have HE := Lib.hid hE
  clear hb5 hg5 hX K1 K2 K3 K4 K5 H1 H2 H3 H4 hl1 hi1 HONE hE
  go_loopw [6] (fun i wr => ∃ (k : Nat) (zs : List Int), k ≤ 256 ∧ i = .int .i64 (255 - (k : Int)) ∧ IsEl (.agg (ints .i64 zs).toArray) (x ^ (leN l / 2 ^ (256 - k))) ∧ Blk wr A (ints .i64 xs) 48 ∧ Blk wr (A + 1) (l.map bval) 23 ∧ Blk wr (A + 1 + 1) (ints .i64 (List.replicate 16 0)) 48 ∧ Blk wr X (ints .i64 zs) 48 ∧ Below w.heap.size w wr) (fun i _ => (intOf i + 1).toNat)
  case atStart => exact ⟨0, z1, by omega, rfl, by rw [Nat.sub_zero, Nat.div_eq_of_lt HE.out, Int.pow_zero]; exact HR1.out, J1.out, J2.out, J3.out, J5.out, J4.out⟩
  case round =>
    clear J1 J2 J3 J4 J5 HR1
    obtain ⟨k, zs, hk, rfl, hel, hb1, hb2, hb3, hbx, hbel⟩ := hrel
    have i0' : (0 : Int) ≤ (k : Int) := Int.natCast_nonneg _
    by_cases hlt : k < 256
    · have i1 : (0 : Int) ≤ 255 - (k : Int) := by omega
      have i2 : (k : Int) ≤ 255 := by omega
      have hsq := rmul_any _ _ _ _ wr hel hel
      have hzl : zs.length = 16 := by
        obtain ⟨zs', e, h, _⟩ := hel
        have := congrArg (fun v : Value => match v with | .agg c => c.size | _ => 0) e
        simp [ints] at this
        omega
      have e1 := hb2.cell ((255 - k) / 8)
      rw [bval_get (by have := HL.out; omega)] at e1
      have H1 := Lib.hid hb1
      have H2 := Lib.hid hb2
      have H3 := Lib.hid hb3
      have HX := Lib.hid hbx
      have HB := Lib.hid hbel
      have HEL := Lib.hid hel
      have HSQ := Lib.hid hsq
      have hiz : Hid ((Try.prog.info? 48).map (·.size) = some (ints .i64 zs).length) := Lib.hid (by rw [ints_length, hzl]; exact Try.arr48)
      clear hb1 hb2 hb3 hbx hbel hel hsq
      go_wp2_with (refine wpList_load_blk rfl _ _ rfl X rfl _ _ _ _ HX.out Try.underlying48 hiz.out ?_)
      refine HSQ.out.mono ?_
      rintro e w6 ⟨r6, rfl, hr6, hb6⟩
      obtain ⟨z6, rfl, lz6, bz6, qz6, vz6⟩ := id hr6
      have e16 := hb6.cell (p := ⟨A + 1, (255 - k) / 8, none⟩) (H2.out.lt)
      rw [e1] at e16
      have K1 := Lib.hid (H1.out.same (hb6.block _ H1.out.lt))
      have K2 := Lib.hid (H2.out.same (hb6.block _ H2.out.lt))
      have K3 := Lib.hid (H3.out.same (hb6.block _ H3.out.lt))
      have KX := Lib.hid (HX.out.same (hb6.block _ HX.out.lt))
      have KB := Lib.hid (HB.out.trans (hb6.mono HB.out.size))
      have hi6 : Hid ((Try.prog.info? 48).map (·.size) = some (ints .i64 z6).length) := Lib.hid (by rw [ints_length, lz6]; exact Try.arr48)
      have hl6 : Hid ((ints .i64 z6).length = (ints .i64 zs).length) := Lib.hid (by rw [ints_length, ints_length, lz6, hzl])
      have HR6 := Lib.hid hr6
      clear hb6 lz6 bz6 vz6 hr6 e1 H1 H2 H3 HX HB hzl
      generalize hbt : (l.getD ((255 - k) / 8) 0).toNat = bt at *
      have HBT := Lib.hid hbt
      clear hbt
      have s1 : ((255 - (k : Int)) / 8).toNat = (255 - k) / 8 := by omega
      have s2 : (0 : Int) ≤ (255 - (k : Int)) / 8 := by omega
      have s3 : (255 - (k : Int)) / 8 < 32 := by omega
      have s4 : (0 : Int) ≤ (255 - (k : Int)) % 8 := by omega
      have s5 : (255 - (k : Int)) % 8 < 8 := by omega
      have hsplit := half_step (E := leN l) hlt
      have hbit := leN_bit l (255 - k) (by have := HL.out; omega)
      rw [HBT.out] at hbit
      have hcast : (bt : Int) / 2 ^ ((255 - k) % 8) = ((bt / 2 ^ ((255 - k) % 8) : Nat) : Int) := by
        rw [Int.natCast_ediv, Int.natCast_pow]
        rfl
      have e255 : 256 - (k + 1) = 255 - k := by omega
      by_cases hb1 : leN l / 2 ^ (255 - k) % 2 = 1
      · have hq : (bits .and .u8 ((bt : Int) / 2 ^ ((255 - k) % 8)) 1 == 1) = true := by
          rw [hcast, andU1, ← hbit, hb1]
          rfl
        have hgoal : Hid (x ^ (leN l / 2 ^ (256 - (k + 1))) = x ^ (leN l / 2 ^ (256 - k)) * x ^ (leN l / 2 ^ (256 - k)) * x) := Lib.hid (by
          rw [e255, hsplit, hb1, Int.pow_succ, Nat.two_mul, Int.pow_add])
        have hiX : Hid ((Try.prog.info? 48).map (·.size) = some (ints .i64 xs).length) := Lib.hid (by rw [ints_length, LA.out]; exact Try.arr48)
        clear hsplit hbit hcast e255 hb1
        go_wp2_with (first | (refine wpList_store_blk rfl _ _ _ rfl X (ints .i64 z6) rfl rfl _ _ KX.out hl6.out hi6.out (ints_one _ _) ?_; intro w7 hb7 hg7; have e7 := (hg7.cell_far ⟨A + 1, (255 - k) / 8, none⟩ (K2.out.lt) (by simp; omega)).trans e16; have k7 := K1.out.grown hg7 (by simp; omega)) | (refine wpList_load_blk rfl _ _ rfl X rfl _ _ _ _ hb7 Try.underlying48 hi6.out ?_) | (refine wpList_load_blk rfl _ _ rfl A rfl _ _ _ _ k7 Try.underlying48 hiX.out ?_))
        have L2 := Lib.hid (K2.out.grown hg7 (by simp; omega))
        have L3 := Lib.hid (K3.out.grown hg7 (by simp; omega))
        have LB := Lib.hid (KB.out.grown hg7 KB.out.size (fun r hr => by cases hr; omega))
        have LX := Lib.hid hb7
        have L1 := Lib.hid k7
        have HM := Lib.hid (rmul_any _ _ _ _ w7 HR6.out HU.out)
        clear hb7 hg7 e7 k7 e16
        refine HM.out.mono ?_
        rintro e w8 ⟨r8, rfl, hr8, hb8⟩
        obtain ⟨z8, rfl, lz8, bz8, qz8, vz8⟩ := id hr8
        have M1 := Lib.hid (L1.out.same (hb8.block _ L1.out.lt))
        have M2 := Lib.hid (L2.out.same (hb8.block _ L2.out.lt))
        have M3 := Lib.hid (L3.out.same (hb8.block _ L3.out.lt))
        have MX := Lib.hid (LX.out.same (hb8.block _ LX.out.lt))
        have MB := Lib.hid (LB.out.trans (hb8.mono LB.out.size))
        have hi8 : Hid ((Try.prog.info? 48).map (·.size) = some (ints .i64 z8).length) := Lib.hid (by rw [ints_length, lz8]; exact Try.arr48)
        have hl8 : Hid ((ints .i64 z8).length = (ints .i64 z6).length) := Lib.hid (by rw [ints_length, ints_length, lz8, el_len HR6.out])
        have HR8 := Lib.hid hr8
        clear hb8 lz8 bz8 vz8 hr8
        go_wp2_with (refine wpList_store_blk rfl _ _ _ rfl X (ints .i64 z8) rfl rfl _ _ MX.out hl8.out hi8.out (ints_one _ _) ?_; intro w9 hb9 hg9)
        go_roundw
        case rel => exact ⟨k + 1, z8, by omega, by go_num, by rw [hgoal.out]; exact HR8.out, M1.out.grown hg9 (by simp; omega), M2.out.grown hg9 (by simp; omega), M3.out.grown hg9 (by simp; omega), hb9, MB.out.grown hg9 MB.out.size (fun r hr => by cases hr; omega)⟩
        case measure => simp [intOf]; omega
      · have hb0 : leN l / 2 ^ (255 - k) % 2 = 0 := by omega
        have hq : (bits .and .u8 ((bt : Int) / 2 ^ ((255 - k) % 8)) 1 == 1) = false := by
          rw [hcast, andU1, ← hbit, hb0]
          rfl
        have hgoal : Hid (x ^ (leN l / 2 ^ (256 - (k + 1))) = x ^ (leN l / 2 ^ (256 - k)) * x ^ (leN l / 2 ^ (256 - k))) := Lib.hid (by
          rw [e255, hsplit, hb0, Nat.add_zero, Nat.two_mul, Int.pow_add])
        clear hsplit hbit hcast e255 hb1 hb0
        go_wp2_with (refine wpList_store_blk rfl _ _ _ rfl X (ints .i64 z6) rfl rfl _ _ KX.out hl6.out hi6.out (ints_one _ _) ?_; intro w7 hb7 hg7; have e7 := (hg7.cell_far ⟨A + 1, (255 - k) / 8, none⟩ (K2.out.lt) (by simp; omega)).trans e16)
        go_roundw
        case rel => exact ⟨k + 1, z6, by omega, by go_num, by rw [hgoal.out]; exact HR6.out, K1.out.grown hg7 (by simp; omega), K2.out.grown hg7 (by simp; omega), K3.out.grown hg7 (by simp; omega), hb7, KB.out.grown hg7 KB.out.size (fun r hr => by cases hr; omega)⟩
        case measure => simp [intOf]; omega
    · have hk' : k = 256 := by omega
      subst hk'
      have hzl := el_len hel
      have HX := Lib.hid hbx
      have H3 := Lib.hid hb3
      have HB := Lib.hid hbel
      have HEL : Hid (IsEl (.agg (ints .i64 zs).toArray) (x ^ leN l)) := Lib.hid (by simpa using hel)
      have hiz : Hid ((Try.prog.info? 48).map (·.size) = some (ints .i64 zs).length) := Lib.hid (by rw [ints_length, hzl]; exact Try.arr48)
      have hlz : Hid ((ints .i64 zs).length = (ints .i64 (List.replicate 16 0)).length) := Lib.hid (by rw [ints_length, ints_length, hzl]; rfl)
      clear hb1 hb2 hb3 hbx hbel hel hzl
      go_wp2_with (first | (refine wpList_load_blk rfl _ _ rfl X rfl _ _ _ _ HX.out Try.underlying48 hiz.out ?_) | (refine wpList_store_blk rfl _ _ _ rfl (A + 1 + 1) _ rfl rfl _ _ H3.out hlz.out hiz.out (ints_one _ _) ?_; intro w7 hb7 hg7))
      exact bodyPost_ret (v := .agg (ints .i64 zs).toArray) (result_blk (by rfl) _ (A + 1 + 1) _ _ _ _ (by rfl) hb7 Try.underlying48 hiz.out) rfl ⟨_, rfl, HEL.out, HB.out.grown hg7 HB.out.size (fun r hr => by cases hr; omega)⟩

end Go.Proofs.Ytdjdalaghfknoaa
