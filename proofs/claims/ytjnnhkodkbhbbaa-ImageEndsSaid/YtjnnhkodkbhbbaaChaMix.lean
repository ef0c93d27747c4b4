/- The walk of package chacha's mixed. Each theorem names its own conditions. -/
import Derived.Test.YtjnnhkodkbhbbaaChaMixM
namespace Go.Proofs.Ytjnnhkodkbhbbaa
open Go.RowKit
set_option linter.unusedVariables false
set_option linter.unusedSimpArgs false

set_option maxRecDepth 100000 in
set_option maxHeartbeats 16000000 in
theorem cmixed_any (s : List W32) (hs : s.length = 16) (w : World) : Calls Try.prog 50 #[.agg (ints .u32 (ws s)).toArray] w fun e w' => e = .returned (.agg (ints .u32 (ws (wordsOut s))).toArray) ∧ Below w.heap.size w w' := by
  have HSL := Lib.hid hs
  have HIs := Lib.hid (words_size hs)
  have HB := Lib.hid (boxes2 w (ints .u32 (ws s)) (ints .u32 (List.replicate 16 0)) 77 77)
  obtain ⟨s0, s1, s2, s3, s4, s5, s6, s7, s8, s9, s10, s11, s12, s13, s14, s15, he⟩ := cha_list16 s hs
  have HSE := Lib.hid he
  clear hs he
  go_enter Try.func50, Try.ntmps50
  go_wp2_with fail
  obtain ⟨H1, H2, HE⟩ := HB.out
  change Code.wp _ _ _ _ ((w.alloc (.cells (ints .u32 (ws s)).toArray 77)).alloc (.cells (ints .u32 (List.replicate 16 0)).toArray 77))
  generalize (w.alloc (.cells (ints .u32 (ws s)).toArray 77)).alloc (.cells (ints .u32 (List.replicate 16 0)).toArray 77) = wa0 at *
  obtain ⟨A, hA⟩ : ∃ A, A = w.heap.size := ⟨_, rfl⟩
  have HAW : Hid (w.heap.size ≤ A ∧ A ≤ w.heap.size) := Lib.hid (by omega)
  rw [← hA] at H1 H2 ⊢
  have H1 := Lib.hid H1
  have H2 := Lib.hid H2
  have HE : Hid (Ext w wa0) := Lib.hid HE
  clear hA HB
  have c0 : wa0.cell? ⟨A, 0, none⟩ = some (.int .u32 (wi s0)) := by rw [word_cell H1.out (by rw [HSL.out]; omega), HSE.out]; rfl
  have c1 : wa0.cell? ⟨A, 1, none⟩ = some (.int .u32 (wi s1)) := by rw [word_cell H1.out (by rw [HSL.out]; omega), HSE.out]; rfl
  have c2 : wa0.cell? ⟨A, 2, none⟩ = some (.int .u32 (wi s2)) := by rw [word_cell H1.out (by rw [HSL.out]; omega), HSE.out]; rfl
  have c3 : wa0.cell? ⟨A, 3, none⟩ = some (.int .u32 (wi s3)) := by rw [word_cell H1.out (by rw [HSL.out]; omega), HSE.out]; rfl
  go_quiet (fail)
  have H1 : Hid (Blk (wa0.drewN nq) A (ints .u32 (ws s)) 77) := Lib.hid H1.out
  have H2 : Hid (Blk (wa0.drewN nq) (A + 1) (ints .u32 (List.replicate 16 0)) 77) := Lib.hid H2.out
  have HE : Hid (Ext w (wa0.drewN nq)) := Lib.hid (Ext.trans HE.out ⟨rfl, rfl, rfl, Nat.le_refl _, fun _ _ => rfl⟩)
  clear c0 c1 c2 c3
  generalize wa0.drewN nq = wa1 at *
  go_wp2_with fail
  have c4 : wa1.cell? ⟨A, 4, none⟩ = some (.int .u32 (wi s4)) := by rw [word_cell H1.out (by rw [HSL.out]; omega), HSE.out]; rfl
  have c5 : wa1.cell? ⟨A, 5, none⟩ = some (.int .u32 (wi s5)) := by rw [word_cell H1.out (by rw [HSL.out]; omega), HSE.out]; rfl
  have c6 : wa1.cell? ⟨A, 6, none⟩ = some (.int .u32 (wi s6)) := by rw [word_cell H1.out (by rw [HSL.out]; omega), HSE.out]; rfl
  have c7 : wa1.cell? ⟨A, 7, none⟩ = some (.int .u32 (wi s7)) := by rw [word_cell H1.out (by rw [HSL.out]; omega), HSE.out]; rfl
  go_quiet (fail)
  have H1 : Hid (Blk (wa1.drewN nq) A (ints .u32 (ws s)) 77) := Lib.hid H1.out
  have H2 : Hid (Blk (wa1.drewN nq) (A + 1) (ints .u32 (List.replicate 16 0)) 77) := Lib.hid H2.out
  have HE : Hid (Ext w (wa1.drewN nq)) := Lib.hid (Ext.trans HE.out ⟨rfl, rfl, rfl, Nat.le_refl _, fun _ _ => rfl⟩)
  clear c4 c5 c6 c7
  generalize wa1.drewN nq = wa2 at *
  go_wp2_with fail
  have c8 : wa2.cell? ⟨A, 8, none⟩ = some (.int .u32 (wi s8)) := by rw [word_cell H1.out (by rw [HSL.out]; omega), HSE.out]; rfl
  have c9 : wa2.cell? ⟨A, 9, none⟩ = some (.int .u32 (wi s9)) := by rw [word_cell H1.out (by rw [HSL.out]; omega), HSE.out]; rfl
  have c10 : wa2.cell? ⟨A, 10, none⟩ = some (.int .u32 (wi s10)) := by rw [word_cell H1.out (by rw [HSL.out]; omega), HSE.out]; rfl
  have c11 : wa2.cell? ⟨A, 11, none⟩ = some (.int .u32 (wi s11)) := by rw [word_cell H1.out (by rw [HSL.out]; omega), HSE.out]; rfl
  go_quiet (fail)
  have H1 : Hid (Blk (wa2.drewN nq) A (ints .u32 (ws s)) 77) := Lib.hid H1.out
  have H2 : Hid (Blk (wa2.drewN nq) (A + 1) (ints .u32 (List.replicate 16 0)) 77) := Lib.hid H2.out
  have HE : Hid (Ext w (wa2.drewN nq)) := Lib.hid (Ext.trans HE.out ⟨rfl, rfl, rfl, Nat.le_refl _, fun _ _ => rfl⟩)
  clear c8 c9 c10 c11
  generalize wa2.drewN nq = wa3 at *
  go_wp2_with fail
  have c12 : wa3.cell? ⟨A, 12, none⟩ = some (.int .u32 (wi s12)) := by rw [word_cell H1.out (by rw [HSL.out]; omega), HSE.out]; rfl
  have c13 : wa3.cell? ⟨A, 13, none⟩ = some (.int .u32 (wi s13)) := by rw [word_cell H1.out (by rw [HSL.out]; omega), HSE.out]; rfl
  have c14 : wa3.cell? ⟨A, 14, none⟩ = some (.int .u32 (wi s14)) := by rw [word_cell H1.out (by rw [HSL.out]; omega), HSE.out]; rfl
  have c15 : wa3.cell? ⟨A, 15, none⟩ = some (.int .u32 (wi s15)) := by rw [word_cell H1.out (by rw [HSL.out]; omega), HSE.out]; rfl
  go_quiet (fail)
  have H1 : Hid (Blk (wa3.drewN nq) A (ints .u32 (ws s)) 77) := Lib.hid H1.out
  have H2 : Hid (Blk (wa3.drewN nq) (A + 1) (ints .u32 (List.replicate 16 0)) 77) := Lib.hid H2.out
  have HE : Hid (Ext w (wa3.drewN nq)) := Lib.hid (Ext.trans HE.out ⟨rfl, rfl, rfl, Nat.le_refl _, fun _ _ => rfl⟩)
  clear c12 c13 c14 c15
  generalize wa3.drewN nq = wa4 at *
  go_wp2_with fail
  go_loop [3, 4, 5, 6, 7, 8, 9, 10, 11, 12, 13, 14, 15, 16, 17, 18, 54] (fun v0 v1 v2 v3 v4 v5 v6 v7 v8 v9 v10 v11 v12 v13 v14 v15 iv => ∃ (k : Nat) (t0 t1 t2 t3 t4 t5 t6 t7 t8 t9 t10 t11 t12 t13 t14 t15 : W32), k ≤ 10 ∧ dRun s k = [t0, t1, t2, t3, t4, t5, t6, t7, t8, t9, t10, t11, t12, t13, t14, t15] ∧ v0 = .int .u32 (wi t0) ∧ v1 = .int .u32 (wi t1) ∧ v2 = .int .u32 (wi t2) ∧ v3 = .int .u32 (wi t3) ∧ v4 = .int .u32 (wi t4) ∧ v5 = .int .u32 (wi t5) ∧ v6 = .int .u32 (wi t6) ∧ v7 = .int .u32 (wi t7) ∧ v8 = .int .u32 (wi t8) ∧ v9 = .int .u32 (wi t9) ∧ v10 = .int .u32 (wi t10) ∧ v11 = .int .u32 (wi t11) ∧ v12 = .int .u32 (wi t12) ∧ v13 = .int .u32 (wi t13) ∧ v14 = .int .u32 (wi t14) ∧ v15 = .int .u32 (wi t15) ∧ iv = .int .i64 (k : Int)) (fun _ _ _ _ _ _ _ _ _ _ _ _ _ _ _ _ iv => 10 - (intOf iv).toNat)
  case atStart => exact ⟨0, s0, s1, s2, s3, s4, s5, s6, s7, s8, s9, s10, s11, s12, s13, s14, s15, by omega, HSE.out, rfl, rfl, rfl, rfl, rfl, rfl, rfl, rfl, rfl, rfl, rfl, rfl, rfl, rfl, rfl, rfl, rfl⟩
  case round =>
    obtain ⟨k, t0, t1, t2, t3, t4, t5, t6, t7, t8, t9, t10, t11, t12, t13, t14, t15, hk, hd, rfl, rfl, rfl, rfl, rfl, rfl, rfl, rfl, rfl, rfl, rfl, rfl, rfl, rfl, rfl, rfl, rfl⟩ := hrel
    have HD := Lib.hid hd
    clear hd
    have k0 : (0 : Int) ≤ (k : Int) := Int.natCast_nonneg _
    by_cases hlk : k < 10
    · have k1 : (k : Int) < 10 := by omega
      obtain ⟨⟨x0, x4, x8, x12⟩, q0⟩ : ∃ q, qr4 t0 t4 t8 t12 = q := ⟨_, rfl⟩
      have Q0 := Lib.hid q0
      clear q0
      obtain ⟨⟨x1, x5, x9, x13⟩, q1⟩ : ∃ q, qr4 t1 t5 t9 t13 = q := ⟨_, rfl⟩
      have Q1 := Lib.hid q1
      clear q1
      obtain ⟨⟨x2, x6, x10, x14⟩, q2⟩ : ∃ q, qr4 t2 t6 t10 t14 = q := ⟨_, rfl⟩
      have Q2 := Lib.hid q2
      clear q2
      obtain ⟨⟨x3, x7, x11, x15⟩, q3⟩ : ∃ q, qr4 t3 t7 t11 t15 = q := ⟨_, rfl⟩
      have Q3 := Lib.hid q3
      clear q3
      obtain ⟨⟨y0, y5, y10, y15⟩, q4⟩ : ∃ q, qr4 x0 x5 x10 x15 = q := ⟨_, rfl⟩
      have Q4 := Lib.hid q4
      clear q4
      obtain ⟨⟨y1, y6, y11, y12⟩, q5⟩ : ∃ q, qr4 x1 x6 x11 x12 = q := ⟨_, rfl⟩
      have Q5 := Lib.hid q5
      clear q5
      obtain ⟨⟨y2, y7, y8, y13⟩, q6⟩ : ∃ q, qr4 x2 x7 x8 x13 = q := ⟨_, rfl⟩
      have Q6 := Lib.hid q6
      clear q6
      obtain ⟨⟨y3, y4, y9, y14⟩, q7⟩ : ∃ q, qr4 x3 x4 x9 x14 = q := ⟨_, rfl⟩
      have Q7 := Lib.hid q7
      clear q7
      go_wp2_with fail
      refine (cq_at _ _ _ _ _ _ _ _ Q0.out _).mono ?_
      rintro e w' ⟨rfl, rfl⟩
      go_wp2_with fail
      refine (cq_at _ _ _ _ _ _ _ _ Q1.out _).mono ?_
      rintro e w' ⟨rfl, rfl⟩
      go_wp2_with fail
      refine (cq_at _ _ _ _ _ _ _ _ Q2.out _).mono ?_
      rintro e w' ⟨rfl, rfl⟩
      go_wp2_with fail
      refine (cq_at _ _ _ _ _ _ _ _ Q3.out _).mono ?_
      rintro e w' ⟨rfl, rfl⟩
      go_wp2_with fail
      refine (cq_at _ _ _ _ _ _ _ _ Q4.out _).mono ?_
      rintro e w' ⟨rfl, rfl⟩
      go_wp2_with fail
      refine (cq_at _ _ _ _ _ _ _ _ Q5.out _).mono ?_
      rintro e w' ⟨rfl, rfl⟩
      go_wp2_with fail
      refine (cq_at _ _ _ _ _ _ _ _ Q6.out _).mono ?_
      rintro e w' ⟨rfl, rfl⟩
      go_wp2_with fail
      refine (cq_at _ _ _ _ _ _ _ _ Q7.out _).mono ?_
      rintro e w' ⟨rfl, rfl⟩
      go_wp2_with fail
      go_round
      case rel => exact ⟨k + 1, y0, y1, y2, y3, y4, y5, y6, y7, y8, y9, y10, y11, y12, y13, y14, y15, by omega, by rw [dRun, HD.out]; exact dround_l Q0.out Q1.out Q2.out Q3.out Q4.out Q5.out Q6.out Q7.out, rfl, rfl, rfl, rfl, rfl, rfl, rfl, rfl, rfl, rfl, rfl, rfl, rfl, rfl, rfl, rfl, by go_num⟩
      case measure => simp [intOf]; omega
    · have hk10 : k = 10 := by omega
      subst hk10
      rw [show ((10 : Nat) : Int) = 10 from rfl]
      have HOUT : Hid (wordsOut s = wAdd [t0, t1, t2, t3, t4, t5, t6, t7, t8, t9, t10, t11, t12, t13, t14, t15] s) := Lib.hid (by rw [← HD.out]; rfl)
      have HTL : Hid ([t0, t1, t2, t3, t4, t5, t6, t7, t8, t9, t10, t11, t12, t13, t14, t15].length = 16) := Lib.hid rfl
      clear HD
      have HZ := Lib.hid (Blk.made wa4 (ints .u32 (ws [t0, t1, t2, t3, t4, t5, t6, t7, t8, t9, t10, t11, t12, t13, t14, t15])) 77)
      have HXA := Ext.alloc wa4 (.cells (ints .u32 (ws [t0, t1, t2, t3, t4, t5, t6, t7, t8, t9, t10, t11, t12, t13, t14, t15])).toArray 77)
      have HL2 := Lib.hid H2.out.lt
      have H1 := Lib.hid (ext_blk H1.out HXA)
      have H2 := Lib.hid (ext_blk H2.out HXA)
      have HXS := Lib.hid HE.out.size
      have HE := Lib.hid (HE.out.trans HXA)
      clear HXA
      go_upto_region 17 with (fail)
      change Code.wp _ _ _ _ (wa4.alloc (.cells (ints .u32 (ws [t0, t1, t2, t3, t4, t5, t6, t7, t8, t9, t10, t11, t12, t13, t14, t15])).toArray 77))
      obtain ⟨Y, hY⟩ : ∃ Y, Y = wa4.heap.size := ⟨_, rfl⟩
      have HYW : Hid (w.heap.size ≤ Y ∧ A + 1 < Y) := Lib.hid (by have := HXS.out; have := HL2.out; omega)
      rw [← hY] at HZ ⊢
      clear HXS HL2 hY
      generalize wa4.alloc (.cells (ints .u32 (ws [t0, t1, t2, t3, t4, t5, t6, t7, t8, t9, t10, t11, t12, t13, t14, t15])).toArray 77) = w7 at *
      have H3 : Hid (Blk w7 Y (ints .u32 (ws (addK [t0, t1, t2, t3, t4, t5, t6, t7, t8, t9, t10, t11, t12, t13, t14, t15] s 0))) 77) := Lib.hid HZ.out
      clear HZ
      obtain ⟨t, ht⟩ : ∃ t, t = [t0, t1, t2, t3, t4, t5, t6, t7, t8, t9, t10, t11, t12, t13, t14, t15] := ⟨_, rfl⟩
      rw [← ht] at HOUT HTL H3
      clear ht
      go_wp2_with (refine wpList_load_blk rfl _ _ rfl A rfl _ _ _ _ H1.out Try.underlying77 HIs.out ?_)
      go_loopw [155] (fun iv wr => ∃ (k : Nat), k ≤ 16 ∧ iv = .int .i64 (k : Int) ∧ Blk wr (A + 1) (ints .u32 (List.replicate 16 0)) 77 ∧ Blk wr Y (ints .u32 (ws (addK t s k))) 77 ∧ Ext w wr) (fun iv _ => 16 - (intOf iv).toNat)
      case atStart => exact ⟨0, by omega, rfl, H2.out, H3.out, HE.out⟩
      case round =>
        clear H1 H2 H3 HE
        obtain ⟨k, hk, rfl, hb2, hb3, hbel⟩ := hrel
        have k0 : (0 : Int) ≤ (k : Int) := Int.natCast_nonneg _
        by_cases hlk : k < 16
        · have k1 : (k : Int) < 16 := by omega
          have hi := index_wordsL Try.underlying77 Try.sizeOf75 Try.isAgg75 s HSL.out k hlk
          have hc := word_cell hb3 (i := k) (by rw [addK_length, HTL.out]; exact hlk)
          have hg := addK_getD t s k (by rw [HTL.out]; omega) k
          rw [if_neg (by omega)] at hg
          rw [hg] at hc
          have f0 := hb3.free k
          have e1 : IntKind.u32.wrap (wi (t.getD k 0#32) + wi (s.getD k 0#32)) = wi (t.getD k 0#32 + s.getD k 0#32) := wi_add _ _
          have HX : Hid (Blk (wr.setCell ⟨Y, k, none⟩ (.int .u32 (wi (t.getD k 0#32 + s.getD k 0#32)))) Y (ints .u32 (ws (addK t s (k + 1)))) 77) := Lib.hid (set_word hb3 k _ (t.getD k 0#32 + s.getD k 0#32) rfl)
          have H2 := Lib.hid (hb2.far (a := ⟨Y, k, none⟩) (by have := HYW.out; simp; omega) (.int .u32 (wi (t.getD k 0#32 + s.getD k 0#32))))
          have HE : Hid (Ext w (wr.setCell ⟨Y, k, none⟩ (.int .u32 (wi (t.getD k 0#32 + s.getD k 0#32))))) := Lib.hid (far_ext hbel (by have := HYW.out; omega))
          generalize t.getD k 0#32 + s.getD k 0#32 = y at *
          generalize t.getD k 0#32 = y1 at *
          generalize s.getD k 0#32 = y2 at *
          have e2 := e1
          rw [IntKind.wrap_u32] at e2
          clear hb2 hb3 hbel hg
          go_wp2_with fail
          go_roundw
          case rel => exact ⟨k + 1, by omega, by go_num, H2.out, HX.out, HE.out⟩
          case measure => simp [intOf]; omega
        · have hk16 : k = 16 := by omega
          subst hk16
          rw [show ((16 : Nat) : Int) = 16 from rfl]
          rw [addK_full t s HTL.out, ← HOUT.out] at hb3
          have H2 := Lib.hid hb2
          have H3 := Lib.hid hb3
          have HE := Lib.hid hbel
          clear hb2 hb3 hbel
          have HIo := Lib.hid (words_size (wordsOut_length s))
          have HLo : Hid ((ints .u32 (ws (wordsOut s))).length = (ints .u32 (List.replicate 16 0)).length) := Lib.hid (by rw [ints_length, ws_length, wordsOut_length, ints_length, List.length_replicate])
          go_wp2_with (first | (refine wpList_load_blk rfl _ _ rfl Y rfl _ _ _ _ H3.out Try.underlying77 HIo.out ?_) | (refine wpList_store_blk rfl _ _ _ rfl (A + 1) (ints .u32 (ws (wordsOut s))) rfl rfl _ _ H2.out HLo.out HIo.out (ints_one _ _) ?_; intro w8 hb8 hg8))
          refine bodyPost_ret (result_blk rfl _ (A + 1) _ _ _ _ rfl hb8 Try.underlying77 HIo.out) rfl ?_
          exact ⟨rfl, ext_grown HE.out hg8 (by have := HAW.out; omega)⟩

end Go.Proofs.Ytjnnhkodkbhbbaa
