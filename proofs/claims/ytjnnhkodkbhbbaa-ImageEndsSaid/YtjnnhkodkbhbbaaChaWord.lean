/- The walks of package chacha's words: turned to the left, a quarter round, four bytes as a word and a word as four bytes. Each theorem names its own conditions. -/
import Derived.Test.YtjnnhkodkbhbbaaRefBlockK
import Derived.Deep.QuietTactic
namespace Go.Proofs.Ytjnnhkodkbhbbaa
open Go.RowKit
set_option linter.unusedVariables false
set_option linter.unusedSimpArgs false

theorem and_u64_31L (n : Nat) (h : n < 32) : bits .and .u64 (n : Int) 31 = (n : Int) := by
  have h5 : (BitVec.ofInt 64 31).toNat = 2 ^ 5 - 1 := by decide
  have key : (BitVec.ofInt 64 (n : Int) &&& BitVec.ofInt 64 31).toNat = ((n : Int) % ((2 ^ 64 : Nat) : Int)).toNat % 2 ^ 5 := by
    rw [BitVec.toNat_and, BitVec.toNat_ofInt, h5, Nat.and_two_pow_sub_one_eq_mod]
  show IntKind.u64.wrap ((BitVec.ofInt 64 (n : Int) &&& BitVec.ofInt 64 31).toNat : Nat) = _
  rw [key, IntKind.wrap_u64]
  omega

set_option maxHeartbeats 1000000 in
theorem rotL_any (x : W32) (n : Nat) (h1 : 0 < n) (h2 : n < 32) (w : World) : Calls Try.prog 73 #[.int .u32 (wi x), .int .i64 (n : Int)] w fun e w' => e = .returned (.int .u32 (wi (rotl x n))) ∧ w = w' := by
  have HX := Lib.hid (wi_rotl x n)
  have hr := wi_range x
  have ha := and_u64_31L n h2
  have n0 : (n : Int) < 32 := by omega
  have n1 : (0 : Int) < (n : Int) := by omega
  have hw : IntKind.u64.wrap (n : Int) = (n : Int) := by rw [IntKind.wrap_u64]; omega
  have hv : IntKind.u64.wrap (32 - (n : Int)) = ((32 - n : Nat) : Int) := by rw [IntKind.wrap_u64]; omega
  have n2 : ((32 - n : Nat) : Int) < 32 := by omega
  have n3 : 32 - (n : Int) = ((32 - n : Nat) : Int) := by omega
  generalize wi x = z at *
  generalize 32 - n = m at *
  go_enter Try.func73, Try.ntmps73
  go_wp2_with fail
  go_ret
  exact ⟨congrArg (fun v => Ending.returned (.int .u32 v)) (by rw [← HX.out, IntKind.wrap_u32]), rfl⟩

theorem res_four {fn : Func} {i j k l : Nat} (hf : fn.results = #[.tmp i, .tmp j, .tmp k, .tmp l]) (tmps : Array Value) (w : World) :
    (results fn tmps).run Try.prog w = .ok (.tuple #[tmps.getD i undef, tmps.getD j undef, tmps.getD k undef, tmps.getD l undef]) w := by
  unfold results
  rw [hf]
  simp

set_option maxHeartbeats 4000000 in
theorem cq_any (a b c d : W32) (w : World) : Calls Try.prog 66 #[.int .u32 (wi a), .int .u32 (wi b), .int .u32 (wi c), .int .u32 (wi d)] w fun e w' =>
    e = .returned (.tuple #[.int .u32 (wi (qr4 a b c d).1), .int .u32 (wi (qr4 a b c d).2.1), .int .u32 (wi (qr4 a b c d).2.2.1), .int .u32 (wi (qr4 a b c d).2.2.2)]) ∧ w = w' := by
  obtain ⟨a1, ha1⟩ : ∃ x, x = a + b := ⟨_, rfl⟩
  obtain ⟨p1, hp1⟩ : ∃ x, x = d ^^^ a1 := ⟨_, rfl⟩
  obtain ⟨d1, hd1⟩ : ∃ x, x = rotl p1 16 := ⟨_, rfl⟩
  obtain ⟨c1, hc1⟩ : ∃ x, x = c + d1 := ⟨_, rfl⟩
  obtain ⟨p2, hp2⟩ : ∃ x, x = b ^^^ c1 := ⟨_, rfl⟩
  obtain ⟨b1, hb1⟩ : ∃ x, x = rotl p2 12 := ⟨_, rfl⟩
  obtain ⟨a2, ha2⟩ : ∃ x, x = a1 + b1 := ⟨_, rfl⟩
  obtain ⟨p3, hp3⟩ : ∃ x, x = d1 ^^^ a2 := ⟨_, rfl⟩
  obtain ⟨d2, hd2⟩ : ∃ x, x = rotl p3 8 := ⟨_, rfl⟩
  obtain ⟨c2, hc2⟩ : ∃ x, x = c1 + d2 := ⟨_, rfl⟩
  obtain ⟨p4, hp4⟩ : ∃ x, x = b1 ^^^ c2 := ⟨_, rfl⟩
  obtain ⟨b2, hb2⟩ : ∃ x, x = rotl p4 7 := ⟨_, rfl⟩
  have HQ : Hid (qr4 a b c d = (a2, b2, c2, d2)) := Lib.hid (by subst hb2 hp4 hc2 hd2 hp3 ha2 hb1 hp2 hc1 hd1 hp1 ha1; rfl)
  have s1 : IntKind.u32.wrap (wi a + wi b) = wi a1 := by rw [ha1]; exact wi_add _ _
  have s2 : bits .xor .u32 (wi d) (wi a1) = wi p1 := by rw [hp1]; exact wi_xor _ _
  have s3 : IntKind.u32.wrap (wi c + wi d1) = wi c1 := by rw [hc1]; exact wi_add _ _
  have s4 : bits .xor .u32 (wi b) (wi c1) = wi p2 := by rw [hp2]; exact wi_xor _ _
  have s5 : IntKind.u32.wrap (wi a1 + wi b1) = wi a2 := by rw [ha2]; exact wi_add _ _
  have s6 : bits .xor .u32 (wi d1) (wi a2) = wi p3 := by rw [hp3]; exact wi_xor _ _
  have s7 : IntKind.u32.wrap (wi c1 + wi d2) = wi c2 := by rw [hc2]; exact wi_add _ _
  have s8 : bits .xor .u32 (wi b1) (wi c2) = wi p4 := by rw [hp4]; exact wi_xor _ _
  have R1 := Lib.hid (fun w => rotL_any p1 16 (by omega) (by omega) w)
  have R2 := Lib.hid (fun w => rotL_any p2 12 (by omega) (by omega) w)
  have R3 := Lib.hid (fun w => rotL_any p3 8 (by omega) (by omega) w)
  have R4 := Lib.hid (fun w => rotL_any p4 7 (by omega) (by omega) w)
  rw [← hd1] at R1
  rw [← hb1] at R2
  rw [← hd2] at R3
  rw [← hb2] at R4
  rw [HQ.out]
  clear hb2 hp4 hc2 hd2 hp3 ha2 hb1 hp2 hc1 hd1 hp1 ha1 HQ
  have t1 := s1
  have t3 := s3
  have t5 := s5
  have t7 := s7
  rw [IntKind.wrap_u32] at t1 t3 t5 t7
  go_enter Try.func66, Try.ntmps66
  go_wp2_with fail
  refine (R1.out _).mono ?_
  rintro e w' ⟨rfl, rfl⟩
  go_wp2_with fail
  refine (R2.out _).mono ?_
  rintro e w' ⟨rfl, rfl⟩
  go_wp2_with fail
  refine (R3.out _).mono ?_
  rintro e w' ⟨rfl, rfl⟩
  go_wp2_with fail
  refine (R4.out _).mono ?_
  rintro e w' ⟨rfl, rfl⟩
  go_wp2_with fail
  refine bodyPost_ret (res_four rfl _ _) rfl ?_
  exact ⟨rfl, rfl⟩

set_option maxHeartbeats 2000000 in
/-- A word is read off four bytes of a block. -/
theorem cword_any (c off len cap : Nat) (cs : List UInt8) (t : TypeId) (w : World) (hb : Blk w c (cs.map bval) t) (hl : off + 4 ≤ cs.length) (h4 : 4 ≤ len) :
    Calls Try.prog 67 #[.slice (some ⟨c, off, none⟩) len cap] w fun e w' => e = .returned (.int .u32 (wi (leW cs off))) ∧ w' = w.drew := by
  have cc : ∀ j, j ≤ 3 → w.cell? ⟨c, off + j, none⟩ = some (.int .u8 ((cs.getD (off + j) 0).toNat : Int)) := fun j hj => by
    rw [hb.cell, bval_get (by omega)]
  have c0 := cc 0 (by omega)
  have c1 := cc 1 (by omega)
  have c2 := cc 2 (by omega)
  have c3 := cc 3 (by omega)
  simp only [Nat.add_zero] at c0
  have d0 := UInt8.toNat_lt (cs.getD off 0)
  have d1 := UInt8.toNat_lt (cs.getD (off + 1) 0)
  have d2 := UInt8.toNat_lt (cs.getD (off + 2) 0)
  have d3 := UInt8.toNat_lt (cs.getD (off + 3) 0)
  have HBE : Hid (leW cs off = BitVec.ofNat 32 ((cs.getD off 0).toNat + 256 * (cs.getD (off + 1) 0).toNat + 65536 * (cs.getD (off + 2) 0).toNat + 16777216 * (cs.getD (off + 3) 0).toNat)) := Lib.hid rfl
  generalize (cs.getD off 0).toNat = x0 at *
  generalize (cs.getD (off + 1) 0).toNat = x1 at *
  generalize (cs.getD (off + 2) 0).toNat = x2 at *
  generalize (cs.getD (off + 3) 0).toNat = x3 at *
  clear cc hb hl
  have i0 : (0 : Int) < (len : Int) ∧ (1 : Int) < (len : Int) ∧ (2 : Int) < (len : Int) ∧ (3 : Int) < (len : Int) := by omega
  obtain ⟨i0, i1, i2, i3⟩ := i0
  go_enter Try.func67, Try.ntmps67
  go_wp2_with fail
  go_region
  go_wp2_with fail
  go_ret
  exact ⟨by rw [HBE.out, ← or4L x0 x1 x2 x3 d0 d1 d2 d3]; rfl, rfl⟩

/-- A word's four bytes, the lowest first, laid over a list from off on. -/
def put4L (cs : List UInt8) (off : Nat) (x : W32) : List UInt8 := (((cs.set off (UInt8.ofNat x.toNat)).set (off + 1) (UInt8.ofNat (x.toNat / 256))).set (off + 2) (UInt8.ofNat (x.toNat / 65536))).set (off + 3) (UInt8.ofNat (x.toNat / 16777216))
theorem put4L_length (cs : List UInt8) (off : Nat) (x : W32) : (put4L cs off x).length = cs.length := by simp [put4L]
theorem bval_ofNatL (n : Nat) : bval (UInt8.ofNat n) = .int .u8 ((n : Int) % 256) := by
  unfold bval
  rw [UInt8.toNat_ofNat']
  congr 1

set_option maxHeartbeats 2000000 in
/-- A word is laid over four bytes of a block. -/
theorem cput_any (c off len cap : Nat) (cs : List UInt8) (x : W32) (t : TypeId) (w : World) (hb : Blk w c (cs.map bval) t) (hl : off + 4 ≤ cs.length) (h4 : 4 ≤ len) :
    Calls Try.prog 65 #[.slice (some ⟨c, off, none⟩) len cap, .int .u32 (wi x)] w fun e w' => e = .returned (.tuple #[]) ∧ Blk w' c ((put4L cs off x).map bval) t ∧ w.grownBy w' (some c) := by
  have cc : ∀ j, j ≤ 3 → w.cell? ⟨c, off + j, none⟩ = some (.int .u8 ((cs.getD (off + j) 0).toNat : Int)) := fun j hj => by
    rw [hb.cell, bval_get (by omega)]
  have ff : ∀ j, w.frozen? ⟨c, off + j, none⟩ = false := fun j => hb.free _
  have c0 := cc 0 (by omega)
  have c1 := cc 1 (by omega)
  have c2 := cc 2 (by omega)
  have c3 := cc 3 (by omega)
  have f0 := ff 0
  have f1 := ff 1
  have f2 := ff 2
  have f3 := ff 3
  simp only [Nat.add_zero] at c0 f0
  generalize (cs.getD off 0).toNat = x0 at *
  generalize (cs.getD (off + 1) 0).toNat = x1 at *
  generalize (cs.getD (off + 2) 0).toNat = x2 at *
  generalize (cs.getD (off + 3) 0).toNat = x3 at *
  have HB := Lib.hid hb
  have HL := Lib.hid hl
  have hr := wi_range x
  have HX : Hid (wi x = (x.toNat : Int)) := Lib.hid rfl
  clear cc ff hb hl
  have i0 : (0 : Int) < (len : Int) ∧ (1 : Int) < (len : Int) ∧ (2 : Int) < (len : Int) ∧ (3 : Int) < (len : Int) := by omega
  obtain ⟨i0, i1, i2, i3⟩ := i0
  have b3 : bval (UInt8.ofNat (x.toNat / 16777216)) = .int .u8 (wi x / 16777216) := by rw [bval_ofNatL]; congr 1; unfold wi; have := x.isLt; omega
  have b2 : bval (UInt8.ofNat (x.toNat / 65536)) = .int .u8 (wi x / 65536 % 256) := by rw [bval_ofNatL]; congr 1
  have b1 : bval (UInt8.ofNat (x.toNat / 256)) = .int .u8 (wi x / 256 % 256) := by rw [bval_ofNatL]; congr 1
  have b0 : bval (UInt8.ofNat x.toNat) = .int .u8 (wi x % 256) := by rw [bval_ofNatL]; congr 1
  have hP : (put4L cs off x).map bval = ((((cs.map bval).set off (.int .u8 (wi x % 256))).set (off + 1) (.int .u8 (wi x / 256 % 256))).set (off + 2) (.int .u8 (wi x / 65536 % 256))).set (off + 3) (.int .u8 (wi x / 16777216)) := by
    unfold put4L
    rw [List.map_set, List.map_set, List.map_set, List.map_set, b0, b1, b2, b3]
  have HP := Lib.hid hP
  clear hP b0 b1 b2 b3
  generalize wi x = z at *
  go_enter Try.func65, Try.ntmps65
  go_wp2_with fail
  refine bodyPost_end (results_none rfl _ _ _) rfl ?_
  refine ⟨rfl, ?_, ?_⟩
  · rw [HP.out]
    exact (((HB.out.set _ _).set _ _).set _ _).set _ _
  · exact grownBy_set (grownBy_set (grownBy_set (grownBy_set (grownBy_refl w _) _ _) _ _) _ _) _ _

/-- The words laid as bytes, k of them. -/
def putK (h : List W32) : Nat → List UInt8
  | 0 => List.replicate 64 0
  | k + 1 => put4L (putK h k) (4 * k) (h.getD k 0#32)
theorem putK_length (h : List W32) : ∀ k, (putK h k).length = 64
  | 0 => by simp [putK]
  | k + 1 => by rw [putK, put4L_length, putK_length h k]
theorem put4L_getD (cs : List UInt8) (off : Nat) (x : W32) (h : off + 4 ≤ cs.length) (i : Nat) : (put4L cs off x).getD i 0 = if off ≤ i ∧ i < off + 4 then UInt8.ofNat (x.toNat / 2 ^ (8 * (i - off)) % 256) else cs.getD i 0 := by
  have m : ∀ n : Nat, UInt8.ofNat (n % 256) = UInt8.ofNat n := fun n => by
    apply UInt8.toNat_inj.1
    rw [UInt8.toNat_ofNat', UInt8.toNat_ofNat']
    omega
  unfold put4L
  simp only [List.getD_eq_getElem?_getD, List.getElem?_set, List.length_set]
  by_cases h3 : off + 3 = i
  · subst h3
    rw [if_pos rfl, if_pos (by omega), if_pos (by omega), show off + 3 - off = 3 from by omega, m]
    rfl
  · rw [if_neg h3]
    by_cases h2 : off + 2 = i
    · subst h2
      rw [if_pos rfl, if_pos (by omega), if_pos (by omega), show off + 2 - off = 2 from by omega, m]
      rfl
    · rw [if_neg h2]
      by_cases h1 : off + 1 = i
      · subst h1
        rw [if_pos rfl, if_pos (by omega), if_pos (by omega), show off + 1 - off = 1 from by omega, m]
        rfl
      · rw [if_neg h1]
        by_cases h0 : off = i
        · subst h0
          rw [if_pos rfl, if_pos (by omega), if_pos (by omega), show off - off = 0 from by omega, m]
          simp
        · rw [if_neg h0, if_neg (by omega)]
theorem putK_getD (h : List W32) : ∀ k, k ≤ 16 → ∀ i, i < 4 * k → (putK h k).getD i 0 = UInt8.ofNat ((h.getD (i / 4) 0#32).toNat / 2 ^ (8 * (i % 4)) % 256)
  | 0, _, i, hi => by omega
  | k + 1, hk, i, hi => by
    rw [putK, put4L_getD _ _ _ (by rw [putK_length]; omega)]
    by_cases h4 : 4 * k ≤ i
    · rw [if_pos (by omega), show i / 4 = k from by omega, show i - 4 * k = i % 4 from by omega]
    · rw [if_neg (by omega), putK_getD h k (by omega) i (by omega)]
theorem putK_full (h : List W32) : putK h 16 = leB h 64 := by
  apply bytes_ext (by rw [putK_length, leB_length])
  intro i hi
  rw [putK_length] at hi
  rw [putK_getD h 16 (by omega) i (by omega), leB_getD h hi]

end Go.Proofs.Ytjnnhkodkbhbbaa
