/- The walk of the document's own block of ChaCha20. Each theorem names its own conditions. -/
import Derived.Test.YtldpmphecgffcaaRefQuarter
import Derived.Test.YtldpmphecgffcaaRefLittle
import Derived.Test.YtldpmphecgffcaaSigKit
import Derived.Test.YtldpmphecgffcaaNumKit
import Derived.Test.YtldpmphecgffcaaArrKit
namespace Go.Proofs.Ytldpmphecgffcaa
open Go.RowKit
set_option linter.unusedVariables false
set_option linter.unusedSimpArgs false

/-- The state, as far as it is laid: the key's words; the counter and the nonce's. -/
def chaK (key : List UInt8) : Nat → List W32
  | 0 => [0x61707865#32, 0x3320646e#32, 0x79622d32#32, 0x6b206574#32, 0, 0, 0, 0, 0, 0, 0, 0, 0, 0, 0, 0]
  | k + 1 => (chaK key k).set (4 + k) (leW key (4 * k))
def chaN (key : List UInt8) (ctr : W32) (nonce : List UInt8) : Nat → List W32
  | 0 => (chaK key 8).set 12 ctr
  | k + 1 => (chaN key ctr nonce k).set (13 + k) (leW nonce (4 * k))
theorem chaK_length (key : List UInt8) : ∀ k, (chaK key k).length = 16
  | 0 => rfl
  | k + 1 => by rw [chaK, List.length_set, chaK_length key k]
theorem chaN_length (key : List UInt8) (ctr : W32) (nonce : List UInt8) : ∀ k, (chaN key ctr nonce k).length = 16
  | 0 => by rw [chaN, List.length_set, chaK_length]
  | k + 1 => by rw [chaN, List.length_set, chaN_length key ctr nonce k]
theorem chaN_full (key : List UInt8) (ctr : W32) (nonce : List UInt8) : chaN key ctr nonce 3 = chaInit key ctr nonce := rfl
theorem and_mask32 (a : Int) (h1 : -9223372036854775808 ≤ a) (h2 : a ≤ 9223372036854775807) : bits .and .i64 a 4294967295 = a % 4294967296 := by
  have h : (BitVec.ofInt 64 4294967295).toNat = 2 ^ 32 - 1 := by decide
  have key : (BitVec.ofInt 64 a &&& BitVec.ofInt 64 4294967295).toNat = (a % ((2 ^ 64 : Nat) : Int)).toNat % 2 ^ 32 := by
    rw [BitVec.toNat_and, BitVec.toNat_ofInt, h, Nat.and_two_pow_sub_one_eq_mod]
  show IntKind.i64.wrap ((BitVec.ofInt 64 a &&& BitVec.ofInt 64 4294967295).toNat : Nat) = _
  rw [key, IntKind.wrap_i64]
  omega
theorem ctr_word (a : Int) : IntKind.u32.wrap (a % 4294967296) = wi (BitVec.ofInt 32 a) := by
  unfold wi
  rw [BitVec.toNat_ofInt, IntKind.wrap_u32]
  omega
theorem quarter_at (X : Nat) (s t : List W32) (a b c d : Nat) (ia ib ic id : Int) (w : World) (hX : Blk w X (ints .u32 (ws s)) 38) (hs : s.length = 16) (ha : ia = a) (hb : ib = b) (hc : ic = c) (hd : id = d) (ht : qrt s a b c d = t)
    (h : a < 16 ∧ b < 16 ∧ c < 16 ∧ d < 16 ∧ a ≠ b ∧ a ≠ c ∧ a ≠ d ∧ b ≠ c ∧ b ≠ d ∧ c ≠ d) :
    Calls Try.prog 16 #[.pointer (some ⟨X, 0, none⟩), .int .i64 ia, .int .i64 ib, .int .i64 ic, .int .i64 id] w fun e w' => e = .returned (.tuple #[]) ∧ Blk w' X (ints .u32 (ws t)) 38 ∧ w.grownBy w' (some X) := by
  subst ha hb hc hd ht
  obtain ⟨h1, h2, h3, h4, h5, h6, h7, h8, h9, h10⟩ := h
  exact quarter_any X s a b c d w hX hs h1 h2 h3 h4 h5 h6 h7 h8 h9 h10
theorem ws_set0 (l : List W32) (i : Nat) (v : W32) (z : Int) (h : z = wi v) : (ints .u32 (ws l)).set i (.int .u32 z) = ints .u32 (ws (l.set i v)) := by
  subst h
  rw [ints_set, ws_set]

theorem set_word {w : World} {S : Nat} {l : List W32} {t : TypeId} (h : Blk w S (ints .u32 (ws l)) t) (i : Nat) (z : Int) (v : W32) (hz : z = wi v) : Blk (w.setCell ⟨S, i, none⟩ (.int .u32 z)) S (ints .u32 (ws (l.set i v))) t := by
  subst hz
  rw [← ws_set]
  exact h.seti i _
theorem word_cell {w : World} {S i : Nat} {l : List W32} {t : TypeId} (h : Blk w S (ints .u32 (ws l)) t) (hi : i < l.length) : w.cell? ⟨S, i, none⟩ = some (.int .u32 (wi (l.getD i 0#32))) := by
  rw [h.cell, ints_get (by rw [ws_length]; exact hi), ws_getD]
theorem cut_arrL {t : TypeId} {n : Nat} {e : TypeId} (ht : Try.prog.underlying t = some (.array n e)) (h : ∀ w, (sizeOf e).run Try.prog w = .ok 1 w) (w : World) (A p : Nat) (hp : p < n) :
    (Instr.sliceAt t (.pointer (some ⟨A, 0, none⟩)) (some (.int .i64 (p : Int))) none none).run Try.prog w = .ok (.slice (some ⟨A, p, none⟩) (n - p) (n - p)) w := by
  have e1 : Try.prog.arrayLen t = n := by unfold Program.arrayLen; rw [ht]
  have e2 : Try.prog.elem t = e := by unfold Program.elem; rw [ht]
  rw [run_sliceAt_array_l w t ⟨A, 0, none⟩ (by rw [e1, e2]; exact ht) .i64 (p : Int) (by omega) (by rw [e1]; omega), e2, h, e1]
  simp [slicedAt, Addr.add, show ¬ n = p by omega]
  exact fun h => h.symm
theorem and_u32_255 (n : Nat) : bits .and .u32 (n : Int) 255 = ((n % 256 : Nat) : Int) := by
  have h : (BitVec.ofInt 32 255).toNat = 2 ^ 8 - 1 := by decide
  have key : (BitVec.ofInt 32 (n : Int) &&& BitVec.ofInt 32 255).toNat = ((n : Int) % ((2 ^ 32 : Nat) : Int)).toNat % 2 ^ 8 := by
    rw [BitVec.toNat_and, BitVec.toNat_ofInt, h, Nat.and_two_pow_sub_one_eq_mod]
  show IntKind.u32.wrap ((BitVec.ofInt 32 (n : Int) &&& BitVec.ofInt 32 255).toNat : Nat) = _
  rw [key, IntKind.wrap_u32]
  omega
theorem word_byte (va : W32) (r : Nat) (y : UInt8) (h : y = UInt8.ofNat (va.toNat / 2 ^ (8 * r) % 256)) : bits .and .u32 (wi va / 2 ^ (8 * r)) 255 % 256 = (y.toNat : Int) := by
  have e : wi va / 2 ^ (8 * r) = ((va.toNat / 2 ^ (8 * r) : Nat) : Int) := by
    unfold wi
    rw [Int.natCast_ediv, Int.natCast_pow]
    rfl
  rw [e, and_u32_255, h]
  have : (UInt8.ofNat (va.toNat / 2 ^ (8 * r) % 256)).toNat = va.toNat / 2 ^ (8 * r) % 256 := UInt8.toNat_ofNat_of_lt' (by show _ < 256; omega)
  rw [this]
  omega
theorem leB_getD (h : List W32) {n i : Nat} (hi : i < n) : (leB h n).getD i 0 = UInt8.ofNat ((h.getD (i / 4) 0#32).toNat / 2 ^ (8 * (i % 4)) % 256) := by
  unfold leB
  rw [List.getD_eq_getElem?_getD, List.getElem?_map, List.getElem?_range hi]
  rfl
theorem far_ext {w w2 : World} {S i : Nat} {v : Value} (h : Ext w w2) (hS : w.heap.size ≤ S) : Ext w (w2.setCell ⟨S, i, none⟩ v) := Below.setCell h hS _

set_option maxRecDepth 100000 in
set_option maxHeartbeats 16000000 in
theorem rBlock_any (kb nb : List UInt8) (c : Int) (w : World) (hk : kb.length = 32) (hn : nb.length = 12) (hc1 : -9223372036854775808 ≤ c) (hc2 : c ≤ 9223372036854775807) :
    Calls Try.prog 9 #[.agg (kb.map bval).toArray, .int .i64 c, .agg (nb.map bval).toArray] w fun e w' => e = .returned (.agg ((chaBlock kb (BitVec.ofInt 32 c) nb).map bval).toArray) ∧ Below w.heap.size w w' := by
  have HKL := Lib.hid hk
  have HNL := Lib.hid hn
  have HB := Lib.hid (boxes4 w (kb.map bval) (nb.map bval) (ints .u8 (List.replicate 64 0)) (ints .u32 (ws (List.replicate 16 0#32))) 23 25 28 38)
  have HA0 := Lib.hid (and_mask32 c hc1 hc2)
  have HC0 := Lib.hid (ctr_word c)
  obtain ⟨ctr, hctr⟩ : ∃ v, v = BitVec.ofInt 32 c := ⟨_, rfl⟩
  have HCTR := Lib.hid hctr
  rw [← hctr] at HC0
  clear hk hn hc1 hc2 hctr
  go_enter Try.func9, Try.ntmps9
  go_upto_region 2 with (fail)
  obtain ⟨H1, H2, H3, H4, HE⟩ := HB.out
  change Code.wp _ _ _ _ ((((w.alloc (.cells (kb.map bval).toArray 23)).alloc (.cells (nb.map bval).toArray 25)).alloc (.cells (ints .u8 (List.replicate 64 0)).toArray 28)).alloc (.cells (ints .u32 (ws (List.replicate 16 0#32))).toArray 38))
  generalize (((w.alloc (.cells (kb.map bval).toArray 23)).alloc (.cells (nb.map bval).toArray 25)).alloc (.cells (ints .u8 (List.replicate 64 0)).toArray 28)).alloc (.cells (ints .u32 (ws (List.replicate 16 0#32))).toArray 38) = wa at *
  obtain ⟨B, hB⟩ : ∃ B, B = w.heap.size := ⟨_, rfl⟩
  have HBW : Hid (w.heap.size ≤ B) := Lib.hid (by omega)
  rw [← hB] at H1 H2 H3 H4 ⊢
  have H1 := Lib.hid H1
  have H2 := Lib.hid H2
  have H3 := Lib.hid H3
  have H4 := Lib.hid H4
  have HE : Hid (Ext w wa) := Lib.hid HE
  clear hB HB
  obtain ⟨S, hS⟩ : ∃ S, S = B + 1 + 1 + 1 := ⟨_, rfl⟩
  have HSB : Hid (B + 3 ≤ S ∧ S ≤ B + 3) := Lib.hid (by omega)
  rw [← hS] at H4 ⊢
  clear hS
  obtain ⟨R, hR⟩ : ∃ R, R = B + 1 + 1 := ⟨_, rfl⟩
  have HRB : Hid (B + 2 ≤ R ∧ R ≤ B + 2) := Lib.hid (by omega)
  rw [← hR] at H3 ⊢
  clear hR
  have f0 := H4.out.free 0
  obtain ⟨u0, c0⟩ : ∃ u, wa.cell? ⟨S, 0, none⟩ = some u := ⟨_, word_cell H4.out (by simp)⟩
  have HX0 := Lib.hid (set_word H4.out 0 1634760805 0x61707865#32 rfl)
  have HEn := Lib.hid (far_ext (S := S) (i := 0) (v := .int .u32 1634760805) HE.out (by have := HBW.out; have := HSB.out; omega))
  have H1n := Lib.hid (H1.out.far (a := ⟨S, 0, none⟩) (by have := HSB.out; simp; omega) (.int .u32 1634760805))
  have H2n := Lib.hid (H2.out.far (a := ⟨S, 0, none⟩) (by have := HSB.out; simp; omega) (.int .u32 1634760805))
  have H3n := Lib.hid (H3.out.far (a := ⟨S, 0, none⟩) (by have := HSB.out; have := HRB.out; simp; omega) (.int .u32 1634760805))
  go_upto_region 3 with (fail)
  clear H1 H2 H3 H4 HE f0 c0
  generalize wa.setCell ⟨S, 0, none⟩ (.int .u32 1634760805) = wb0 at *
  have H1 := H1n
  have H2 := H2n
  have H3 := H3n
  have H4 := HX0
  have HE := HEn
  clear H1n H2n H3n HX0 HEn
  have f1 := H4.out.free 1
  obtain ⟨u1, c1⟩ : ∃ u, wb0.cell? ⟨S, 1, none⟩ = some u := ⟨_, word_cell H4.out (by simp)⟩
  have HX1 := Lib.hid (set_word H4.out 1 857760878 0x3320646e#32 rfl)
  have HEn := Lib.hid (far_ext (S := S) (i := 1) (v := .int .u32 857760878) HE.out (by have := HBW.out; have := HSB.out; omega))
  have H1n := Lib.hid (H1.out.far (a := ⟨S, 1, none⟩) (by have := HSB.out; simp; omega) (.int .u32 857760878))
  have H2n := Lib.hid (H2.out.far (a := ⟨S, 1, none⟩) (by have := HSB.out; simp; omega) (.int .u32 857760878))
  have H3n := Lib.hid (H3.out.far (a := ⟨S, 1, none⟩) (by have := HSB.out; have := HRB.out; simp; omega) (.int .u32 857760878))
  go_upto_region 4 with (fail)
  clear H1 H2 H3 H4 HE f1 c1
  generalize wb0.setCell ⟨S, 1, none⟩ (.int .u32 857760878) = wb1 at *
  have H1 := H1n
  have H2 := H2n
  have H3 := H3n
  have H4 := HX1
  have HE := HEn
  clear H1n H2n H3n HX1 HEn
  have f2 := H4.out.free 2
  obtain ⟨u2, c2⟩ : ∃ u, wb1.cell? ⟨S, 2, none⟩ = some u := ⟨_, word_cell H4.out (by simp)⟩
  have HX2 := Lib.hid (set_word H4.out 2 2036477234 0x79622d32#32 rfl)
  have HEn := Lib.hid (far_ext (S := S) (i := 2) (v := .int .u32 2036477234) HE.out (by have := HBW.out; have := HSB.out; omega))
  have H1n := Lib.hid (H1.out.far (a := ⟨S, 2, none⟩) (by have := HSB.out; simp; omega) (.int .u32 2036477234))
  have H2n := Lib.hid (H2.out.far (a := ⟨S, 2, none⟩) (by have := HSB.out; simp; omega) (.int .u32 2036477234))
  have H3n := Lib.hid (H3.out.far (a := ⟨S, 2, none⟩) (by have := HSB.out; have := HRB.out; simp; omega) (.int .u32 2036477234))
  go_upto_region 5 with (fail)
  clear H1 H2 H3 H4 HE f2 c2
  generalize wb1.setCell ⟨S, 2, none⟩ (.int .u32 2036477234) = wb2 at *
  have H1 := H1n
  have H2 := H2n
  have H3 := H3n
  have H4 := HX2
  have HE := HEn
  clear H1n H2n H3n HX2 HEn
  have f3 := H4.out.free 3
  obtain ⟨u3, c3⟩ : ∃ u, wb2.cell? ⟨S, 3, none⟩ = some u := ⟨_, word_cell H4.out (by simp)⟩
  have HX3 := Lib.hid (set_word H4.out 3 1797285236 0x6b206574#32 rfl)
  have HEn := Lib.hid (far_ext (S := S) (i := 3) (v := .int .u32 1797285236) HE.out (by have := HBW.out; have := HSB.out; omega))
  have H1n := Lib.hid (H1.out.far (a := ⟨S, 3, none⟩) (by have := HSB.out; simp; omega) (.int .u32 1797285236))
  have H2n := Lib.hid (H2.out.far (a := ⟨S, 3, none⟩) (by have := HSB.out; simp; omega) (.int .u32 1797285236))
  have H3n := Lib.hid (H3.out.far (a := ⟨S, 3, none⟩) (by have := HSB.out; have := HRB.out; simp; omega) (.int .u32 1797285236))
  go_upto_region 6 with (fail)
  clear H1 H2 H3 H4 HE f3 c3
  generalize wb2.setCell ⟨S, 3, none⟩ (.int .u32 1797285236) = wb3 at *
  have H1 := H1n
  have H2 := H2n
  have H3 := H3n
  have H4 := HX3
  have HE := HEn
  clear H1n H2n H3n HX3 HEn
  have H4 : Hid (Blk wb3 S (ints .u32 (ws (chaK kb 0))) 38) := Lib.hid H4.out
  go_wp2_with fail

  go_loopw [8] (fun iv wr => ∃ (k : Nat), k ≤ 8 ∧ iv = .int .i64 (k : Int) ∧ Blk wr B (kb.map bval) 23 ∧ Blk wr (B + 1) (nb.map bval) 25 ∧ Blk wr R (ints .u8 (List.replicate 64 0)) 28 ∧ Blk wr S (ints .u32 (ws (chaK kb k))) 38 ∧ Ext w wr) (fun iv _ => 8 - (intOf iv).toNat)
  case atStart => exact ⟨0, by omega, rfl, H1.out, H2.out, H3.out, H4.out, HE.out⟩
  case round =>
    clear H1 H2 H3 H4 HE
    obtain ⟨k, hk, rfl, hb1, hb2, hb3, hb4, hbel⟩ := hrel
    have k0 : (0 : Int) ≤ (k : Int) := Int.natCast_nonneg _
    by_cases hlk : k < 8
    · have k1 : (k : Int) < 8 := by omega
      have hs := cut_arrL Try.underlying23 Try.sizeOf5 wr (B) (4 * k) (by omega)
      have e4 : ((4 * k : Nat) : Int) = 4 * (k : Int) := by omega
      rw [e4] at hs
      have HW := Lib.hid (little_any (B) (4 * k) (32 - 4 * k) (32 - 4 * k) kb 23 wr hb1 (by have := HKL.out; omega) (by omega))
      have H1 := Lib.hid hb1
      have H2 := Lib.hid hb2
      have H3 := Lib.hid hb3
      have H4 := Lib.hid hb4
      have HE := Lib.hid hbel
      clear hb1 hb2 hb3 hb4 hbel e4
      go_wp2_with fail
      refine HW.out.mono ?_
      rintro e w5 ⟨rfl, rfl⟩
      have H1 : Hid (Blk wr.drew B (kb.map bval) 23) := Lib.hid H1.out
      have H2 : Hid (Blk wr.drew (B + 1) (nb.map bval) 25) := Lib.hid H2.out
      have H3 : Hid (Blk wr.drew R (ints .u8 (List.replicate 64 0)) 28) := Lib.hid H3.out
      have H4 : Hid (Blk wr.drew S (ints .u32 (ws (chaK kb k))) 38) := Lib.hid H4.out
      have HE : Hid (Ext w wr.drew) := Lib.hid (HE.out.trans (Ext.drew _))
      clear HW hs
      generalize wr.drew = w5 at *
      have f0 := H4.out.free (4 + k)
      obtain ⟨u, c0⟩ : ∃ u, w5.cell? ⟨S, 4 + k, none⟩ = some u := ⟨_, word_cell H4.out (by rw [chaK_length]; omega)⟩
      have i0 : (0 : Int) ≤ 4 + (k : Int) := by omega
      have i1 : (4 : Int) + (k : Int) < 16 := by omega
      have i2 : ((4 : Int) + (k : Int)).toNat = 4 + k := by omega
      have HX : Hid (Blk (w5.setCell ⟨S, 4 + k, none⟩ (.int .u32 (wi (leW kb (4 * k))))) S (ints .u32 (ws (chaK kb (k + 1)))) 38) := Lib.hid (set_word H4.out (4 + k) _ (leW kb (4 * k)) rfl)
      generalize leW kb (4 * k) = lw at *
      go_wp2_with fail
      go_roundw
      case rel => exact ⟨k + 1, by omega, by go_num, H1.out.far (by have := HSB.out; simp; omega) _, H2.out.far (by have := HSB.out; simp; omega) _, H3.out.far (by have := HSB.out; have := HRB.out; simp; omega) _, HX.out, far_ext HE.out (by have := HBW.out; have := HSB.out; omega)⟩
      case measure => simp [intOf]; omega
    · have hk8 : k = 8 := by omega
      subst hk8
      rw [show ((8 : Nat) : Int) = 8 from rfl]
      have H1 := Lib.hid hb1
      have H2 := Lib.hid hb2
      have H3 := Lib.hid hb3
      have H4 := Lib.hid hb4
      have HE := Lib.hid hbel
      clear hb1 hb2 hb3 hb4 hbel k0 hk
      have f0 := H4.out.free 12
      obtain ⟨u, c0⟩ : ∃ u, wr.cell? ⟨S, 12, none⟩ = some u := ⟨_, word_cell H4.out (by rw [chaK_length]; omega)⟩
      have HX : Hid (Blk (wr.setCell ⟨S, 12, none⟩ (.int .u32 (wi ctr))) S (ints .u32 (ws (chaN kb ctr nb 0))) 38) := Lib.hid (set_word H4.out 12 _ ctr rfl)
      have ha0 := HA0.out
      have hc0 := HC0.out
      have H1n := Lib.hid (H1.out.far (a := ⟨S, 12, none⟩) (by have := HSB.out; simp; omega) (.int .u32 (wi ctr)))
      have H2n := Lib.hid (H2.out.far (a := ⟨S, 12, none⟩) (by have := HSB.out; simp; omega) (.int .u32 (wi ctr)))
      have H3n := Lib.hid (H3.out.far (a := ⟨S, 12, none⟩) (by have := HSB.out; have := HRB.out; simp; omega) (.int .u32 (wi ctr)))
      have HEn : Hid (Ext w (wr.setCell ⟨S, 12, none⟩ (.int .u32 (wi ctr)))) := Lib.hid (far_ext HE.out (by have := HBW.out; have := HSB.out; omega))
      go_upto_region 11 with (fail)
      clear H1 H2 H3 H4 HE f0 c0 ha0 hc0
      generalize wr.setCell ⟨S, 12, none⟩ (.int .u32 (wi ctr)) = w6 at *
      have H1 := H1n
      have H2 := H2n
      have H3 := H3n
      have H4 := HX
      have HE := HEn
      clear H1n H2n H3n HX HEn
      go_wp2_with fail
      go_loopw [9] (fun iv wr => ∃ (k : Nat), k ≤ 3 ∧ iv = .int .i64 (k : Int) ∧ Blk wr B (kb.map bval) 23 ∧ Blk wr (B + 1) (nb.map bval) 25 ∧ Blk wr R (ints .u8 (List.replicate 64 0)) 28 ∧ Blk wr S (ints .u32 (ws (chaN kb ctr nb k))) 38 ∧ Ext w wr) (fun iv _ => 3 - (intOf iv).toNat)
      case atStart => exact ⟨0, by omega, rfl, H1.out, H2.out, H3.out, H4.out, HE.out⟩
      case round =>
        clear H1 H2 H3 H4 HE
        obtain ⟨k, hk, rfl, hb1, hb2, hb3, hb4, hbel⟩ := hrel
        have k0 : (0 : Int) ≤ (k : Int) := Int.natCast_nonneg _
        by_cases hlk : k < 3
        · have k1 : (k : Int) < 3 := by omega
          have hs := cut_arrL Try.underlying25 Try.sizeOf5 wr ((B + 1)) (4 * k) (by omega)
          have e4 : ((4 * k : Nat) : Int) = 4 * (k : Int) := by omega
          rw [e4] at hs
          have HW := Lib.hid (little_any ((B + 1)) (4 * k) (12 - 4 * k) (12 - 4 * k) nb 25 wr hb2 (by have := HNL.out; omega) (by omega))
          have H1 := Lib.hid hb1
          have H2 := Lib.hid hb2
          have H3 := Lib.hid hb3
          have H4 := Lib.hid hb4
          have HE := Lib.hid hbel
          clear hb1 hb2 hb3 hb4 hbel e4
          go_wp2_with fail
          refine HW.out.mono ?_
          rintro e w5 ⟨rfl, rfl⟩
          have H1 : Hid (Blk wr.drew B (kb.map bval) 23) := Lib.hid H1.out
          have H2 : Hid (Blk wr.drew (B + 1) (nb.map bval) 25) := Lib.hid H2.out
          have H3 : Hid (Blk wr.drew R (ints .u8 (List.replicate 64 0)) 28) := Lib.hid H3.out
          have H4 : Hid (Blk wr.drew S (ints .u32 (ws (chaN kb ctr nb k))) 38) := Lib.hid H4.out
          have HE : Hid (Ext w wr.drew) := Lib.hid (HE.out.trans (Ext.drew _))
          clear HW hs
          generalize wr.drew = w5 at *
          have f0 := H4.out.free (13 + k)
          obtain ⟨u, c0⟩ : ∃ u, w5.cell? ⟨S, 13 + k, none⟩ = some u := ⟨_, word_cell H4.out (by rw [chaN_length]; omega)⟩
          have i0 : (0 : Int) ≤ 13 + (k : Int) := by omega
          have i1 : (13 : Int) + (k : Int) < 16 := by omega
          have i2 : ((13 : Int) + (k : Int)).toNat = 13 + k := by omega
          have HX : Hid (Blk (w5.setCell ⟨S, 13 + k, none⟩ (.int .u32 (wi (leW nb (4 * k))))) S (ints .u32 (ws (chaN kb ctr nb (k + 1)))) 38) := Lib.hid (set_word H4.out (13 + k) _ (leW nb (4 * k)) rfl)
          generalize leW nb (4 * k) = lw at *
          go_wp2_with fail
          go_roundw
          case rel => exact ⟨k + 1, by omega, by go_num, H1.out.far (by have := HSB.out; simp; omega) _, H2.out.far (by have := HSB.out; simp; omega) _, H3.out.far (by have := HSB.out; have := HRB.out; simp; omega) _, HX.out, far_ext HE.out (by have := HBW.out; have := HSB.out; omega)⟩
          case measure => simp [intOf]; omega
        · have hk8 : k = 3 := by omega
          subst hk8
          rw [show ((3 : Nat) : Int) = 3 from rfl]
          have H1 := Lib.hid hb1
          have H2 := Lib.hid hb2
          have H3 := Lib.hid hb3
          have H4 := Lib.hid hb4
          have HE := Lib.hid hbel
          clear hb1 hb2 hb3 hb4 hbel k0 hk
          rw [chaN_full] at H4
          have HSL := Lib.hid (chaInit_length kb ctr nb)
          have HFIN : Hid (leB (wAdd (dRun (chaInit kb ctr nb) 10) (chaInit kb ctr nb)) 64 = chaBlock kb (BitVec.ofInt 32 c) nb) := Lib.hid (by rw [← HCTR.out]; rfl)
          generalize chaInit kb ctr nb = s at *
          have HZ := Lib.hid (Blk.made wr (ints .u32 (ws (List.replicate 16 0#32))) 38)
          have HXA := Ext.alloc wr (.cells (ints .u32 (ws (List.replicate 16 0#32))).toArray 38)
          have H3 := Lib.hid (ext_blk H3.out HXA)
          have HXS := Lib.hid HE.out.size
          have HLS := Lib.hid H4.out.lt
          have HLR : Hid (R < wr.heap.size) := Lib.hid (by have := HSB.out; have := HRB.out; have := H4.out.lt; omega)
          have H4a := Lib.hid (ext_blk H4.out HXA)
          have HE := Lib.hid (HE.out.trans HXA)
          have HIs : Hid ((Try.prog.info? 38).map (·.size) = some (ints .u32 (ws s)).length) := Lib.hid (by rw [ints_length, ws_length, HSL.out]; kernel_rfl)
          have HLs : Hid ((ints .u32 (ws s)).length = (ints .u32 (ws (List.replicate 16 0#32))).length) := Lib.hid (by rw [ints_length, ws_length, HSL.out, ints_length, ws_length, List.length_replicate])
          clear HXA H1 H2 HKL HNL HA0 HC0 HCTR
          go_upto_region 16 with (first | (refine wpList_load_blk rfl _ _ rfl S rfl _ _ _ _ H4.out Try.underlying38 HIs.out ?_) | (refine wpList_store_blk rfl _ _ _ rfl wr.heap.size (ints .u32 (ws s)) rfl rfl _ _ HZ.out HLs.out HIs.out (ints_one _ _) ?_; intro w7 hb7 hg7))
          have H3 := Lib.hid (H3.out.grown hg7 (fun e => by have h := Option.some.inj e; have := HLR.out; omega))
          have H4 := Lib.hid (H4a.out.grown hg7 (fun e => by have h := Option.some.inj e; have := HLS.out; omega))
          have HE := Lib.hid (ext_grown HE.out hg7 HXS.out)
          have H5 := Lib.hid hb7
          obtain ⟨X, hX⟩ : ∃ X, X = wr.heap.size := ⟨_, rfl⟩
          have HXW : Hid (w.heap.size ≤ X ∧ S < X ∧ R < X) := Lib.hid (by have := HXS.out; have := HLS.out; have := HLR.out; omega)
          rw [← hX] at H5 ⊢
          clear hb7 hg7 HZ H4a HXS HLS HLR HIs HLs hX
          go_wp2_with fail
          go_loopw [11] (fun iv wr => ∃ (k : Nat), k ≤ 10 ∧ iv = .int .i64 (k : Int) ∧ Blk wr R (ints .u8 (List.replicate 64 0)) 28 ∧ Blk wr S (ints .u32 (ws s)) 38 ∧ Blk wr X (ints .u32 (ws (dRun s k))) 38 ∧ Ext w wr) (fun iv _ => 10 - (intOf iv).toNat)
          case atStart => exact ⟨0, by omega, rfl, H3.out, H4.out, H5.out, HE.out⟩
          case round =>
            clear H3 H4 H5 HE
            obtain ⟨k, hk, rfl, hb3, hb4, hb5, hbel⟩ := hrel
            have k0 : (0 : Int) ≤ (k : Int) := Int.natCast_nonneg _
            by_cases hlk : k < 10
            · have k1 : (k : Int) < 10 := by omega
              have HD : Hid (dround (dRun s k) = dRun s (k + 1)) := Lib.hid rfl
              have HL0 : Hid ((dRun s k).length = 16) := Lib.hid (by rw [dRun_length]; exact HSL.out)
              have H3 := Lib.hid hb3
              have H4 := Lib.hid hb4
              have H5 := Lib.hid hb5
              have HE := Lib.hid hbel
              clear hb3 hb4 hb5 hbel
              generalize dRun s k = q0 at *
              obtain ⟨q1, hq1⟩ : ∃ q, q = qrt q0 0 4 8 12 := ⟨_, rfl⟩
              have HQ0 := Lib.hid (quarter_at X q0 q1 0 4 8 12 0 4 8 12 _ H5.out HL0.out rfl rfl rfl rfl hq1.symm (by decide))
              have HL1 : Hid (q1.length = 16) := Lib.hid (by rw [hq1, qrt_length]; exact HL0.out)
              have Hq1 := Lib.hid hq1
              clear hq1
              go_wp2_with fail
              refine HQ0.out.mono ?_
              rintro e v1 ⟨rfl, hb, hg⟩
              have H3 := Lib.hid (H3.out.grown hg (fun e => by have h := Option.some.inj e; have := HXW.out; omega))
              have H4 := Lib.hid (H4.out.grown hg (fun e => by have h := Option.some.inj e; have := HXW.out; omega))
              have HE := Lib.hid (ext_grown HE.out hg HXW.out.1)
              have H5 := Lib.hid hb
              clear hb hg HQ0
              obtain ⟨q2, hq2⟩ : ∃ q, q = qrt q1 1 5 9 13 := ⟨_, rfl⟩
              have HQ1 := Lib.hid (quarter_at X q1 q2 1 5 9 13 1 5 9 13 _ H5.out HL1.out rfl rfl rfl rfl hq2.symm (by decide))
              have HL2 : Hid (q2.length = 16) := Lib.hid (by rw [hq2, qrt_length]; exact HL1.out)
              have Hq2 := Lib.hid hq2
              clear hq2
              go_wp2_with fail
              refine HQ1.out.mono ?_
              rintro e v2 ⟨rfl, hb, hg⟩
              have H3 := Lib.hid (H3.out.grown hg (fun e => by have h := Option.some.inj e; have := HXW.out; omega))
              have H4 := Lib.hid (H4.out.grown hg (fun e => by have h := Option.some.inj e; have := HXW.out; omega))
              have HE := Lib.hid (ext_grown HE.out hg HXW.out.1)
              have H5 := Lib.hid hb
              clear hb hg HQ1
              obtain ⟨q3, hq3⟩ : ∃ q, q = qrt q2 2 6 10 14 := ⟨_, rfl⟩
              have HQ2 := Lib.hid (quarter_at X q2 q3 2 6 10 14 2 6 10 14 _ H5.out HL2.out rfl rfl rfl rfl hq3.symm (by decide))
              have HL3 : Hid (q3.length = 16) := Lib.hid (by rw [hq3, qrt_length]; exact HL2.out)
              have Hq3 := Lib.hid hq3
              clear hq3
              go_wp2_with fail
              refine HQ2.out.mono ?_
              rintro e v3 ⟨rfl, hb, hg⟩
              have H3 := Lib.hid (H3.out.grown hg (fun e => by have h := Option.some.inj e; have := HXW.out; omega))
              have H4 := Lib.hid (H4.out.grown hg (fun e => by have h := Option.some.inj e; have := HXW.out; omega))
              have HE := Lib.hid (ext_grown HE.out hg HXW.out.1)
              have H5 := Lib.hid hb
              clear hb hg HQ2
              obtain ⟨q4, hq4⟩ : ∃ q, q = qrt q3 3 7 11 15 := ⟨_, rfl⟩
              have HQ3 := Lib.hid (quarter_at X q3 q4 3 7 11 15 3 7 11 15 _ H5.out HL3.out rfl rfl rfl rfl hq4.symm (by decide))
              have HL4 : Hid (q4.length = 16) := Lib.hid (by rw [hq4, qrt_length]; exact HL3.out)
              have Hq4 := Lib.hid hq4
              clear hq4
              go_wp2_with fail
              refine HQ3.out.mono ?_
              rintro e v4 ⟨rfl, hb, hg⟩
              have H3 := Lib.hid (H3.out.grown hg (fun e => by have h := Option.some.inj e; have := HXW.out; omega))
              have H4 := Lib.hid (H4.out.grown hg (fun e => by have h := Option.some.inj e; have := HXW.out; omega))
              have HE := Lib.hid (ext_grown HE.out hg HXW.out.1)
              have H5 := Lib.hid hb
              clear hb hg HQ3
              obtain ⟨q5, hq5⟩ : ∃ q, q = qrt q4 0 5 10 15 := ⟨_, rfl⟩
              have HQ4 := Lib.hid (quarter_at X q4 q5 0 5 10 15 0 5 10 15 _ H5.out HL4.out rfl rfl rfl rfl hq5.symm (by decide))
              have HL5 : Hid (q5.length = 16) := Lib.hid (by rw [hq5, qrt_length]; exact HL4.out)
              have Hq5 := Lib.hid hq5
              clear hq5
              go_wp2_with fail
              refine HQ4.out.mono ?_
              rintro e v5 ⟨rfl, hb, hg⟩
              have H3 := Lib.hid (H3.out.grown hg (fun e => by have h := Option.some.inj e; have := HXW.out; omega))
              have H4 := Lib.hid (H4.out.grown hg (fun e => by have h := Option.some.inj e; have := HXW.out; omega))
              have HE := Lib.hid (ext_grown HE.out hg HXW.out.1)
              have H5 := Lib.hid hb
              clear hb hg HQ4
              obtain ⟨q6, hq6⟩ : ∃ q, q = qrt q5 1 6 11 12 := ⟨_, rfl⟩
              have HQ5 := Lib.hid (quarter_at X q5 q6 1 6 11 12 1 6 11 12 _ H5.out HL5.out rfl rfl rfl rfl hq6.symm (by decide))
              have HL6 : Hid (q6.length = 16) := Lib.hid (by rw [hq6, qrt_length]; exact HL5.out)
              have Hq6 := Lib.hid hq6
              clear hq6
              go_wp2_with fail
              refine HQ5.out.mono ?_
              rintro e v6 ⟨rfl, hb, hg⟩
              have H3 := Lib.hid (H3.out.grown hg (fun e => by have h := Option.some.inj e; have := HXW.out; omega))
              have H4 := Lib.hid (H4.out.grown hg (fun e => by have h := Option.some.inj e; have := HXW.out; omega))
              have HE := Lib.hid (ext_grown HE.out hg HXW.out.1)
              have H5 := Lib.hid hb
              clear hb hg HQ5
              obtain ⟨q7, hq7⟩ : ∃ q, q = qrt q6 2 7 8 13 := ⟨_, rfl⟩
              have HQ6 := Lib.hid (quarter_at X q6 q7 2 7 8 13 2 7 8 13 _ H5.out HL6.out rfl rfl rfl rfl hq7.symm (by decide))
              have HL7 : Hid (q7.length = 16) := Lib.hid (by rw [hq7, qrt_length]; exact HL6.out)
              have Hq7 := Lib.hid hq7
              clear hq7
              go_wp2_with fail
              refine HQ6.out.mono ?_
              rintro e v7 ⟨rfl, hb, hg⟩
              have H3 := Lib.hid (H3.out.grown hg (fun e => by have h := Option.some.inj e; have := HXW.out; omega))
              have H4 := Lib.hid (H4.out.grown hg (fun e => by have h := Option.some.inj e; have := HXW.out; omega))
              have HE := Lib.hid (ext_grown HE.out hg HXW.out.1)
              have H5 := Lib.hid hb
              clear hb hg HQ6
              obtain ⟨q8, hq8⟩ : ∃ q, q = qrt q7 3 4 9 14 := ⟨_, rfl⟩
              have HQ7 := Lib.hid (quarter_at X q7 q8 3 4 9 14 3 4 9 14 _ H5.out HL7.out rfl rfl rfl rfl hq8.symm (by decide))
              have HL8 : Hid (q8.length = 16) := Lib.hid (by rw [hq8, qrt_length]; exact HL7.out)
              have Hq8 := Lib.hid hq8
              clear hq8
              go_wp2_with fail
              refine HQ7.out.mono ?_
              rintro e v8 ⟨rfl, hb, hg⟩
              have H3 := Lib.hid (H3.out.grown hg (fun e => by have h := Option.some.inj e; have := HXW.out; omega))
              have H4 := Lib.hid (H4.out.grown hg (fun e => by have h := Option.some.inj e; have := HXW.out; omega))
              have HE := Lib.hid (ext_grown HE.out hg HXW.out.1)
              have H5 := Lib.hid hb
              clear hb hg HQ7
              have HDD : Hid (q8 = dRun s (k + 1)) := Lib.hid (by rw [← HD.out, Hq8.out, Hq7.out, Hq6.out, Hq5.out, Hq4.out, Hq3.out, Hq2.out, Hq1.out]; rfl)
              clear Hq1 Hq2 Hq3 Hq4 Hq5 Hq6 Hq7 Hq8
              go_wp2_with fail
              go_roundw
              case rel => exact ⟨k + 1, by omega, by go_num, H3.out, H4.out, by rw [← HDD.out]; exact H5.out, HE.out⟩
              case measure => simp [intOf]; omega
            · have hk8 : k = 10 := by omega
              subst hk8
              rw [show ((10 : Nat) : Int) = 10 from rfl]
              have H3 := Lib.hid hb3
              have H4 := Lib.hid hb4
              have H5 := Lib.hid hb5
              have HE := Lib.hid hbel
              clear hb3 hb4 hb5 hbel k0 hk
              have HXL : Hid ((dRun s 10).length = 16) := Lib.hid (by rw [dRun_length]; exact HSL.out)
              generalize dRun s 10 = x at *
              have HWL : Hid ((leB (wAdd x s) 64).length = 64) := Lib.hid (leB_length _ _)
              have HOB : Hid (∀ j, j < 64 → (leB (wAdd x s) 64).getD j 0 = UInt8.ofNat ((x.getD (j / 4) 0#32 + s.getD (j / 4) 0#32).toNat / 2 ^ (8 * (j % 4)) % 256)) := Lib.hid (fun j hj => by
                rw [← wAdd_getD x s (by omega : j / 4 < 16)]
                exact leB_getD _ hj)
              generalize leB (wAdd x s) 64 = o at *
              obtain ⟨Y, hY⟩ : ∃ Y, Y = wr.heap.size := ⟨_, rfl⟩
              have HYW : Hid (w.heap.size ≤ Y ∧ S < Y ∧ R < Y ∧ X < Y) := Lib.hid (by have := HE.out.size; have := H4.out.lt; have := H3.out.lt; have := H5.out.lt; omega)
              have HXA := Ext.alloc wr (.cells (ints .u8 (List.replicate 64 0)).toArray 28)
              have H6 : Hid (Blk (wr.alloc (.cells (ints .u8 (List.replicate 64 0)).toArray 28)) Y ((fill 64 o 0).map bval) 28) := Lib.hid (by rw [fill_start, hY]; exact Blk.made wr (ints .u8 (List.replicate 64 0)) 28)
              have H3n := Lib.hid (ext_blk H3.out HXA)
              have H4n := Lib.hid (ext_blk H4.out HXA)
              have H5n := Lib.hid (ext_blk H5.out HXA)
              have HEn := Lib.hid (HE.out.trans HXA)
              clear HXA
              go_upto_region 28 with (fail)
              change Code.wp _ _ _ _ (wr.alloc (.cells (ints .u8 (List.replicate 64 0)).toArray 28))
              rw [← hY]
              clear H3 H4 H5 HE hY
              generalize wr.alloc (.cells (ints .u8 (List.replicate 64 0)).toArray 28) = w8 at *
              go_wp2_with fail
              go_loopw [13] (fun iv wr => ∃ (k : Nat), k ≤ 64 ∧ iv = .int .i64 (k : Int) ∧ Blk wr R (ints .u8 (List.replicate 64 0)) 28 ∧ Blk wr S (ints .u32 (ws s)) 38 ∧ Blk wr X (ints .u32 (ws x)) 38 ∧ Blk wr Y ((fill 64 o k).map bval) 28 ∧ Ext w wr) (fun iv _ => 64 - (intOf iv).toNat)
              case atStart => exact ⟨0, by omega, rfl, H3n.out, H4n.out, H5n.out, H6.out, HEn.out⟩
              case round =>
                clear H3n H4n H5n H6 HEn
                obtain ⟨k, hk, rfl, hb3, hb4, hb5, hb6, hbel⟩ := hrel
                have k0 : (0 : Int) ≤ (k : Int) := Int.natCast_nonneg _
                by_cases hlk : k < 64
                · have k1 : (k : Int) < 64 := by omega
                  have c1 := word_cell hb5 (i := k / 4) (by rw [HXL.out]; omega)
                  have c2 := word_cell hb4 (i := k / 4) (by rw [HSL.out]; omega)
                  have f3 := hb6.free k
                  have hob := HOB.out k hlk
                  have s1 := wi_add (x.getD (k / 4) 0#32) (s.getD (k / 4) 0#32)
                  generalize x.getD (k / 4) 0#32 = xa at *
                  generalize s.getD (k / 4) 0#32 = sa at *
                  generalize hva : xa + sa = va at *
                  obtain ⟨d, hd⟩ : ∃ d, d = k / 4 := ⟨_, rfl⟩
                  obtain ⟨r, hr⟩ : ∃ r, r = k % 4 := ⟨_, rfl⟩
                  have q1 : (k : Int) / 4 = (d : Int) := by omega
                  have q2 : (k : Int) % 4 = (r : Int) := by omega
                  have q3 : (d : Int) < 16 := by omega
                  have q4 : (0 : Int) ≤ (d : Int) := by omega
                  have q5 : (r : Int) < 4 := by omega
                  have q6 : (0 : Int) ≤ (r : Int) := by omega
                  rw [← hd] at c1 c2
                  rw [← hr] at hob
                  clear hd hr
                  obtain ⟨u6, c6⟩ : ∃ u, wr.cell? ⟨Y, k, none⟩ = some u := ⟨_, by rw [hb6.cell, bval_get (by rw [fill_length HWL.out (by omega)]; exact hlk)]⟩
                  have H3 := Lib.hid hb3
                  have H4 := Lib.hid hb4
                  have H5 := Lib.hid hb5
                  have H6 := Lib.hid hb6
                  have HE := Lib.hid hbel
                  clear hb3 hb4 hb5 hb6 hbel hva
                  go_wp2_with fail
                  go_region
                  go_wp2_with fail
                  go_roundw
                  case rel =>
                    have hz := word_byte va r _ hob
                    refine ⟨k + 1, by omega, by go_num, H3.out.far (by have := HYW.out; simp; omega) _, H4.out.far (by have := HYW.out; simp; omega) _, H5.out.far (by have := HYW.out; simp; omega) _, ?_, (far_ext HE.out HYW.out.1).trans (Ext.drew _)⟩
                    rw [← fill_set_val HWL.out hlk hz]
                    exact H6.out.set k _
                  case measure => simp [intOf]; omega
                · have hk8 : k = 64 := by omega
                  subst hk8
                  rw [fill_full HWL.out] at hb6
                  have H3 := Lib.hid hb3
                  have H6 := Lib.hid hb6
                  have HE := Lib.hid hbel
                  clear hb3 hb4 hb5 hb6 hbel
                  have HIo : Hid ((Try.prog.info? 28).map (·.size) = some (o.map bval).length) := Lib.hid (sig_size HWL.out)
                  have HLo : Hid ((o.map bval).length = (ints .u8 (List.replicate 64 0)).length) := Lib.hid (by rw [List.length_map, HWL.out, ints_length, List.length_replicate])
                  go_wp2_with (first | (refine wpList_load_blk rfl _ _ rfl Y rfl _ _ _ _ H6.out Try.underlying28 HIo.out ?_) | (refine wpList_store_blk rfl _ _ _ rfl R (o.map bval) rfl rfl _ _ H3.out HLo.out HIo.out (bval_one _) ?_; intro w9 hb9 hg9))
                  refine bodyPost_ret (result_blk rfl _ R _ _ _ _ rfl hb9 Try.underlying28 HIo.out) rfl ?_
                  exact ⟨by rw [HFIN.out], ext_grown HE.out hg9 (by have := HBW.out; have := HRB.out; omega)⟩

end Go.Proofs.Ytldpmphecgffcaa
