/- Lemmas. -/
import Derived.Test.YthafgicndklgfaaGreatDoorRows
import Derived.Test.YthafgicndklgfaaGreatDoorQy04
namespace Go.Proofs.YthafgicndklgfaaGreatDoor
set_option linter.unusedVariables false
set_option maxRecDepth 100000
set_option maxHeartbeats 32000000
set_option linter.unusedSimpArgs false
open Go.RowKit
theorem gRootsQ : Tryz.prog.globalNamed "portcullis/shb.roots" = some 7 := by kernel_rfl
theorem tRootsQ : (Tryz.prog.globals[7]?).map (·.type) = some 137 := by kernel_rfl
theorem dRootsQ : (Rows.laid_portcullis_shb_roots : DataW Unit) = .agg ((qs K512).map fun z => .lit (.int .u64 z)) := by kernel_rfl
theorem gK256Q : Tryz.prog.globalNamed "portcullis/portcullisref1.k512" = some 4 := by kernel_rfl
theorem tK256Q : (Tryz.prog.globals[4]?).map (·.type) = some 137 := by kernel_rfl
theorem dK256Q : (Rows.laid_portcullis_portcullisref1_k512 : DataW Unit) = .agg ((qs K512).map fun z => .lit (.int .u64 z)) := by kernel_rfl
theorem globR_ofQ {W : World} {L : List (String × DataW Unit)} (hp : (L.all fun x => x.2.handleName?.isNone) = true) (h : laidMetH Tryz.prog L W) (hm : ("portcullis/shb.roots", Rows.laid_portcullis_shb_roots) ∈ L) : GlobRQ W :=
 zcm hp h hm dRootsQ gRootsQ tRootsQ q167 q156 (by kernel_rfl) (by rw [zay]; rfl)
theorem globK_ofQ {W : World} {L : List (String × DataW Unit)} (hp : (L.all fun x => x.2.handleName?.isNone) = true) (h : laidMetH Tryz.prog L W) (hm : ("portcullis/portcullisref1.k512", Rows.laid_portcullis_portcullisref1_k512) ∈ L) : GlobK5 W :=
 zcm hp h hm dK256Q gK256Q tK256Q q167 q156 (by kernel_rfl) (by rw [zay]; rfl)
theorem gCurD : Tryz.prog.globalNamed "portcullis/portcullisref3.d" = some 2 := by kernel_rfl
theorem tCurD : (Tryz.prog.globals[2]?).map (·.type) = some 68 := by kernel_rfl
theorem dCurD : (Rows.laid_portcullis_portcullisref3_d : DataW Unit) = .agg (dL.map fun z => .lit (.int .i64 z)) := rfl
theorem gCurX : Tryz.prog.globalNamed "portcullis/portcullisref3.baseX" = some 0 := by kernel_rfl
theorem tCurX : (Tryz.prog.globals[0]?).map (·.type) = some 68 := by kernel_rfl
theorem dCurX : (Rows.laid_portcullis_portcullisref3_baseX : DataW Unit) = .agg (bxL.map fun z => .lit (.int .i64 z)) := rfl
theorem gCurY : Tryz.prog.globalNamed "portcullis/portcullisref3.baseY" = some 1 := by kernel_rfl
theorem tCurY : (Tryz.prog.globals[1]?).map (·.type) = some 68 := by kernel_rfl
theorem dCurY : (Rows.laid_portcullis_portcullisref3_baseY : DataW Unit) = .agg (byL.map fun z => .lit (.int .i64 z)) := rfl
theorem gCurL : Tryz.prog.globalNamed "portcullis/portcullisref3.rootOfMinusOne" = some 6 := by kernel_rfl
theorem tCurL : (Tryz.prog.globals[6]?).map (·.type) = some 68 := by kernel_rfl
theorem dCurL : (Rows.laid_portcullis_portcullisref3_rootOfMinusOne : DataW Unit) = .agg (RTL.map fun z => .lit (.int .i64 z)) := rfl
def dByL : List Int := [0xa3, 0x78, 0x59, 0x13, 0xca, 0x4d, 0xeb, 0x75, 0xab, 0xd8, 0x41, 0x41, 0x4d, 0x0a, 0x70, 0x00, 0x98, 0xe8, 0x79, 0x77, 0x79, 0x40, 0xc7, 0x8c, 0x73, 0xfe, 0x6f, 0x2b, 0xee, 0x6c, 0x03, 0x52]
theorem dBy_cells : (nbF dF).map bval = ints .u8 dByL := by
 have h : nbF dF = dByL.map (fun z => UInt8.ofNat z.toNat) := by decide +kernel
 rw [h]
 rfl
theorem gCurC : Tryz.prog.globalNamed "portcullis/curve.d" = some 3 := by kernel_rfl
theorem tCurC : (Tryz.prog.globals[3]?).map (·.type) = some 23 := by kernel_rfl
theorem dCurC : (Rows.laid_portcullis_curve_d : DataW Unit) = .agg (dByL.map fun z => .lit (.int .u8 z)) := rfl
theorem globD_of {W : World} {L : List (String × DataW Unit)} (hp : (L.all fun x => x.2.handleName?.isNone) = true) (h : laidMetH Tryz.prog L W) (hm : ("portcullis/portcullisref3.d", Rows.laid_portcullis_portcullisref3_d) ∈ L) : GlobD W :=
 zcm hp h hm dCurD gCurD tCurD q103 q147 (by kernel_rfl) rfl
theorem globX_of {W : World} {L : List (String × DataW Unit)} (hp : (L.all fun x => x.2.handleName?.isNone) = true) (h : laidMetH Tryz.prog L W) (hm : ("portcullis/portcullisref3.baseX", Rows.laid_portcullis_portcullisref3_baseX) ∈ L) : GlobX W :=
 zcm hp h hm dCurX gCurX tCurX q103 q147 (by kernel_rfl) rfl
theorem globY_of {W : World} {L : List (String × DataW Unit)} (hp : (L.all fun x => x.2.handleName?.isNone) = true) (h : laidMetH Tryz.prog L W) (hm : ("portcullis/portcullisref3.baseY", Rows.laid_portcullis_portcullisref3_baseY) ∈ L) : GlobY W :=
 zcm hp h hm dCurY gCurY tCurY q103 q147 (by kernel_rfl) rfl
theorem globL_of {W : World} {L : List (String × DataW Unit)} (hp : (L.all fun x => x.2.handleName?.isNone) = true) (h : laidMetH Tryz.prog L W) (hm : ("portcullis/portcullisref3.rootOfMinusOne", Rows.laid_portcullis_portcullisref3_rootOfMinusOne) ∈ L) : Glob W :=
 zcm hp h hm dCurL gCurL tCurL q103 q147 (by kernel_rfl) rfl
theorem globC_of {W : World} {L : List (String × DataW Unit)} (hp : (L.all fun x => x.2.handleName?.isNone) = true) (h : laidMetH Tryz.prog L W) (hm : ("portcullis/curve.d", Rows.laid_portcullis_curve_d) ∈ L) : GlobC W := by
 have e := zcm hp h hm dCurC gCurC tCurC q100 q111 (by kernel_rfl) rfl
 unfold GlobC
 rw [dBy_cells]
 exact e
section
open Go.ChangeShapes Go.WideShapes Go.ChangeAt Go.RowKit
def certC (id : Int) (key sig : List UInt8) : List Value := .int .i64 id :: (key.map bval ++ sig.map bval)
def stopC (id : Int) (sig : List UInt8) : List Value := .int .i64 id :: sig.map bval
theorem zbz {id : Int} {key sig : List UInt8} (hk : key.length = 32) (hs : sig.length = 64) : (certC id key sig).length = 97 := by
 unfold certC
 rw [q126, q108, q101, q101, hk, hs]
theorem zco {id : Int} {sig : List UInt8} (hs : sig.length = 64) : (stopC id sig).length = 65 := by
 unfold stopC
 rw [q126, q101, hs]
theorem zek (id : Int) (key sig : List UInt8) : ∀ v ∈ certC id key sig, v.oneCell' = true := by
 intro v hv
 unfold certC at hv
 rcases List.mem_cons.1 hv with rfl | hv
 ·rfl
 ·rcases List.mem_append.1 hv with h | h
  ·exact zaf _ v h
  ·exact zaf _ v h
theorem zfc (id : Int) (sig : List UInt8) : ∀ v ∈ stopC id sig, v.oneCell' = true := by
 intro v hv
 unfold stopC at hv
 rcases List.mem_cons.1 hv with rfl | hv
 ·rfl
 ·exact zaf _ v hv
end
theorem fill_layV {place : Nat → Option (Nat × Nat)} {i off n : Nat} {pre mid post new : List Value} {rest : List (Nat × Value)} {v : Value} (hc : v.cells = new.toArray) (hp : place i = some (off, n)) (hl : pre.length = off) (hm : mid.length = n) (hn : new.length = n) :
  Instr.fill place (pre ++ (mid ++ post)).toArray ((i, v) :: rest) = Instr.fill place (pre ++ (new ++ post)).toArray rest := by
 have e : (new.toArray.zipIdx.foldl (fun (cs : Array Value) (x : Value × Nat) => cs.setIfInBounds (off + x.2) x.1) (pre ++ (mid ++ post)).toArray) = (pre ++ (new ++ post)).toArray := by
  rw [← fold_lay off post new mid pre 0 (by rw [hn, hm]) (by rw [hl]; rfl), ← Array.foldl_toList, Array.toList_zipIdx]
 rw [Instr.fill, hp]
 have h1 : v.cells.size = n := by rw [hc]; simpa using hn
 have h2 : ¬ (off + n > (pre ++ (mid ++ post)).toArray.size) := by simp [hl, hm]
 simp only [h1]
 rw [if_neg (by simp [h2]; simp at h2; omega), hc]
 exact congrArg (fun z => Instr.fill place z rest) e
theorem fill_cert {place : Nat → Option (Nat × Nat)} (p0 : place 0 = some (0, 1)) (p1 : place 1 = some (1, 32)) (p2 : place 2 = some (33, 64)) (zero : Array Value) (hz : zero.size = 97) {id : Int} {key sig : List UInt8} (hk : key.length = 32) (hs : sig.length = 64) :
  Instr.fill place zero [(0, .int .i64 id), (1, .agg (key.map bval).toArray), (2, .agg (sig.map bval).toArray)] = some (certC id key sig).toArray := by
 obtain ⟨l, hl⟩ : ∃ l : List Value, zero = l.toArray ∧ l.length = 97 := ⟨zero.toList, by simp, by simpa using hz⟩
 obtain ⟨rfl, hl⟩ := hl
 have e0 : l = [] ++ (l.take 1 ++ ((l.drop 1).take 32 ++ l.drop 33)) := by
  rw [q118]
  have h2 : (l.drop 1).take 32 ++ l.drop 33 = l.drop 1 := by rw [show l.drop 33 = (l.drop 1).drop 32 by rw [q166], q117]
  rw [h2, q117]
 have l0 : (l.take 1).length = 1 := by simp [hl]
 have l1 : ((l.drop 1).take 32).length = 32 := by simp [hl]
 have l2 : (l.drop 33).length = 64 := by simp [hl]
 generalize l.take 1 = q0 at *
 generalize (l.drop 1).take 32 = q1 at *
 generalize l.drop 33 = q2 at *
 rw [e0, fill_layV (off := 0) (n := 1) (new := [.int .i64 id]) rfl p0 rfl l0 rfl]
 rw [show ([] : List Value) ++ ([Value.int .i64 id] ++ (q1 ++ q2)) = [Value.int .i64 id] ++ (q1 ++ q2) from rfl, fill_layV (off := 1) (n := 32) (new := key.map bval) rfl p1 rfl l1 (by rw [q101, hk])]
 rw [show [Value.int .i64 id] ++ (key.map bval ++ q2) = (Value.int .i64 id :: key.map bval) ++ (q2 ++ []) by simp, fill_layV (off := 33) (n := 64) (new := sig.map bval) rfl p2 (by rw [q126, q101, hk]) l2 (by rw [q101, hs])]
 rw [Instr.fill]
 simp [certC]
theorem fill_stop {place : Nat → Option (Nat × Nat)} (p0 : place 0 = some (0, 1)) (p1 : place 1 = some (1, 64)) (zero : Array Value) (hz : zero.size = 65) {id : Int} {sig : List UInt8} (hs : sig.length = 64) :
  Instr.fill place zero [(0, .int .i64 id), (1, .agg (sig.map bval).toArray)] = some (stopC id sig).toArray := by
 obtain ⟨l, hl⟩ : ∃ l : List Value, zero = l.toArray ∧ l.length = 65 := ⟨zero.toList, by simp, by simpa using hz⟩
 obtain ⟨rfl, hl⟩ := hl
 have e0 : l = [] ++ (l.take 1 ++ l.drop 1) := by rw [q118, q117]
 have l0 : (l.take 1).length = 1 := by simp [hl]
 have l1 : (l.drop 1).length = 64 := by simp [hl]
 generalize l.take 1 = q0 at *
 generalize l.drop 1 = q1 at *
 rw [e0, fill_layV (off := 0) (n := 1) (new := [.int .i64 id]) rfl p0 rfl l0 rfl]
 rw [show ([] : List Value) ++ ([Value.int .i64 id] ++ q1) = [Value.int .i64 id] ++ (q1 ++ []) by simp, fill_layV (off := 1) (n := 64) (new := sig.map bval) rfl p1 rfl l1 (by rw [q101, hs])]
 rw [Instr.fill]
 simp [stopC]
def byteAt (n : Int) (k : Nat) : UInt8 := UInt8.ofNat ((n / 256 ^ k) % 256).toNat
def pck_be8 (n : Int) : List UInt8 := [byteAt n 7, byteAt n 6, byteAt n 5, byteAt n 4, byteAt n 3, byteAt n 2, byteAt n 1, byteAt n 0]
theorem be8_length (n : Int) : (pck_be8 n).length = 8 := rfl
def be8s (ns : List Int) : List UInt8 := ns.flatMap pck_be8
theorem be8s_length (ns : List Int) : (be8s ns).length = 8 * ns.length := by
 induction ns with
 | nil => rfl
 | cons n ns ih => simp [be8s] at ih ⊢; rw [be8_length]; omega
theorem be8s_snoc (ns : List Int) (n : Int) : be8s (ns ++ [n]) = be8s ns ++ pck_be8 n := by simp [be8s]
theorem byte_cell (n : Int) (k : Nat) : bval (byteAt n k) = .int .u8 ((n / 256 ^ k) % 256) := by
 unfold bval byteAt
 congr 1
 generalize n / 256 ^ k = m
 rw [UInt8.toNat_ofNat']
 omega
def accN (l : List UInt8) : Nat := l.foldl (fun a b => a * 256 + b.toNat) 0
theorem accN_snoc (l : List UInt8) (b : UInt8) : accN (l ++ [b]) = accN l * 256 + b.toNat := by simp [accN]
theorem accN_from : ∀ (l : List UInt8) (a : Nat), l.foldl (fun a b => a * 256 + b.toNat) a < (a + 1) * 256 ^ l.length
 | [], a => by simp
 | b :: l, a => by
  have hb := b.toNat_lt
  have h := accN_from l (a * 256 + b.toNat)
  have h2 : (a * 256 + b.toNat + 1) * 256 ^ l.length ≤ ((a + 1) * 256) * 256 ^ l.length := Nat.mul_le_mul_right _ (by omega)
  rw [List.foldl_cons, q126, q128, q129 (256 ^ l.length), ← Nat.mul_assoc]
  omega
theorem accN_lt (l : List UInt8) : accN l < 256 ^ l.length := by
 have := accN_from l 0
 simpa [accN] using this
def decI (l : List UInt8) : Int := IntKind.i64.wrap (accN l : Int)
def certT (id : Int) (key : List UInt8) : List UInt8 := [80, 67, 67, 84] ++ be8s [id] ++ key
def stopT (id : Int) : List UInt8 := [80, 67, 83, 84] ++ be8s [id]
theorem zez (id : Int) (key : List UInt8) : (certT id key).length = 12 + key.length := by
 unfold certT
 rw [q108, q108, be8s_length]
 rfl
theorem zev (id : Int) : (stopT id).length = 12 := by
 unfold stopT
 rw [q108, be8s_length]
 rfl
theorem enc_run {n : Nat} (hn : n < 2 ^ 255) (x y : Fp) (h : (erun 255 bP.es n 255).x = x * (erun 255 bP.es n 255).z ∧ (erun 255 bP.es n 255).y = y * (erun 255 bP.es n 255).z) : encB (pmul n bP) = bytesN 32 (y.val + 2 ^ 255 * (x.val % 2)) := by
 have hr := erun_full (P := bP) (p := bP.es) bP.es_is (m := 255) (n := n) hn
 obtain ⟨hz, hx, hy, _⟩ := hr
 have ex : (pmul n bP).x = x := f_cancel hz (by rw [← hx, h.1])
 have ey : (pmul n bP).y = y := f_cancel hz (by rw [← hy, h.2])
 unfold encB enc
 rw [ex, ey]
theorem crt_A1 : encB (pmul 41354757114163650016304086911142683682198188400503391378057401993857692208328 bP) = [206, 204, 21, 7, 220, 29, 221, 114, 149, 149, 28, 41, 8, 136, 240, 149, 173, 185, 4, 77, 27, 115, 214, 150, 230, 223, 6, 93, 104, 59, 212, 252] :=
 (enc_run (by decide +kernel) ⟨26822555233711949854380153315158647482531717314742952720223963642152101436051, by decide +kernel⟩ ⟨56461774818723834839721450787889437474891852695816614318545467683432985644238, by decide +kernel⟩ (by decide +kernel)).trans (by decide +kernel)
theorem crt_A2 : encB (pmul 55664205513570705882943352121533683204085728697754008713616386209201003445688 bP) = [107, 121, 197, 126, 106, 9, 82, 57, 40, 44, 4, 129, 142, 150, 17, 47, 63, 3, 164, 0, 27, 169, 122, 86, 76, 35, 133, 42, 63, 30, 165, 252] :=
 (enc_run (by decide +kernel) ⟨30502062408368802319605209355040172200299064220671145128052775605321946045309, by decide +kernel⟩ ⟨56378531745358395318699445366766802391580978637127663975616544628844918045035, by decide +kernel⟩ (by decide +kernel)).trans (by decide +kernel)
theorem crt_R1 : encB (pmul 3950968659839017653151674211730670039365982975884431263827104867004541826648 bP) = [62, 234, 173, 71, 9, 3, 70, 53, 61, 157, 249, 228, 152, 60, 167, 169, 179, 82, 245, 143, 192, 175, 86, 104, 179, 124, 108, 171, 91, 52, 72, 102] :=
 (enc_run (by decide +kernel) ⟨7692218499949355921737928689712964079720222711820620649755695901550593185280, by decide +kernel⟩ ⟨46263484906375425990682255419184497146330214963319912668434927712425617517118, by decide +kernel⟩ (by decide +kernel)).trans (by decide +kernel)
theorem crt_S1 : encB (pmul 184189412210768245726970654042821325609280073895126154765246865291006072292 bP) = [190, 131, 4, 98, 75, 230, 6, 248, 123, 127, 59, 154, 158, 109, 158, 133, 161, 135, 85, 218, 162, 246, 73, 21, 93, 61, 102, 109, 140, 136, 61, 47] :=
 (enc_run (by decide +kernel) ⟨10827828856129047660503007739836823143195572713405764170370166679687863584250, by decide +kernel⟩ ⟨21367423977781797381013067140352615737579187169338212538528316317496842159038, by decide +kernel⟩ (by decide +kernel)).trans (by decide +kernel)
theorem crt_S2 : encB (pmul 264150224299017602364594987029461026705674506060198355530202940255869726971 bP) = [86, 90, 144, 58, 63, 139, 40, 135, 234, 10, 114, 132, 251, 33, 148, 230, 115, 39, 188, 239, 116, 217, 116, 58, 14, 73, 10, 65, 171, 90, 86, 62] :=
 (enc_run (by decide +kernel) ⟨12572726672057574775557358118181579851060636992816669082031202171001339211578, by decide +kernel⟩ ⟨28195971233905078480630058699952997230176949270950107249587615479534353144406, by decide +kernel⟩ (by decide +kernel)).trans (by decide +kernel)
theorem crt_a1 : leN (secA (1 :: List.replicate 31 0)) = 41354757114163650016304086911142683682198188400503391378057401993857692208328 := by decide +kernel
theorem crt_a2 : leN (secA (2 :: List.replicate 31 0)) = 55664205513570705882943352121533683204085728697754008713616386209201003445688 := by decide +kernel
def crtK : List UInt8 := [107, 121, 197, 126, 106, 9, 82, 57, 40, 44, 4, 129, 142, 150, 17, 47, 63, 3, 164, 0, 27, 169, 122, 86, 76, 35, 133, 42, 63, 30, 165, 252]
def crtR : List UInt8 := [62, 234, 173, 71, 9, 3, 70, 53, 61, 157, 249, 228, 152, 60, 167, 169, 179, 82, 245, 143, 192, 175, 86, 104, 179, 124, 108, 171, 91, 52, 72, 102]
theorem crt_pub1 : edPub (1 :: List.replicate 31 0) = [206, 204, 21, 7, 220, 29, 221, 114, 149, 149, 28, 41, 8, 136, 240, 149, 173, 185, 4, 77, 27, 115, 214, 150, 230, 223, 6, 93, 104, 59, 212, 252] := by
 unfold edPub
 rw [crt_a1, crt_A1]
theorem crt_pub2 : edPub (2 :: List.replicate 31 0) = crtK := by
 unfold edPub
 rw [crt_a2, crt_A2]
 rfl
theorem crt_r : leN (edNum (1 :: List.replicate 31 0) (certT 7 crtK)) = 3950968659839017653151674211730670039365982975884431263827104867004541826648 := by decide +kernel
theorem crt_R : edR (1 :: List.replicate 31 0) (certT 7 crtK) = crtR := by
 unfold edR
 rw [crt_r, crt_R1]
 rfl
theorem crt_h : leN (wideB (crtR ++ ([206, 204, 21, 7, 220, 29, 221, 114, 149, 149, 28, 41, 8, 136, 240, 149, 173, 185, 4, 77, 27, 115, 214, 150, 230, 223, 6, 93, 104, 59, 212, 252] ++ certT 7 crtK))) = 3890023104102858477468153035370403413392891969950640949113303246261996983300 := by decide +kernel
theorem crt_h2 : leN (wideB (crtR ++ (crtK ++ certT 7 crtK))) = 5592937416847861173854396642455612761716161801643930052171426580182604897940 := by decide +kernel
theorem crt_S : leN (edS (1 :: List.replicate 31 0) (certT 7 crtK)) = 184189412210768245726970654042821325609280073895126154765246865291006072292 := by
 rw [leN_edS, crt_r, crt_R, crt_pub1, crt_h, crt_a1]
 decide +kernel
theorem crt_not : ¬ edVer (edPub (2 :: List.replicate 31 0)) (edSign (1 :: List.replicate 31 0) (certT 7 (edPub (2 :: List.replicate 31 0)))) (certT 7 (edPub (2 :: List.replicate 31 0))) := by
 rw [edVer_of (A := pmul (leN (secA (2 :: List.replicate 31 0))) bP) (R := pmul (leN (edNum (1 :: List.replicate 31 0) (certT 7 (edPub (2 :: List.replicate 31 0))))) bP) (show encB _ = edPub (2 :: List.replicate 31 0) from rfl) (by rw [sign_take]; rfl), sign_take, sign_drop, crt_pub2, crt_S, crt_r, crt_R, crt_h2, crt_a2, ← sign_holds]
 rintro ⟨_, h⟩
 have e : (3950968659839017653151674211730670039365982975884431263827104867004541826648 + 5592937416847861173854396642455612761716161801643930052171426580182604897940 * 55664205513570705882943352121533683204085728697754008713616386209201003445688) % qB = 264150224299017602364594987029461026705674506060198355530202940255869726971 := by decide +kernel
 rw [e] at h
 have h2 := crt_S1
 rw [h, crt_S2] at h2
 exact absurd h2 (by decide +kernel)
def smallB (n : Int) : Bool := decide (0 ≤ n) && decide (n ≤ 2147483647)
theorem smallB_of {n : Int} (h1 : 0 ≤ n) (h2 : n ≤ 2147483647) : smallB n = true := by
 unfold smallB
 rw [decide_eq_true h1, decide_eq_true h2]
 rfl
theorem smallB_lo {n : Int} (h : smallB n = true) : 0 ≤ n := by
 unfold smallB at h
 rw [Bool.and_eq_true, decide_eq_true_iff, decide_eq_true_iff] at h
 exact h.1
theorem smallB_hi {n : Int} (h : smallB n = true) : n ≤ 2147483647 := by
 unfold smallB at h
 rw [Bool.and_eq_true, decide_eq_true_iff, decide_eq_true_iff] at h
 exact h.2
theorem smallB_not {n : Int} (h : ¬ (0 ≤ n ∧ n ≤ 2147483647)) : smallB n = false := by
 cases hb : smallB n with
 | false => rfl
 | true => exact absurd ⟨smallB_lo hb, smallB_hi hb⟩ h
def certG (root : List UInt8) (id : Int) (key : List UInt8) : List UInt8 := edSign root (certT id key)
def stopG (root : List UInt8) (id : Int) : List UInt8 := edSign root (stopT id)
theorem certG_length (root : List UInt8) (id : Int) (key : List UInt8) : (certG root id key).length = 64 := zdn _ _
noncomputable def certV (pub : List UInt8) (id : Int) (key sig : List UInt8) : Bool := smallB id && verB pub sig (certT id key)
noncomputable def stopV (pub : List UInt8) (id : Int) (sig : List UInt8) : Bool := smallB id && verB pub sig (stopT id)
theorem certV_sign (root : List UInt8) {id : Int} (key : List UInt8) (h : smallB id = true) : certV (edPub root) id key (certG root id key) = true := by
 unfold certV
 rw [h, show verB (edPub root) (certG root id key) (certT id key) = true from verB_true (ver_sign _ _)]
 rfl
theorem certV_other : certV (edPub (2 :: List.replicate 31 0)) 7 (edPub (2 :: List.replicate 31 0)) (certG (1 :: List.replicate 31 0) 7 (edPub (2 :: List.replicate 31 0))) = false := by
 unfold certV certG
 rw [zeu crt_not, Bool.and_false]
def stopB (id : Int) (sig : List UInt8) : List UInt8 := stopT id ++ sig
theorem stopB_length (id : Int) {sig : List UInt8} (h : sig.length = 64) : (stopB id sig).length = 76 := by
 unfold stopB
 rw [q108, zev, h]
def readS (b : List UInt8) : Option (Int × List UInt8) :=
 if b.length = 76 ∧ b.take 4 = [80, 67, 83, 84] ∧ smallB (decI ((b.drop 4).take 8)) = true then some (decI ((b.drop 4).take 8), b.drop 12) else none
theorem readS_long {b : List UInt8} (h : b.length ≠ 76) : readS b = none := if_neg (fun e => h e.1)
def z32 : List UInt8 := List.replicate 32 0
def z64 : List UInt8 := List.replicate 64 0
theorem zde : z32.length = 32 := by simp [z32]
theorem zbv : z64.length = 64 := by simp [z64]
theorem zdv {id : Int} {key sig : List UInt8} (hk : key.length = 32) (hs : sig.length = 64) : (Tryz.prog.info? 28).map (·.size) = some (certC id key sig).length := by
 rw [zbz hk hs]
 kernel_rfl
theorem zdp {id : Int} {sig : List UInt8} (hs : sig.length = 64) : (Tryz.prog.info? 39).map (·.size) = some (stopC id sig).length := by
 rw [zco hs]
 kernel_rfl
theorem build_cert (id : Int) {key sig : List UInt8} (hk : key.length = 32) (hs : sig.length = 64) (w : World) : (Instr.build 28 #[(0, .int .i64 id), (1, .agg (key.map bval).toArray), (2, .agg (sig.map bval).toArray)]).run Tryz.prog w = .ok (.agg (certC id key sig).toArray) w := by
 refine run_build w _ _ _ ?_
 have e := fill_cert (place := fun i => (#[(0, 1), (1, 32), (33, 64)] : Array (Nat × Nat))[i]?) rfl rfl rfl (certC 0 z32 z64).toArray (by rw [List.size_toArray, zbz zde zbv]) (id := id) hk hs
 refine Eq.trans ?_ e
 kernel_rfl
theorem build_stop (id : Int) {sig : List UInt8} (hs : sig.length = 64) (w : World) : (Instr.build 39 #[(0, .int .i64 id), (1, .agg (sig.map bval).toArray)]).run Tryz.prog w = .ok (.agg (stopC id sig).toArray) w := by
 refine run_build w _ _ _ ?_
 have e := fill_stop (place := fun i => (#[(0, 1), (1, 64)] : Array (Nat × Nat))[i]?) rfl rfl (stopC 0 z64).toArray (by rw [List.size_toArray, zco zbv]) (id := id) hs
 refine Eq.trans ?_ e
 kernel_rfl
theorem build_cert0 (w : World) : (Instr.build 28 #[]).run Tryz.prog w = .ok (.agg (certC 0 z32 z64).toArray) w := by
 refine run_build w _ _ _ ?_
 kernel_rfl
theorem build_stop0 (w : World) : (Instr.build 39 #[]).run Tryz.prog w = .ok (.agg (stopC 0 z64).toArray) w := by
 refine run_build w _ _ _ ?_
 kernel_rfl
theorem rng_ext {w w' : World} {b o : Nat} {cs : List Value} (h : w.rangeAt b o cs) (hb : Ext w w') : w'.rangeAt b o cs := fun j v hj => (hb.cell (q138 w _ (h j v hj))).trans (h j v hj)
theorem cut_part {P : Program} {t : TypeId} {n : Nat} {e : TypeId} (ht : P.underlying t = some (.array n e)) (h : ∀ w, (sizeOf e).run P w = .ok 1 w) (hn : 0 < n) (A o : Nat) (w : World) :
  (Instr.sliceAt t (.pointer (some ⟨A, o, none⟩)) none none none).run P w = .ok (.slice (some ⟨A, o, none⟩) n n) w := by
 have e1 : P.arrayLen t = n := by unfold Program.arrayLen; rw [ht]
 have e2 : P.elem t = e := by unfold Program.elem; rw [ht]
 rw [run_sliceAt_array_all w t ⟨A, o, none⟩ (by rw [e1, e2]; exact ht), e2, h, e1]
 simp [slicedAt, Addr.add, show ¬ n = 0 by omega]
theorem row_rng {w : World} {c o n : Nat} {cs : List Value} (h : w.rangeAt c o cs) (hc : c < w.heap.size) (hn : cs.length = n) (hm : n ≤ maxLen) : Row1 w (.slice (some ⟨c, o, none⟩) n n) cs := by
 subst hn
 exact ⟨_, _, rfl, q102 _, hm, (fun e => by cases e), fun _ => ⟨c, o, rfl, hc, fun i hi => by
  rw [List.getElem?_eq_getElem hi]
  exact h i _ (List.getElem?_eq_getElem hi)⟩⟩
theorem res_twoP {P : Program} {fn : Func} {i j : Nat} (hf : fn.results = #[.tmp i, .tmp j]) (tmps : Array Value) (w : World) :
  (results fn tmps).run P w = .ok (.tuple #[tmps.getD i undef, tmps.getD j undef]) w := by
 unfold results
 rw [hf]
 simp
noncomputable def sgnOk (id : Int) (key : List UInt8) : Bool := smallB id && mayB key
noncomputable def sgnE (id : Int) (key : List UInt8) : Int := if smallB id = true then (if mayB key = true then 0 else 21) else 1
noncomputable def sgnI (id : Int) (key : List UInt8) : Int := if sgnOk id key = true then id else 0
noncomputable def sgnK (id : Int) (key : List UInt8) : List UInt8 := if sgnOk id key = true then key else z32
noncomputable def sgnG (root : List UInt8) (id : Int) (key : List UInt8) : List UInt8 := if sgnOk id key = true then certG root id key else z64
theorem sgn_yes {id : Int} {key : List UInt8} (h1 : smallB id = true) (h2 : mayB key = true) (root : List UInt8) : sgnE id key = 0 ∧ sgnI id key = id ∧ sgnK id key = key ∧ sgnG root id key = certG root id key := by
 have h : sgnOk id key = true := by unfold sgnOk; rw [h1, h2]; rfl
 unfold sgnE sgnI sgnK sgnG
 rw [if_pos h1, if_pos h2, if_pos h, if_pos h, if_pos h]
 exact ⟨rfl, rfl, rfl, rfl⟩
theorem sgn_arg {id : Int} {key : List UInt8} (h1 : smallB id = false) (root : List UInt8) : sgnE id key = 1 ∧ sgnI id key = 0 ∧ sgnK id key = z32 ∧ sgnG root id key = z64 := by
 have h : ¬ sgnOk id key = true := by unfold sgnOk; rw [h1]; simp
 unfold sgnE sgnI sgnK sgnG
 rw [if_neg (by rw [h1]; simp), if_neg h, if_neg h, if_neg h]
 exact ⟨rfl, rfl, rfl, rfl⟩
theorem sgn_key {id : Int} {key : List UInt8} (h1 : smallB id = true) (h2 : mayB key = false) (root : List UInt8) : sgnE id key = 21 ∧ sgnI id key = 0 ∧ sgnK id key = z32 ∧ sgnG root id key = z64 := by
 have h : ¬ sgnOk id key = true := by unfold sgnOk; rw [h2]; simp
 unfold sgnE sgnI sgnK sgnG
 rw [if_pos h1, if_neg (by rw [h2]; simp), if_neg h, if_neg h, if_neg h]
 exact ⟨rfl, rfl, rfl, rfl⟩
def stpE (id : Int) : Int := if smallB id = true then 0 else 1
def stpI (id : Int) : Int := if smallB id = true then id else 0
def stpG (root : List UInt8) (id : Int) : List UInt8 := if smallB id = true then stopG root id else z64
def pckL (id : Int) (sig : List UInt8) : List UInt8 := if smallB id = true then stopB id sig else []
def rdE (b : List UInt8) : Int := if (readS b).isSome then 0 else 4
def rdI (b : List UInt8) : Int := ((readS b).getD (0, z64)).1
def rdG (b : List UInt8) : List UInt8 := ((readS b).getD (0, z64)).2
theorem cert_parts {w : World} {c : Nat} {id : Int} {key sig : List UInt8} (h : Blk w c (certC id key sig) 28) (hk : key.length = 32) : w.cell? ⟨c, 0, none⟩ = some (.int .i64 id) ∧ w.rangeAt c 1 (key.map bval) ∧ w.rangeAt c 33 (sig.map bval) := by
 have hr := h.range
 unfold certC at hr
 have h1 : w.rangeAt c 1 (key.map bval ++ sig.map bval) := rng_hi (a := [.int .i64 id]) hr rfl rfl
 exact ⟨by rw [h.cell]; rfl, rng_lo h1, rng_hi h1 (by rw [q101, hk]) rfl⟩
theorem stop_parts {w : World} {c : Nat} {id : Int} {sig : List UInt8} (h : Blk w c (stopC id sig) 39) : w.cell? ⟨c, 0, none⟩ = some (.int .i64 id) ∧ w.rangeAt c 1 (sig.map bval) := by
 have hr := h.range
 unfold stopC at hr
 exact ⟨by rw [h.cell]; rfl, rng_hi (a := [.int .i64 id]) hr rfl rfl⟩
def I64 (n : Int) : Prop := -9223372036854775808 ≤ n ∧ n ≤ 9223372036854775807
structure CrtSaid (MG : World → Prop) : Prop where
 ext : ∀ {w w' : World}, MG w → Ext w w' → MG w'
 sign : ∀ (root key : List UInt8) (sid : Int) (w : World), root.length = 32 → key.length = 32 → I64 sid → MG w →
  Calls Tryz.prog 11 #[.agg (root.map bval).toArray, .int .i64 sid, .agg (key.map bval).toArray] w fun e w' => e = .returned (.tuple #[.agg (certC (sgnI sid key) (sgnK sid key) (sgnG root sid key)).toArray, .int .i64 (sgnE sid key)]) ∧ Below w.heap.size w w'
 check : ∀ (pub key sig : List UInt8) (sid : Int) (w : World), pub.length = 32 → key.length = 32 → sig.length = 64 → I64 sid → MG w →
  Calls Tryz.prog 14 #[.agg (pub.map bval).toArray, .agg (certC sid key sig).toArray] w fun e w' => e = .returned (.bool (certV pub sid key sig)) ∧ Below w.heap.size w w'
 stop : ∀ (root : List UInt8) (sid : Int) (w : World), root.length = 32 → I64 sid → MG w →
  Calls Tryz.prog 19 #[.agg (root.map bval).toArray, .int .i64 sid] w fun e w' => e = .returned (.tuple #[.agg (stopC (stpI sid) (stpG root sid)).toArray, .int .i64 (stpE sid)]) ∧ Below w.heap.size w w'
 checkStop : ∀ (pub sig : List UInt8) (sid : Int) (w : World), pub.length = 32 → sig.length = 64 → I64 sid → MG w →
  Calls Tryz.prog 17 #[.agg (pub.map bval).toArray, .agg (stopC sid sig).toArray] w fun e w' => e = .returned (.bool (stopV pub sid sig)) ∧ Below w.heap.size w w'
 pack : ∀ (sig : List UInt8) (sid : Int) (w : World), sig.length = 64 → I64 sid → MG w →
  Calls Tryz.prog 21 #[.agg (stopC sid sig).toArray] w fun e w' => ∃ x, e = .returned (.tuple #[x, .int .i64 (stpE sid)]) ∧ w'.ownsRow w.heap.size 5 1 x (pckL sid sig).length ((pckL sid sig).map bval) ∧ Below w.heap.size w w'
 read : ∀ (b : List UInt8) (bv : Value) (w : World), Row1 w bv (b.map bval) → b.length ≤ 1000000 → MG w →
  Calls Tryz.prog 23 #[bv] w fun e w' => e = .returned (.tuple #[.agg (stopC (rdI b) (rdG b)).toArray, .int .i64 (rdE b)]) ∧ Below w.heap.size w w'
section
section
variable {P : Program} {md : Region.Mode} {ops : Array Oper} {Q : Exit → Act → World → Prop} {S : World → Prop}
def Fl (P : Program) (md : Region.Mode) (ops : Array Oper) (Q : Exit → Act → World → Prop) (S : World → Prop) (f d : Nat) (zs : List Value) (T : TypeId) (B : Nat) (fuel : Nat) (listed : Array Bool) (a : Act) (w : World) : Prop :=
 ∀ w', Ext w w' → S w' → wpAnyH P md ops Q S (fuel + 1) listed a w' ∧
  ∀ g, B ≤ g → Blk w' g zs T → wpAnyH P md ops Q S fuel (listed.setIfInBounds f true) (a.put (some d) (.pointer (some ⟨g, 0, none⟩))) w'
theorem set_swap (l : Array Bool) {i j : Nat} (h : i ≠ j) : (l.setIfInBounds i true).setIfInBounds j true = (l.setIfInBounds j true).setIfInBounds i true := by
 rcases l with ⟨l⟩
 simp only [List.setIfInBounds_toArray]
 rw [List.set_comm _ _ h]
theorem put_swap (a : Act) {d : Nat} {e : Option Nat} (h : e ≠ some d) (u v : Value) : (a.put (some d) u).put e v = (a.put e v).put (some d) u := by
 cases e with
 | none => rfl
 | some e =>
  have hn : e ≠ d := fun he => h (by rw [he])
  unfold Act.put
  simp only
  congr 1
  rcases a.tmps with ⟨l⟩
  simp only [List.setIfInBounds_toArray]
  rw [List.set_comm _ _ (Ne.symm hn)]
theorem Fl.go {f d : Nat} {zs : List Value} {T : TypeId} {B fuel : Nat} {listed : Array Bool} {a : Act} {w : World} (h : Fl P md ops Q S f d zs T B fuel listed a w) (hs : S w) : wpAnyH P md ops Q S (fuel + 1) listed a w := (h w (Ext.refl w) hs).1
theorem Fl.take {f d : Nat} {zs : List Value} {T : TypeId} {B fuel : Nat} {listed : Array Bool} {a : Act} {w : World} (i : Nat) (v : Value) {oi : Oper} (hi : ops[i]? = some oi) (hy : ∀ u, YieldsIf P ops S oi v (a.put (some d) u))
  (k : Fl P md ops Q S f d zs T B fuel (listed.setIfInBounds i true) (a.put oi.dst v) w)
  (hu : a.put (some d) undef = a := by rfl) (hd : oi.dst ≠ some d := by decide) (hif : i ≠ f := by decide) (hs : Region.noSelect ops = true := by kernel_rfl)
  (hf : Region.free md ops listed i = true := by kernel_rfl) (hf2 : Region.free md ops (listed.setIfInBounds f true) i = true := by kernel_rfl)
  (hr : (Region.ready md ops listed).contains i = true := by kernel_rfl) (hr2 : (Region.ready md ops (listed.setIfInBounds f true)).contains i = true := by kernel_rfl)
  (hQ : ∀ (c : List PanicEntry) (a : Act) (w : World), Q (.panic c) (a.put oi.dst v) w → Q (.panic c) a w := by exact fun _ _ _ h => h) : Fl P md ops Q S f d zs T B (fuel + 1) listed a w := fun w' hx hS => by
 refine ⟨wpAnyH_take hi hs hf hr hQ (by have := hy undef; rwa [hu] at this) hS (k w' hx hS).1, fun g hg hb => ?_⟩
 refine wpAnyH_take hi hs hf2 hr2 hQ (hy _) hS ?_
 rw [put_swap a hd, set_swap listed (Ne.symm hif)]
 exact (k w' hx hS).2 g hg hb
theorem Fl.step {f d : Nat} {zs : List Value} {T : TypeId} {B fuel : Nat} {listed : Array Bool} {a : Act} {w : World} (c : Nat) {oc of : Oper} (ho : ops[c]? = some oc) (hof : ops[f]? = some of) (hop : of.op = .alloc T) (hfd : of.dst = some d) (hfg : of.guard = none)
  (hz : ∀ w, (zeroValue T).run P w = .ok (.agg zs.toArray) w) (hS : ∀ w w', S w → Ext w w' → S w') (hB : ∀ w, S w → B ≤ w.heap.size)
  (h : ∀ (w' : World) (u : Value) (K' : Act → World → Prop), Ext w w' → S w' → Shut (∀ v w'', Ext w' w'' → S w'' → Fl P md ops Q S f d zs T B fuel (listed.setIfInBounds c true) (a.put oc.dst v) w'' → K' ((a.put (some d) u).put oc.dst v) w'') →
   if Region.wanted oc (yielded ops (a.put (some d) u).tmps) = true then oc.wp P (a.put (some d) u) w' K' Q else K' ((a.put (some d) u).put oc.dst undef) w')
  (hr : ((Region.ready md ops listed).all fun j => j == c || j == f) = true := by kernel_rfl) (hr0 : (Region.ready md ops listed).isEmpty = false := by kernel_rfl) (hr2 : Region.ready md ops (listed.setIfInBounds f true) = [c] := by kernel_rfl)
  (hu : a.put (some d) undef = a := by rfl) (hd : oc.dst ≠ some d := by decide) (hcf : c ≠ f := by decide) : Fl P md ops Q S f d zs T B (fuel + 1) listed a w := by
 have two : ∀ w', Ext w w' → S w' → ∀ g, B ≤ g → Blk w' g zs T → wpAnyH P md ops Q S (fuel + 1) (listed.setIfInBounds f true) (a.put (some d) (.pointer (some ⟨g, 0, none⟩))) w' := fun w' hx hs g hg hb => by
  refine wpAnyH_ready (rs := [c]) hr2 (by simp) (AllReadyH.cons ho (fun K' hK => ?_) AllReadyH.nil)
  refine h w' _ K' hx hs (fun v w'' hx2 hs2 hfl => ?_)
  refine hK.out _ _ hs2 (fun _ => ?_)
  rw [put_swap a hd, set_swap listed (Ne.symm hcf)]
  exact (hfl w'' (Ext.refl _) hs2).2 g hg (zad hb hx2)
 refine fun w' hx hs => ⟨?_, two w' hx hs⟩
 refine wpAnyH_all rfl (by intro h; rw [h] at hr0; cases hr0) (fun i hi => ?_)
 have hci : i = c ∨ i = f := by simpa using List.all_eq_true.1 hr i hi
 rcases hci with rfl | rfl
 ·refine wpOp_step ho (fun K' hK => ?_)
  have hh := h w' undef K' hx hs (fun v w'' hx2 hs2 hfl => by
   rw [hu]
   exact hK _ _ ⟨hs2, (hfl w'' (Ext.refl _) hs2).1⟩)
  rw [hu] at hh
  exact hh
 ·refine wpOp_step hof (fun K' hK => ?_)
  rw [if_pos (by unfold Region.wanted; rw [hfg])]
  refine wp_alloc_d (some d) T zs hfd hop hz ?_
  have hx2 : Ext w' (w'.alloc (.cells zs.toArray T)) := Ext.alloc _ _
  have hs2 := hS _ _ hs hx2
  exact hK _ _ ⟨hs2, two _ (hx.trans hx2) hs2 _ (hB _ hs) (Blk.made _ _ _)⟩
theorem Fl.last {f d : Nat} {zs : List Value} {T : TypeId} {B fuel : Nat} {listed : Array Bool} {a : Act} {w : World} {of : Oper} (hof : ops[f]? = some of) (hop : of.op = .alloc T) (hfd : of.dst = some d) (hfg : of.guard = none)
  (hz : ∀ w, (zeroValue T).run P w = .ok (.agg zs.toArray) w) (hS : ∀ w w', S w → Ext w w' → S w') (hB : ∀ w, S w → B ≤ w.heap.size)
  (h : ∀ (w' : World) (g : Nat), Ext w w' → S w' → B ≤ g → Blk w' g zs T → wpAnyH P md ops Q S fuel (listed.setIfInBounds f true) (a.put (some d) (.pointer (some ⟨g, 0, none⟩))) w')
  (hr : Region.ready md ops listed = [f] := by kernel_rfl) : Fl P md ops Q S f d zs T B fuel listed a w := fun w' hx hs => by
 refine ⟨?_, fun g hg hb => h w' g hx hs hg hb⟩
 refine wpAnyH_ready (rs := [f]) hr (by simp) (AllReadyH.cons hof (fun K' hK => ?_) AllReadyH.nil)
 rw [if_pos (by unfold Region.wanted; rw [hfg])]
 refine wp_alloc_d (some d) T zs hfd hop hz ?_
 have hx2 : Ext w' (w'.alloc (.cells zs.toArray T)) := Ext.alloc _ _
 have hs2 := hS _ _ hs hx2
 exact hK.out _ _ hs2 (fun _ => h _ _ (hx.trans hx2) hs2 (hB _ hs) (Blk.made _ _ _))
end
end
theorem info_threeV {P : Program} {t : TypeId} {z : Value} {n b : Nat} (h : (P.info? t).map (fun i => (i.zero, i.size, i.bytes)) = some (some z, n, b)) : ∃ i, P.info? t = some i ∧ i.zero = some z ∧ i.size = n ∧ i.bytes = b := by
 cases hp : P.info? t with
 | none => rw [hp] at h; cases h
 | some i =>
  rw [hp] at h
  simp only [Option.map_some, Option.some.injEq, Prod.mk.injEq] at h
  exact ⟨i, rfl, h.1, h.2.1, h.2.2⟩
def RowV (w : World) (v : Value) (ls : List (List Value)) : Prop :=
 ∃ vals : List Value, Row1 w v vals ∧ vals.length = ls.length ∧ ∀ (i : Nat) (x : Value) (l : List Value), vals[i]? = some x → ls[i]? = some l → Row1 w x l
theorem grown_own2 (w : World) (base n cap : Nat) (e : TypeId) (cur : Array Value) (hb : base ≤ w.heap.size) (hc : cap ≤ maxLen) (hs : cur.size = cap) : (w.alloc (.cells cur e)).ownsRow base e 1 (.slice (some ⟨w.heap.size, 0, none⟩) 0 cap) 0 [] :=
 ⟨rfl, Or.inr ⟨w.heap.size, cap, cur, rfl, hb, heap_alloc_new w _, q149 _, hc, by omega, rfl⟩⟩
theorem stdGrow2_nil (n : Nat) (w : World) (hn : n ≤ 1000000000) :
  Calls Tryz.prog 127 #[.slice none 0 0, .int .i64 (n : Int)] w fun e w' => ∃ x, e = .returned x ∧ w'.ownsRow w.heap.size 46 1 x 0 [] ∧ Below w.heap.size w w' := by
 obtain ⟨i0, hi, hz0, hz1, hz2⟩ := info_threeV (P := Tryz.prog) (t := 46) (z := .slice none 0 0) (n := 1) (b := 24) (by kernel_rfl)
 have h0 : (0 : Int) ≤ (n : Int) := Int.natCast_nonneg _
 have HNB := jh hn
 go_enter Tryz.func127, Tryz.ntmps127
 rcases q150 n with rfl | hp
 ·clear hi hz0 hz1 hz2
  go_wp2_with fail
  go_ret
  exact ⟨_, rfl, World.ownsRow_nil _ _ _ _, Below.refl _ _⟩
 ·have hp' : (0 : Int) < (n : Int) := by omega
  have HR := jh (Lib.run_append_nil_zeros (P := Tryz.prog) w 88 3 0 46 i0 (.slice none 0 0) .i64 .i64 q141 rfl hi hz0 n hp (by rw [hz1]; decide) (by omega) (by rw [hz2]; omega))
  have HG : Hid (grownCap w n 0 46 ≤ maxLen) := jh (grownCap_le_maxLen w n 0 _ (by unfold maxLen; omega))
  have HG2 : Hid (n ≤ grownCap w n 0 46) := jh (grownCap_ge w n 0 _)
  have HSZ : Hid ((Builtin.zeroCells (Value.cells (.slice none 0 0)) n ++ Builtin.zeroCells (Value.cells (.slice none 0 0)) (grownCap w n 0 46 - n)).size = grownCap w n 0 46) := jh (by
   rw [Array.size_append, size_zeroCells, size_zeroCells]
   have := HG2.out
   simp [Value.cells]
   omega)
  clear hi hz0 hz1 hz2
  generalize Builtin.zeroCells (Value.cells (.slice none 0 0)) n ++ Builtin.zeroCells (Value.cells (.slice none 0 0)) (grownCap w n 0 46 - n) = cur at *
  generalize grownCap w n 0 46 = cap at *
  have hc0 : (0 : Int) ≤ (cap : Int) := Int.natCast_nonneg _
  go_wp2_with (at_builtin; refine Lib.wpList_append_run _ rfl _ _ _ _ rfl _ _ rfl rfl _ _ HR.out ?_)
  go_ret
  exact ⟨_, rfl, grown_own2 w.drew _ n cap _ cur (q102 _) HG.out HSZ.out, below_drewN (Ext.alloc w _) 1⟩
theorem cat2_succ (ls : List (List Value)) (k : Nat) (l : List Value) (h : ls[k]? = some l) : (ls.take (k + 1)).flatten = (ls.take k).flatten ++ l := by
 have hk : k < ls.length := by
  rcases q116 k ls.length with h' | h'
  ·exact h'
  ·rw [List.getElem?_eq_none h'] at h; cases h
 rw [q159 hk, q169]
 rw [List.getElem?_eq_getElem hk] at h
 cases h
 simp
theorem cat2_part (ls : List (List Value)) (k : Nat) : (ls.take k).flatten.length ≤ ls.flatten.length := by
 have h : ls.flatten = (ls.take k).flatten ++ (ls.drop k).flatten := by rw [← q169, q117]
 rw [h, q108]
 omega
theorem cat2_all (ls : List (List Value)) : (ls.take ls.length).flatten = ls.flatten := by rw [q173]
theorem stdConcat2_any (v : Value) (ls : List (List Value)) (w : World) (hv : RowV w v ls) (h1 : ∀ l ∈ ls, ∀ x ∈ l, x.oneCell' = true) (hb : ls.flatten.length ≤ 1000000000) :
  Calls Tryz.prog 96 #[v] w fun e w' => ∃ x, e = .returned x ∧ w'.ownsRow w.heap.size 46 1 x ls.flatten.length ls.flatten ∧ Below w.heap.size w w' := by
 obtain ⟨i0, hi, hz0, hz1, hz2⟩ := info_threeV (P := Tryz.prog) (t := 46) (z := .slice none 0 0) (n := 1) (b := 24) (by kernel_rfl)
 obtain ⟨vals, hr, hlen, hx⟩ := hv
 obtain ⟨a, cap, rfl, r1, r2, r3, r4⟩ := id hr
 unfold maxLen at r2
 rw [hlen] at r1 ⊢
 have HI0 := jh hi
 have HZ0 := jh hz0
 have HZ1 := jh hz1
 have HZ2 := jh hz2
 have HX := jh hx
 have HC := jh r4
 have HLN := jh hlen
 have HB := jh hb
 have HON := jh h1
 clear h1 hr hx r3 r4 hb hlen hi hz0 hz1 hz2
 go_enter Tryz.func96, Tryz.ntmps96
 go_wp2_with fail
 go_loop [3, 11] (fun sv iv => ∃ (k : Nat), k ≤ ls.length ∧ iv = .int .i64 (k : Int) ∧ sv = .int .i64 ((ls.take k).flatten.length : Int)) (fun _ iv => ls.length - (intOf iv).toNat)
 case atStart => exact ⟨0, by omega, rfl, rfl⟩
 case round =>
  obtain ⟨k, hk, rfl, rfl⟩ := hrel
  have k0 : (0 : Int) ≤ (k : Int) := Int.natCast_nonneg _
  by_cases hlk : k < ls.length
  ·have k1 : (k : Int) < (ls.length : Int) := by omega
   obtain ⟨b', off, rfl, hbs, hcell⟩ := HC.out (by intro e; have h := congrArg List.length e; rw [HLN.out] at h; simp only [q160] at h; omega)
   obtain ⟨xv, hxv⟩ : ∃ x, vals[k]? = some x := ⟨_, List.getElem?_eq_getElem (by rw [HLN.out]; exact hlk)⟩
   obtain ⟨lk, hlk2⟩ : ∃ x, ls[k]? = some x := ⟨_, List.getElem?_eq_getElem hlk⟩
   obtain ⟨ax, cx, hxx, _⟩ := HX.out k xv lk hxv hlk2
   have hft := cat2_succ ls k lk hlk2
   have hfl := cat2_part ls (k + 1)
   rw [hft, q108] at hfl
   have HFT : Hid ((ls.take (k + 1)).flatten.length = (ls.take k).flatten.length + lk.length) := jh (by rw [hft, q108])
   have c0 : w.cell? ⟨b', off + k, none⟩ = some xv := by
    have h := hcell k (by rw [HLN.out]; exact hlk)
    rw [hxv] at h
    exact h
   subst hxx
   have hB := HB.out
   generalize (ls.take k).flatten.length = p at *
   have hpl : (p : Int) + (lk.length : Int) ≤ 1000000000 := by omega
   have hp0 : (0 : Int) ≤ (p : Int) := Int.natCast_nonneg _
   have hl0 : (0 : Int) ≤ (lk.length : Int) := Int.natCast_nonneg _
   have hlk0 : (0 : Int) ≤ (p : Int) + (lk.length : Int) := by omega
   clear hcell hxv hlk2 hft hfl
   go_wp2_with fail
   go_round
   case rel =>
    refine ⟨k + 1, by omega, by go_num, ?_⟩
    rw [HFT.out]
    rfl
   case measure => simp [intOf]; omega
  ·have hk2 : (ls.length : Int) ≤ (k : Int) := by omega
   obtain rfl : k = ls.length := by omega
   rw [cat2_all]
   obtain ⟨N, hN⟩ : ∃ N, N = ls.flatten.length := ⟨_, rfl⟩
   have HNB : Hid (N ≤ 1000000000) := jh (by rw [hN]; exact HB.out)
   rw [← hN]
   have n0 : (0 : Int) ≤ (N : Int) := Int.natCast_nonneg _
   clear hN
   go_wp2_with fail
   refine (stdGrow2_nil N w HNB.out).mono ?_
   rintro e w1 ⟨x1, rfl, ho1, hb1⟩
   have HNIL := jh ho1
   have HE1 : Hid (Ext w w1) := jh hb1
   clear ho1 hb1
   go_wp2_with fail
   go_loopw [6, 27] (fun x iv wr => ∃ (k : Nat), k ≤ ls.length ∧ iv = .int .i64 (k : Int) ∧ wr.ownsRow w.heap.size 46 1 x (ls.take k).flatten.length (ls.take k).flatten ∧ Ext w wr) (fun _ iv _ => ls.length - (intOf iv).toNat)
   case atStart => exact ⟨0, by omega, rfl, HNIL.out, HE1.out⟩
   case round =>
    clear HNIL HE1
    obtain ⟨k, hk, rfl, ho, hE⟩ := hrel
    have k0 : (0 : Int) ≤ (k : Int) := Int.natCast_nonneg _
    have HO := jh ho
    have HE := jh hE
    have HS := jh hE.size
    clear ho hE
    by_cases hlk : k < ls.length
    ·have k1 : (k : Int) < (ls.length : Int) := by omega
     obtain ⟨b', off, rfl, hbs, hcell⟩ := HC.out (by intro e; have h := congrArg List.length e; rw [HLN.out] at h; simp only [q160] at h; omega)
     obtain ⟨xv, hxv⟩ : ∃ x, vals[k]? = some x := ⟨_, List.getElem?_eq_getElem (by rw [HLN.out]; exact hlk)⟩
     obtain ⟨lk, hlk2⟩ : ∃ x, ls[k]? = some x := ⟨_, List.getElem?_eq_getElem hlk⟩
     have HXR := jh ((HX.out k xv lk hxv hlk2).below HE.out)
     have hft := cat2_succ ls k lk hlk2
     have hfl := cat2_part ls (k + 1)
     rw [hft, q108] at hfl
     have HFT := jh hft
     have HLK2 := jh hlk2
     have c0 : wr.cell? ⟨b', off + k, none⟩ = some xv := by
      have h := hcell k (by rw [HLN.out]; exact hlk)
      rw [hxv] at h
      rw [← h]
      exact HE.out.cell (p := ⟨b', off + k, none⟩) hbs
     have HFL : Hid ((ls.take k).flatten.length + lk.length ≤ 1000000000) := jh (by have := HB.out; omega)
     clear hcell hxv hlk2 hft hfl
     go_wp2_with (at_builtin; refine zam rfl _ _ 88 rfl w.heap.size 46 i0 (.slice none 0 0) 24 q141 HI0.out HZ0.out HZ1.out HZ2.out rfl _ _ _ rfl HO.out rfl HXR.out (fun x hx => HON.out _ (List.mem_of_getElem? HLK2.out) x hx) (by have := HFL.out; unfold maxLen; omega) (by have := HFL.out; omega) HS.out ?_; intro v3 w3 hown3 hgrow3)
     go_roundw
     case rel =>
      refine ⟨k + 1, by omega, by go_num, ?_, ext_own HE.out HO.out (q102 _) hgrow3⟩
      rw [HFT.out, q108]
      exact hown3
     case measure => simp [intOf]; omega
    ·have hk2 : (ls.length : Int) ≤ (k : Int) := by omega
     obtain rfl : k = ls.length := by omega
     rw [cat2_all] at HO
     go_wp2_with fail
     go_ret
     exact ⟨_, rfl, HO.out, HE.out⟩
theorem Blk.row {w : World} {c : Nat} {cs : List Value} {t : TypeId} {n : Nat} (h : Blk w c cs t) (hn : cs.length = n) (hm : n ≤ maxLen) : Row1 w (.slice (some ⟨c, 0, none⟩) n n) cs := by
 subst hn
 refine ⟨_, _, rfl, q102 _, hm, (fun e => by cases e), fun _ => ⟨c, 0, rfl, h.lt, fun i hi => ?_⟩⟩
 rw [q125, h.cell i]
theorem num_row {w : World} {c : Nat} {l : List UInt8} {t : TypeId} (h : Blk w c (l.map bval) t) (hl : l.length = 32) : Row1 w (.slice (some ⟨c, 0, none⟩) 32 32) (l.map bval) := h.row (by rw [q101, hl]) (by unfold maxLen; omega)
theorem Row1.head {w : World} {a : Option Addr} {n cap : Nat} {vs : List Value} (h : Row1 w (.slice a n cap) vs) (k : Nat) (hk : k ≤ vs.length) : Row1 w (.slice a k cap) (vs.take k) := by
 obtain ⟨a', cap', e, h1, h2, h3, h4⟩ := h
 cases e
 have hl : (vs.take k).length = k := by simp; omega
 refine ⟨a, cap, by rw [hl], by rw [hl]; omega, h2, h3, fun hne => ?_⟩
 have hv : vs ≠ [] := by intro e; subst e; simp at hne
 obtain ⟨b, off, e, hb, hc⟩ := h4 hv
 refine ⟨b, off, e, hb, fun i hi => ?_⟩
 rw [hl] at hi
 rw [hc i (by omega), List.getElem?_take, if_pos hi]
theorem shl_range (N : Int) (s : Nat) (h1 : 0 ≤ N) (h2 : N ≤ 268435456) (hs : s ≤ 28) : 0 ≤ N * 2 ^ (28 - s) ∧ N * 2 ^ (28 - s) ≤ 72057594037927936 := by
 have k : (2 : Nat) ^ (28 - s) ≤ 2 ^ 28 := q178 (by omega) (by omega)
 have e : (2 : Int) ^ (28 - s) = ((2 ^ (28 - s) : Nat) : Int) := by simp
 rw [e]
 generalize (2 : Nat) ^ (28 - s) = X at *
 refine ⟨q151 h1 (by omega), Int.le_trans (Int.mul_le_mul h2 (show (X : Int) ≤ 268435456 by omega) (by omega) (by omega)) (by omega)⟩
theorem scl_numOf_any (x : List Int) (v B : Int) (w : World) (hG : GlobT w) (hl : x.length = 19) (h0 : 0 ≤ B) (hB1 : B ≤ 2305843009213693952) (hB : ∀ j, j < 19 → -B ≤ x.getD j 0 ∧ x.getD j 0 ≤ B) (hv : gV 268435456 x = v) (v0 : 0 ≤ v) (v1 : v < hQ) :
  Calls Tryz.prog 99 #[.agg (ints .i64 x).toArray] w fun e w' => e = .returned (.agg ((nq v).map bval).toArray) ∧ Below w.heap.size w w' := by
 have hcan := carry_can hl h0 hB hv v0 v1
 have HRI := jh (RI.start hcan)
 have HFN := jh (restF_spec (RI.start hcan))
 have HCA := jh (fun w => zfe x 0 18 0 18 B hl (by omega) rfl rfl h0 hB1 (fun j _ hj => hB j (by omega)) w)
 have HV0 : Hid (0 ≤ v % qQ) := jh (Int.emod_nonneg _ (by unfold qQ; omega))
 have HG := jh hG
 have HXI : Hid ((Tryz.prog.info? 127).map (·.size) = some (ints .i64 x).length) := jh (by rw [zaa, hl]; exact Tryz.arr127)
 have HXL := jh hl
 have HB := jh (boxes2 w (ints .i64 x) (ints .u8 (List.replicate 32 0)) 127 23)
 clear hG hl hB hB1 h0 hv v0 v1 hcan
 go_enter Tryz.func99, Tryz.ntmps99
 go_wp2_with (refine slb w.heap.size HB.out.1 q155 HXI.out ?_)
 change Calls _ _ _ ((w.alloc (.cells (ints .i64 x).toArray 127)).alloc (.cells (ints .u8 (List.replicate 32 0)).toArray 23)) _
 generalize (w.alloc (.cells (ints .i64 x).toArray 127)).alloc (.cells (ints .u8 (List.replicate 32 0)).toArray 23) = w0 at *
 obtain ⟨b1, b2, b3⟩ := HB.out
 obtain ⟨A, hA⟩ : ∃ A, A = w.heap.size := ⟨_, rfl⟩
 rw [← hA] at b1 b2 ⊢
 have hA2 : w.heap.size ≤ A := by omega
 have H1 := jh b1
 have H2 := jh b2
 have H3 : Hid (Ext w w0) := jh b3
 clear b1 b2 b3 hA HB
 refine (HCA.out _).mono ?_
 rintro e w1 ⟨rfl, hb1⟩
 have H1 := xb H1 hb1
 have H2 := xb H2 hb1
 have H3 := jh (H3.out.trans hb1)
 clear hb1 HCA
 go_wp2_with fail
 refine (rest_any _ v _ HRI.out (HG.out.ext H3.out)).mono ?_
 rintro e w2 ⟨rfl, hb1⟩
 have H1 := xb H1 hb1
 have H2 := xb H2 hb1
 have H3 := jh (H3.out.trans hb1)
 clear hb1 HRI
 have HYL := jh HFN.out.len
 have HYD : Hid (nq v = bytesN 32 (v % qQ).toNat) := jh rfl
 generalize restF (cRun x 0 18) = y at *
 have hi2 : Hid ((Tryz.prog.info? 127).map (·.size) = some (ints .i64 y).length) := jh (by rw [zaa, HYL.out]; exact Tryz.arr127)
 have hl2 : Hid ((ints .i64 y).length = (ints .i64 x).length) := jh (by rw [zaa, zaa, HYL.out, HXL.out])
 go_wp2_with (refine ssb A _ H1.out hl2.out hi2.out (zaj _ _) ?_; intro w3 hb3 hg3)
 change Code.wp _ _ _ _ (w3.alloc (.cells (ints .u8 (List.replicate 32 0)).toArray 23))
 have HD := jh (Blk.made w3 (ints .u8 (List.replicate 32 0)) 23)
 have H2' := H2.out.grown hg3 (by simp)
 have H3' := zab H3.out hg3 hA2
 have H1 := jh (hb3.alloc (.cells (ints .u8 (List.replicate 32 0)).toArray 23))
 have H3 := jh (H3'.trans (Ext.alloc w3 (.cells (ints .u8 (List.replicate 32 0)).toArray 23)))
 have hDA : A + 1 < w3.heap.size := H2'.lt
 have H2 := jh (H2'.alloc (.cells (ints .u8 (List.replicate 32 0)).toArray 23))
 clear hb3 hg3 H2' H3'
 generalize (w3.alloc (.cells (ints .u8 (List.replicate 32 0)).toArray 23)) = w4 at *
 generalize w3.heap.size = D at *
 go_loopw [11] (fun i wr => ∃ (k : Nat), k ≤ 32 ∧ i = .int .i64 (k : Int) ∧ Blk wr A (ints .i64 y) 127 ∧ Blk wr (A + 1) (ints .u8 (List.replicate 32 0)) 23 ∧ Blk wr D ((fill 32 (nq v) k).map bval) 23 ∧ Ext w wr) (fun i _ => 32 - (intOf i).toNat)
 case atStart => exact ⟨0, by omega, rfl, H1.out, H2.out, by rw [fill_start]; exact HD.out, H3.out⟩
 case round =>
  clear H1 H2 H3 HD
  obtain ⟨k, hk, rfl, hb1, hb2, hb3, hbel⟩ := hrel
  have i0' : (0 : Int) ≤ (k : Int) := Int.natCast_nonneg _
  by_cases hlt : k < 32
  ·have i1 : (k : Int) < 32 := by omega
   obtain ⟨p, hp⟩ : ∃ p : Nat, p = 8 * k / 28 := ⟨_, rfl⟩
   obtain ⟨s, hs⟩ : ∃ s : Nat, s = 8 * k % 28 := ⟨_, rfl⟩
   have HBY := byte_of_limbs HFN.out HV0.out hlt hp hs
   rw [← HYD.out] at HBY
   have hp2 : 8 * (k : Int) / 28 = (p : Int) := by omega
   have hs2 : 8 * (k : Int) % 28 = (s : Int) := by omega
   have p19 : (p : Int) < 19 := by omega
   have p20 : (p : Int) + 1 < 19 := by omega
   have s28 : (s : Int) < 28 := by omega
   have hyl := HYL.out
   have e1 := hb1.cell p
   rw [zan (by omega)] at e1
   have e2 := hb1.cell (p + 1)
   rw [zan (by omega)] at e2
   have hln : ((fill 32 (nq v) k).map bval).length = 32 := by rw [q101, fill_length (zbu v) (by omega)]
   have e3 := hb3.cell k
   rw [List.getElem?_eq_getElem (by omega)] at e3
   have f3 := hb3.free k
   generalize ((fill 32 (nq v) k).map bval)[k]'(by omega) = c at e3
   have q1 : 0 ≤ y.getD p 0 ∧ y.getD p 0 ≤ 268435456 := by
    rcases (by omega : p < 8 ∨ p = 8) with g | g
    ·have := HFN.out.low _ g; omega
    ·rw [g]; exact HFN.out.here
   have q2 : 0 ≤ y.getD (p + 1) 0 ∧ y.getD (p + 1) 0 ≤ 268435456 := by
    rcases (by omega : p + 1 < 8 ∨ p + 1 = 8 ∨ 8 < p + 1) with g | g | g
    ·have := HFN.out.low _ g; omega
    ·rw [g]; exact HFN.out.here
    ·rw [HFN.out.high _ g]; omega
   rw [IntKind.wrap_u8] at HBY
   have HST := jh (zex (zbu v) hlt HBY)
   have q3 := shl_range (y.getD (p + 1) 0) s q2.1 q2.2 (by omega)
   generalize y.getD p 0 = P at *
   generalize y.getD (p + 1) 0 = N at *
   have H1 := jh hb1
   have H2 := jh hb2
   have HD := jh hb3
   have H3 := jh hbel
   clear hb1 hb2 hb3 hbel hp hs hln HBY hyl
   go_wp2_with fail
   go_region
   go_wp2_with fail
   go_roundw
   case rel =>
    refine ⟨k + 1, by omega, by go_num, (H1.out.far (by simp; omega) _).drewN 1, (H2.out.far (by simp; omega) _).drewN 1, ?_, (Below.setCell H3.out (by simp; omega) _).drew⟩
    rw [← HST.out]
    exact (HD.out.set k _).drewN 1
   case measure => simp [intOf]; omega
  ·have hk' : k = 32 := by omega
   subst hk'
   rw [fill_full (zbu v)] at hb3
   have H2 := jh hb2
   have HD := jh hb3
   have H3 := jh hbel
   clear hb1 hb2 hb3 hbel
   have hi1 : Hid ((Tryz.prog.info? 23).map (·.size) = some ((nq v).map bval).length) := jh (zac (zbu v))
   have hl1 : Hid (((nq v).map bval).length = (ints .u8 (List.replicate 32 0)).length) := jh (by rw [q101, zbu]; rfl)
   go_wp2_with (first | (refine slb D HD.out q100 hi1.out ?_) | (refine ssb (A + 1) _ H2.out hl1.out hi1.out (zaf _) ?_; intro w7 hb7 hg7))
   exact bodyPost_ret (v := .agg ((nq v).map bval).toArray) (zap (by rfl) _ (A + 1) _ _ _ (by rfl) hb7 q100 rfl hi1.out) rfl ⟨rfl, zab H3.out hg7 (by omega)⟩
def limF (l : List UInt8) : List Int := cRun (lRun l l.length) 0 18
theorem limF_can (l : List UInt8) (h : l.length ≤ 64) : Can (limF l) (leN l : Nat) := by
 have hv := lRun_val l l.length (q102 _) h
 rw [q173] at hv
 exact carry_can (B := 2199023255552) (zdu l _) (by omega) (fun j _ => by have := lRun_range l l.length h j; omega) hv (by omega) (leN_hQ l h)
theorem zdt (l : List UInt8) : (limF l).length = 19 := by rw [limF, zdo, zdu]
theorem scl_limbsOf_any (v : Value) (l : List UInt8) (w : World) (hl : l.length ≤ 64) (hv : Row1 w v (l.map bval)) :
  Calls Tryz.prog 98 #[v] w fun e w' => e = .returned (.agg (ints .i64 (limF l)).toArray) ∧ Below w.heap.size w w' := by
 obtain ⟨a, cap, rfl, r1, r2, r3, r4⟩ := hv
 have HR := jh r4
 have HL := jh hl
 have HB := jh (boxes2 w (ints .i64 (List.replicate 19 0)) (ints .i64 (List.replicate 19 0)) 127 127)
 rw [q101] at r1 ⊢
 unfold maxLen at r2
 clear r4 hl r3
 go_enter Tryz.func98, Tryz.ntmps98
 go_wp2_with fail
 change Code.wp _ _ _ _ ((w.alloc (.cells (ints .i64 (List.replicate 19 0)).toArray 127)).alloc (.cells (ints .i64 (List.replicate 19 0)).toArray 127))
 generalize (w.alloc (.cells (ints .i64 (List.replicate 19 0)).toArray 127)).alloc (.cells (ints .i64 (List.replicate 19 0)).toArray 127) = w0 at *
 obtain ⟨b1, b2, b3⟩ := HB.out
 obtain ⟨A, hA⟩ : ∃ A, A = w.heap.size := ⟨_, rfl⟩
 rw [← hA] at b1 b2 ⊢
 have hA2 : w.heap.size ≤ A := by omega
 have H1 := jh b1
 have H2 := jh b2
 have H3 : Hid (Ext w w0) := jh b3
 clear b1 b2 b3 hA HB
 go_loopw [9] (fun i wr => ∃ (k : Nat), k ≤ l.length ∧ i = .int .i64 (k : Int) ∧ Blk wr (A + 1) (ints .i64 (lRun l k)) 127 ∧ Blk wr A (ints .i64 (List.replicate 19 0)) 127 ∧ Ext w wr) (fun i _ => l.length - (intOf i).toNat)
 case atStart => exact ⟨0, by omega, rfl, H2.out, H1.out, H3.out⟩
 case round =>
  clear H1 H2 H3
  obtain ⟨k, hk, rfl, hb1, hb2, hbel⟩ := hrel
  have i0' : (0 : Int) ≤ (k : Int) := Int.natCast_nonneg _
  have hlen := zdu l k
  by_cases hlt : k < l.length
  ·have h64 := HL.out
   obtain ⟨b, off, rfl, hbs, hcell⟩ := HR.out (by intro e; rw [List.map_eq_nil_iff] at e; subst e; exact absurd hlt (by simp))
   have k1 : (k : Int) < (l.length : Int) := by omega
   have k64 : (k : Int) < 64 := by omega
   have hc := hcell k (by simpa using hlt)
   rw [zbg hlt] at hc
   have hc2 : wr.cell? ⟨b, off + k, none⟩ = some (.int .u8 ((l.getD k 0).toNat : Int)) := by rw [← hc]; exact hbel.cell (p := ⟨b, off + k, none⟩) hbs
   obtain ⟨p, hp⟩ : ∃ p : Nat, p = 8 * k / 28 := ⟨_, rfl⟩
   obtain ⟨s, hs⟩ : ∃ s : Nat, s = 8 * k % 28 := ⟨_, rfl⟩
   have hp2 : 8 * (k : Int) / 28 = (p : Int) := by omega
   have hs2 : 8 * (k : Int) % 28 = (s : Int) := by omega
   have p19 : (p : Int) < 19 := by omega
   have s28 : s < 28 := by omega
   have s28' : (s : Int) < 28 := by omega
   have e1 := hb1.cell p
   rw [zan (by omega)] at e1
   have f1 := hb1.free p
   have hst : lRun l (k + 1) = (lRun l k).set p ((lRun l k).getD p 0 + ((l.getD k 0).toNat : Int) * 2 ^ s) := by rw [hp, hs]; rfl
   have q1 := lRun_range l k (by omega) p
   have q2 := byte_pow (l.getD k 0).toNat s (UInt8.toNat_lt _) s28
   have q3 := UInt8.toNat_lt (l.getD k 0)
   generalize (l.getD k 0).toNat = c at *
   generalize (lRun l k).getD p 0 = x at *
   have HST := jh hst
   have H1 := jh hb1
   have H2 := jh hb2
   have H3 := jh hbel
   clear hst hb1 hb2 hbel hlen hp hs hc hcell
   go_wp2_with fail
   go_region
   go_wp2_with fail
   go_roundw
   case rel =>
    refine ⟨k + 1, by omega, by go_num, ?_, (H2.out.far (by simp) _).drewN 1, (Below.setCell H3.out (by simp; omega) _).drew⟩
    rw [HST.out, ← zbq]
    exact (H1.out.set p _).drewN 1
   case measure => simp [intOf]; omega
  ·have hk' : k = l.length := by omega
   subst hk'
   have HCA := jh (fun w => zfe (lRun l l.length) 0 18 0 18 2199023255552 hlen (by omega) rfl rfl (by omega) (by omega) (fun j _ hj => by have := lRun_range l l.length HL.out j; have := HL.out; omega) w)
   have hi1 : Hid ((Tryz.prog.info? 127).map (·.size) = some (ints .i64 (lRun l l.length)).length) := jh (by rw [zaa, hlen]; exact Tryz.arr127)
   have H1 := jh hb1
   have H2 := jh hb2
   have H3 := jh hbel
   clear hb1 hb2 hbel hlen
   go_wp2_with (refine slb (A + 1) H1.out q155 hi1.out ?_)
   refine (HCA.out _).mono ?_
   rintro e w5 ⟨rfl, hb5⟩
   have H2 := xb H2 hb5
   have H3 := jh (H3.out.trans hb5)
   have hi2 : Hid ((Tryz.prog.info? 127).map (·.size) = some (ints .i64 (cRun (lRun l l.length) 0 18)).length) := jh (by rw [zaa, zdo, zdu]; exact Tryz.arr127)
   have hl2 : Hid ((ints .i64 (cRun (lRun l l.length) 0 18)).length = (ints .i64 (List.replicate 19 0)).length) := jh (by rw [zaa, zaa, zdo, zdu]; rfl)
   clear hb5 HCA
   go_wp2_with (refine ssb A _ H2.out hl2.out hi2.out (zaj _ _) ?_; intro w6 hb6 hg6)
   exact bodyPost_ret (v := .agg (ints .i64 (limF l)).toArray) (zap (by rfl) _ A _ _ _ (by rfl) hb6 q155 rfl hi2.out) rfl ⟨rfl, zab H3.out hg6 (by omega)⟩
theorem limF_num (l : List UInt8) (hl : l.length ≤ 64) (w : World) (hG : GlobT w) :
  Calls Tryz.prog 99 #[.agg (ints .i64 (limF l)).toArray] w fun e w' => e = .returned (.agg ((nq (leN l : Nat)).map bval).toArray) ∧ Below w.heap.size w w' := by
 have h := limF_can l hl
 refine scl_numOf_any (limF l) _ 268435456 w hG h.len (by omega) (by omega) (fun j hj => ?_) h.val (by omega) (leN_hQ l hl)
 rcases (by omega : j < 18 ∨ j = 18) with g | g
 ·have := h.low j g; omega
 ·rw [g]; have := h.top; omega
theorem Reduce_num (v : Value) (l : List UInt8) (w : World) (hv : Row1 w v (l.map bval)) (hG : GlobT w) :
  Calls Tryz.prog 97 #[v] w fun e w' => e = .returned (.agg ((nq (leN (l.take 64) : Nat)).map bval).toArray) ∧ Below w.heap.size w w' := by
 have h64 : (l.take 64).length ≤ 64 := by simp; omega
 have HV := jh hv
 obtain ⟨a, cap, rfl, r1, r2, r3, r4⟩ := hv
 have HL64 := jh h64
 have HG := jh hG
 have HB := jh (Blk.made w (ints .u8 (List.replicate 32 0)) 23)
 have HE := jh (Ext.alloc w (.cells (ints .u8 (List.replicate 32 0)).toArray 23))
 have HR4 := jh r4
 have HR3 := jh r3
 have HLM : Hid ((l.map bval).length = l.length) := jh (q101 _)
 clear h64 hG r4 r3
 rw [HLM.out] at r1 ⊢
 unfold maxLen at r2
 have hi1 : Hid ((Tryz.prog.info? 23).map (·.size) = some ((nq (leN (l.take 64) : Nat)).map bval).length) := jh (zac (zbu _))
 have hl1 : Hid (((nq (leN (l.take 64) : Nat)).map bval).length = (ints .u8 (List.replicate 32 0)).length) := jh (by rw [q101, zbu]; rfl)
 by_cases hle : l.length ≤ 64
 ·skip
  have HRW : Hid (Row1 w (.slice a l.length cap) ((l.take 64).map bval)) := jh (by rw [q110 hle]; have := HV.out; rwa [HLM.out] at this)
  go_enter Tryz.func97, Tryz.ntmps97
  go_wp2_with fail
  change Calls _ _ _ (w.alloc (.cells (ints .u8 (List.replicate 32 0)).toArray 23)) _
  refine (scl_limbsOf_any _ (l.take 64) _ HL64.out (HRW.out.below HE.out)).mono ?_
  rintro e w1 ⟨rfl, hb1⟩
  have HB := xb HB hb1
  have HE := xt HE hb1
  clear hb1
  go_wp2_with fail
  refine (limF_num (l.take 64) HL64.out _ (HG.out.ext HE.out)).mono ?_
  rintro e w2 ⟨rfl, hb1⟩
  have HB := xb HB hb1
  have HE := xt HE hb1
  clear hb1
  go_wp2_with (refine ssb w.heap.size _ HB.out hl1.out hi1.out (zaf _) ?_; intro w7 hb7 hg7)
  exact bodyPost_ret (v := .agg ((nq (leN (l.take 64) : Nat)).map bval).toArray) (zap (by rfl) _ w.heap.size _ _ _ (by rfl) hb7 q100 rfl hi1.out) rfl ⟨rfl, zab HE.out hg7 (q102 _)⟩
 ·skip
  have HRW : Hid (Row1 w (.slice a 64 cap) ((l.take 64).map bval)) := jh (by rw [List.map_take]; exact HV.out.head 64 (by rw [HLM.out]; omega))
  go_enter Tryz.func97, Tryz.ntmps97
  go_wp2_with fail
  change Calls _ _ _ (w.alloc (.cells (ints .u8 (List.replicate 32 0)).toArray 23)) _
  refine (scl_limbsOf_any _ (l.take 64) _ HL64.out (HRW.out.below HE.out)).mono ?_
  rintro e w1 ⟨rfl, hb1⟩
  have HB := xb HB hb1
  have HE := xt HE hb1
  clear hb1
  go_wp2_with fail
  refine (limF_num (l.take 64) HL64.out _ (HG.out.ext HE.out)).mono ?_
  rintro e w2 ⟨rfl, hb1⟩
  have HB := xb HB hb1
  have HE := xt HE hb1
  clear hb1
  go_wp2_with (refine ssb w.heap.size _ HB.out hl1.out hi1.out (zaf _) ?_; intro w7 hb7 hg7)
  exact bodyPost_ret (v := .agg ((nq (leN (l.take 64) : Nat)).map bval).toArray) (zap (by rfl) _ w.heap.size _ _ _ (by rfl) hb7 q100 rfl hi1.out) rfl ⟨rfl, zab HE.out hg7 (q102 _)⟩
theorem lim_blk (l : List UInt8) {w : World} {c : Nat} {t : TypeId} (h : Blk w c (l.map bval) t) (hl : l.length = 32) :
  Calls Tryz.prog 98 #[.slice (some ⟨c, 0, none⟩) 32 32] w fun e w' => e = .returned (.agg (ints .i64 (limF l)).toArray) ∧ Below w.heap.size w w' := scl_limbsOf_any _ l w (by omega) (num_row h hl)
theorem red_blk (l : List UInt8) {w : World} {c : Nat} {t : TypeId} (h : Blk w c (l.map bval) t) (hl : l.length = 32) (hG : GlobT w) :
  Calls Tryz.prog 97 #[.slice (some ⟨c, 0, none⟩) 32 32] w fun e w' => e = .returned (.agg ((nq (leN l : Nat)).map bval).toArray) ∧ Below w.heap.size w w' := by
 have := Reduce_num _ l w (num_row h hl) hG
 rwa [q110 (by omega)] at this
theorem Less_num (l : List UInt8) (w : World) (hl : l.length = 32) (hG : GlobT w) :
  Calls Tryz.prog 62 #[.agg (l.map bval).toArray] w fun e w' => e = .returned (.bool (lessB l)) ∧ Below w.heap.size w w' := by
 have HL := jh hl
 have HG := jh hG
 have HI : Hid ((Tryz.prog.info? 23).map (·.size) = some (l.map bval).length) := jh (zac hl)
 have HB := jh (Blk.made w (l.map bval) 23)
 have HA0 := jh (Ext.alloc w (.cells (l.map bval).toArray 23))
 clear hl hG
 go_enter Tryz.func62, Tryz.ntmps62
 go_wp2_with fail
 change Code.wp _ _ _ _ (w.alloc (.cells (l.map bval).toArray 23))
 generalize w.alloc (.cells (l.map bval).toArray 23) = w0 at *
 have h1 := HB.out
 have hE := HA0.out
 obtain ⟨A, hA⟩ : ∃ A, A = w.heap.size := ⟨_, rfl⟩
 rw [← hA] at h1 ⊢
 have H1 := jh h1
 have HE : Hid (Ext w w0) := jh hE
 clear h1 hE HB HA0
 have hred : ∀ w2, Ext w0 w2 → Calls Tryz.prog 97 #[.slice (some ⟨A, 0, none⟩) 32 32] w2 fun e w' => e = .returned (.agg ((nq (leN l : Nat)).map bval).toArray) ∧ Below w2.heap.size w2 w' := fun w2 hw => red_blk l (zad H1.out hw) HL.out (HG.out.ext (HE.out.trans hw))
 refine zbb (by kernel_rfl) (by kernel_rfl) ?_
 refine zaw (.slice (some ⟨A, 0, none⟩) 32 32) (by rfl) (fun w hw => by go_simp) ?_
 simp only [nm]
 refine sdc [.slice (some ⟨A, 0, none⟩) 32 32] (.agg ((nq (leN l : Nat)).map bval).toArray) Tryz.call97 (fun w hw => hred w hw) ?_
 simp only [nm]
 refine zax _ _ A (l.map bval) _ (by rfl) rfl rfl (fun w hw => zaq H1.out hw) q100 rfl HI.out ?_
 simp only [nm]
 refine det_eql _ _ _ _ _ _ 32 _ (nq (leN l : Nat)) l (lessB l) (by rfl) rfl (Or.inl ⟨rfl, lessB_eq l HL.out⟩) q100 q111 zch zby zcb rfl rfl (zbu _) HL.out ?_
 simp only [nm]
 refine zbi _ (.bool (lessB l)) (by rfl) rfl rfl ?_
 simp only [nm]
 refine zao (fun w9 hw9 => ?_)
 go_wp2_with fail
 go_ret
 exact ⟨rfl, HE.out.trans hw9⟩
theorem scl_Add_num (l m : List UInt8) (w : World) (hl : l.length = 32) (hm : m.length = 32) (hG : GlobT w) :
  Calls Tryz.prog 55 #[.agg (l.map bval).toArray, .agg (m.map bval).toArray] w fun e w' => e = .returned (.agg ((nq ((leN l : Nat) + (leN m : Nat))).map bval).toArray) ∧ Below w.heap.size w w' := by
 have HSM := jh (leN_summ l m hl hm)
 have HL := jh hl
 have HM := jh hm
 have HG := jh hG
 have HIl : Hid ((Tryz.prog.info? 23).map (·.size) = some (l.map bval).length) := jh (zac hl)
 have HIm : Hid ((Tryz.prog.info? 23).map (·.size) = some (m.map bval).length) := jh (zac hm)
 have HCX := jh (limF_can l (by omega))
 have HCY := jh (limF_can m (by omega))
 have HB := jh (boxes3 w (l.map bval) (m.map bval) (ints .u8 (List.replicate 32 0)) 23 23 23)
 clear hl hm hG
 go_enter Tryz.func55, Tryz.ntmps55
 go_wp2_with fail
 change Code.wp _ _ _ _ (((w.alloc (.cells (l.map bval).toArray 23)).alloc (.cells (m.map bval).toArray 23)).alloc (.cells (ints .u8 (List.replicate 32 0)).toArray 23))
 generalize ((w.alloc (.cells (l.map bval).toArray 23)).alloc (.cells (m.map bval).toArray 23)).alloc (.cells (ints .u8 (List.replicate 32 0)).toArray 23) = w0 at *
 obtain ⟨h1, h2, h3, hE⟩ := HB.out
 obtain ⟨A, hA⟩ : ∃ A, A = w.heap.size := ⟨_, rfl⟩
 rw [← hA] at h1 h2 h3 ⊢
 have hA2 : w.heap.size ≤ A := by omega
 have hA3 : A + 1 + 1 < w0.heap.size := h3.lt
 have H1 := jh h1
 have H2 := jh h2
 have H3 := jh h3
 have HE : Hid (Ext w w0) := jh hE
 clear h1 h2 h3 hE HB hA
 refine swf 4 4 6 ?_
 refine zaw (.slice (some ⟨A, 0, none⟩) 32 32) (by rfl) (fun w hw => by go_simp) ?_
 simp only [nm]
 refine sdc [.slice (some ⟨A, 0, none⟩) 32 32] (.agg (ints .i64 (limF l)).toArray) Tryz.call98 (fun w hw => lim_blk l (zad H1.out hw) HL.out) ?_
 simp only [nm]
 refine zaw (.slice (some ⟨(A + 1), 0, none⟩) 32 32) (by rfl) (fun w hw => by go_simp) ?_
 simp only [nm]
 refine sdc [.slice (some ⟨(A + 1), 0, none⟩) 32 32] (.agg (ints .i64 (limF m)).toArray) Tryz.call98 (fun w hw => lim_blk m (zad H2.out hw) HM.out) ?_
 simp only [nm]
 refine zao (end_var2 (k := 4) 127 5 6 (.tmp 9) (.tmp 11) (ints .i64 (List.replicate 19 0)) (ints .i64 (limF l)) (ints .i64 (limF m)) rfl rfl rfl rfl (by kernel_rfl) (by kernel_rfl) (by kernel_rfl) (by kernel_rfl) (by kernel_rfl) (by kernel_rfl) (by kernel_rfl) (by kernel_rfl) (by kernel_rfl) (by kernel_rfl) rfl rfl rfl rfl rfl rfl rfl rfl (by decide) (fun w => by rw [Tryz.zeroValue127]; rfl) rfl rfl rfl rfl (by simp) (by simp) (fun p q => rfl) (fun p q => rfl) (by rw [zaa, zaa, zdt]; rfl) (by rw [zaa, zaa, zdt]; rfl) (by rw [zaa, zdt]; exact Tryz.arr127) (by rw [zaa, zdt]; exact Tryz.arr127) (zaj _ _) (zaj _ _) ?_)
 intro p q w1 hpq hp hq hb1 hb2 he1
 have HPQ := jh hpq
 have H3 := xb H3 he1
 have HE := xt HE he1
 have HX := jh hb1
 have HY := jh hb2
 have hpA : A + 1 + 1 < p := by omega
 have hqA : A + 1 + 1 < q := by omega
 clear hpq hb1 hb2 he1 H1 H2
 clear hp hq
 go_wp2_with fail
 have HXL := jh HCX.out.len
 have HYL := jh HCY.out.len
 have HXR := jh HCX.out.range
 have HYR := jh HCY.out.range
 have HXV := jh HCX.out.val
 have HYV := jh HCY.out.val
 generalize limF l = x at *
 generalize limF m = y at *
 go_loopw [12] (fun i wr => ∃ (k : Nat), k ≤ 19 ∧ i = .int .i64 (k : Int) ∧ Blk wr p (ints .i64 (aLim x y k)) 127 ∧ Blk wr q (ints .i64 y) 127 ∧ Blk wr (A + 1 + 1) (ints .u8 (List.replicate 32 0)) 23 ∧ Ext w wr) (fun i _ => 19 - (intOf i).toNat)
 case atStart => exact ⟨0, by omega, rfl, HX.out, HY.out, H3.out, HE.out⟩
 case round =>
  clear HX HY H3 HE
  obtain ⟨k, hk, rfl, hb1, hb2, hb3, hbel⟩ := hrel
  have i0' : (0 : Int) ≤ (k : Int) := Int.natCast_nonneg _
  have hlen := aLim_length x y k
  rw [HXL.out] at hlen
  have hyl := HYL.out
  by_cases hlt : k < 19
  ·have i1 : (k : Int) < 19 := by omega
   have e1 := hb1.cell k
   rw [zan (by omega)] at e1
   have e2 := hb2.cell k
   rw [zan (by omega)] at e2
   have f1 := hb1.free k
   have q1 := HXR.out k
   rw [← aLim_far x y k k (q102 _)] at q1
   have q2 := HYR.out k
   have hst : aLim x y (k + 1) = (aLim x y k).set k ((aLim x y k).getD k 0 + y.getD k 0) := rfl
   have HST := jh hst
   generalize (aLim x y k).getD k 0 = a at *
   generalize y.getD k 0 = b at *
   have HX := jh hb1
   have HY := jh hb2
   have H3 := jh hb3
   have HE := jh hbel
   clear hst hb1 hb2 hb3 hbel hlen hyl
   go_wp2_with fail
   go_region
   go_wp2_with fail
   go_roundw
   case rel =>
    refine ⟨k + 1, by omega, by go_num, ?_, (HY.out.far (by simpa using HPQ.out) _).drewN 1, (H3.out.far (by simp; omega) _).drewN 1, (Below.setCell HE.out (by simp; omega) _).drew⟩
    rw [HST.out, ← zbq]
    exact (HX.out.set k _).drewN 1
   case measure => simp [intOf]; omega
  ·have hk' : k = 19 := by omega
   subst hk'
   have hxl := HXL.out
   have HNM := jh (fun w hw => scl_numOf_any (aLim x y 19) ((leN l : Nat) + (leN m : Nat)) 1073741824 w hw hlen (by omega) (by omega) (fun j hj => by
    rw [aLim_in x y 19 j (by omega) hj]
    have := HXR.out j
    have := HYR.out j
    omega) (by rw [aLim_val 268435456 x y 19 (by omega) (by omega), HXV.out, ← hyl, q173, HYV.out]) (by omega) HSM.out)
   have hi1 : Hid ((Tryz.prog.info? 127).map (·.size) = some (ints .i64 (aLim x y 19)).length) := jh (by rw [zaa, hlen]; exact Tryz.arr127)
   have HX := jh hb1
   have H3 := jh hb3
   have HE := jh hbel
   clear hb1 hb2 hb3 hbel hlen hyl hxl
   go_wp2_with (refine slb p HX.out q155 hi1.out ?_)
   refine (HNM.out _ (HG.out.ext HE.out)).mono ?_
   rintro e w5 ⟨rfl, hb5⟩
   have H3 := xb H3 hb5
   have HE := xt HE hb5
   have hi2 : Hid ((Tryz.prog.info? 23).map (·.size) = some ((nq ((leN l : Nat) + (leN m : Nat))).map bval).length) := jh (zac (zbu _))
   have hl2 : Hid (((nq ((leN l : Nat) + (leN m : Nat))).map bval).length = (ints .u8 (List.replicate 32 0)).length) := jh (by rw [q101, zbu]; rfl)
   clear hb5 HNM
   go_wp2_with (refine ssb (A + 1 + 1) _ H3.out hl2.out hi2.out (zaf _) ?_; intro w7 hb7 hg7)
   exact bodyPost_ret (v := .agg ((nq ((leN l : Nat) + (leN m : Nat))).map bval).toArray) (zap (by rfl) _ (A + 1 + 1) _ _ _ (by rfl) hb7 q100 rfl hi2.out) rfl ⟨rfl, zab HE.out hg7 (by omega)⟩
theorem beQ_cut {m : List UInt8} {s k : Nat} (h : k + 8 ≤ 128) : beQ ((m.drop s).take 128) k = beQ m (s + k) := by
 have g : ∀ j, j < 128 → ((m.drop s).take 128).getD j 0 = m.getD (s + j) 0 := fun j hj => by
  simp only [List.getD, List.getElem?_take, if_pos hj, List.getElem?_drop]
 have g2 : ∀ n, n ≤ 8 → beN ((m.drop s).take 128) k n = beN m (s + k) n := by
  intro n
  induction n with
  | zero => intro _; rfl
  | succ n ih => intro hn; rw [beN, beN, ih (by omega), g (k + n) (by omega), Nat.add_assoc]
 unfold beQ
 rw [g2 8 (q102 _)]
theorem qTop_cut (m : List UInt8) (s : Nat) : ∀ k, k ≤ 16 → qTop ((m.drop s).take 128) 0 k = qTop m s k
 | 0, _ => rfl
 | k + 1, h => by
  rw [qTop, qTop, qTop_cut m s k (by omega), q125, beQ_cut (by omega)]
theorem qSch_cut (m : List UInt8) (s : Nat) : ∀ n, qSch ((m.drop s).take 128) 0 n = qSch m s n
 | 0 => qTop_cut m s 16 (q102 _)
 | n + 1 => by rw [qSch, qSch, qSch_cut m s n]
theorem gRun_mix (m : List UInt8) (n : Nat) : gRun m (n + 1) = mixFQ (gRun m n) ((m.drop (128 * n)).take 128) := by
 rw [gRun, mixFQ, qSch_cut]
theorem gRun_front (p q : List UInt8) : ∀ n, 128 * n ≤ p.length → gRun (p ++ q) n = gRun p n
 | 0, _ => rfl
 | n + 1, h => by
  rw [gRun_mix, gRun_mix, gRun_front p q n (by omega)]
  congr 1
  rw [List.drop_append_of_le_length (by omega), q161 (by rw [q139]; omega)]
theorem gRun_block (p x : List UInt8) (n : Nat) (hp : p.length = 128 * n) (hx : x.length = 128) (q : List UInt8) : gRun (p ++ x ++ q) (n + 1) = mixFQ (gRun p n) x := by
 rw [gRun_mix, q137, gRun_front p (x ++ q) n (by omega), List.drop_append_of_le_length (by omega), ← hp, List.drop_length, q118, q161 (by omega), q110 (by omega)]
theorem ofNat_modQ (n : Nat) : UInt8.ofNat (n % 256) = UInt8.ofNat n := by
 apply UInt8.toNat_inj.1
 rw [UInt8.toNat_ofNat', UInt8.toNat_ofNat']
 omega
def be8 (x : Q64) : List UInt8 := [UInt8.ofNat (x.toNat / 72057594037927936), UInt8.ofNat (x.toNat / 281474976710656), UInt8.ofNat (x.toNat / 1099511627776), UInt8.ofNat (x.toNat / 4294967296), UInt8.ofNat (x.toNat / 16777216), UInt8.ofNat (x.toNat / 65536), UInt8.ofNat (x.toNat / 256), UInt8.ofNat x.toNat]
theorem put8_at (a b : List UInt8) (x0 x1 x2 x3 x4 x5 x6 x7 : UInt8) (x : Q64) : put8 (a ++ x0 :: x1 :: x2 :: x3 :: x4 :: x5 :: x6 :: x7 :: b) a.length x = a ++ be8 x ++ b := by
 unfold put8 be8
 rw [q146 _ _ (by omega), q146 _ _ (by omega), q146 _ _ (by omega), q146 _ _ (by omega), q146 _ _ (by omega), q146 _ _ (by omega), q146 _ _ (by omega), q146 _ _ (by omega)]
 have e1 : a.length + 1 - a.length = 1 := by omega
 have e2 : a.length + 2 - a.length = 2 := by omega
 have e3 : a.length + 3 - a.length = 3 := by omega
 have e4 : a.length + 4 - a.length = 4 := by omega
 have e5 : a.length + 5 - a.length = 5 := by omega
 have e6 : a.length + 6 - a.length = 6 := by omega
 have e7 : a.length + 7 - a.length = 7 := by omega
 rw [q152, e1, e2, e3, e4, e5, e6, e7]
 simp
theorem be8_len (n : Nat) (h : n ≤ 1099511627776) : List.replicate 8 0 ++ be8 (BitVec.ofNat 64 (8 * n)) = beB 16 (8 * n) := by
 have e2 : (BitVec.ofNat 64 (8 * n)).toNat = 8 * n := by rw [BitVec.toNat_ofNat]; omega
 have g : ∀ a b : Nat, a % 256 = b % 256 → UInt8.ofNat a = UInt8.ofNat b := fun a b h => by rw [← ofNat_modQ a, ← ofNat_modQ b, h]
 have z : ∀ k : Nat, 8 * n < k → (0 : UInt8) = UInt8.ofNat (8 * n / k % 256) := fun k hk => by rw [q157 hk]; rfl
 simp only [be8, beB, e2, List.replicate, q170, q118, Nat.reducePow, List.cons.injEq, and_true]
 refine ⟨?_, ?_, ?_, ?_, ?_, ?_, ?_, ?_, ?_, ?_, ?_, ?_, ?_, ?_, ?_, ?_⟩ <;> first | exact g _ _ (by omega) | exact z _ (by omega)
def lastBQ (l : List UInt8) (f : Nat) : List UInt8 := l.take f ++ 128 :: List.replicate (127 - f) 0
theorem lastBQ_length {l : List UInt8} {f : Nat} (hl : f ≤ l.length) (hf : f < 128) : (lastBQ l f).length = 128 := by
 simp [lastBQ]
 omega
theorem rep8Q : List.replicate 8 (0 : UInt8) = [0, 0, 0, 0, 0, 0, 0, 0] := rfl
theorem put_lenQ (a : List UInt8) (n : Nat) (ha : a.length = 112) (h : n ≤ 1099511627776) : put8 (a ++ List.replicate 16 0) 120 (BitVec.ofNat 64 (8 * n)) = a ++ beB 16 (8 * n) := by
 have e1 := put8_at (a ++ List.replicate 8 0) [] 0 0 0 0 0 0 0 0 (BitVec.ofNat 64 (8 * n))
 have e3 : (a ++ List.replicate 8 (0 : UInt8)).length = 120 := by simp [ha]
 rw [e3] at e1
 rw [← be8_len n h, show (16 : Nat) = 8 + 8 from rfl, ← q174, ← q137, rep8Q]
 rw [rep8Q] at e1
 rw [e1, q136, q137]
theorem close_oneQ (p l : List UInt8) (n f : Nat) (hp : p.length = 128 * n + f) (hf : f < 112) (hl : l.length = 128) (hlf : l.take f = p.drop (128 * n)) (hb : p.length ≤ 1099511627776) :
  gRun (paddedQ p) ((p.length + 144) / 128) = mixFQ (gRun p n) (put8 (lastBQ l f) 120 (BitVec.ofNat 64 (8 * p.length))) := by
 have e1 : lastBQ l f = (l.take f ++ 128 :: List.replicate (111 - f) 0) ++ List.replicate 16 0 := by
  unfold lastBQ
  rw [show 127 - f = (111 - f) + 16 from by omega, ← q174]
  simp
 rw [e1, put_lenQ _ _ (by simp; omega) hb, hlf]
 have e2 : (p.length + 144) / 128 = n + 1 := by omega
 have e3 : padQ p.length = 111 - f := by unfold padQ; omega
 have e4 : paddedQ p = p.take (128 * n) ++ (p.drop (128 * n) ++ 128 :: List.replicate (111 - f) 0 ++ beB 16 (8 * p.length)) ++ [] := by
  unfold paddedQ
  rw [e3]
  simp only [q137, q136, q170, q118]
  rw [← q137, q117]
 have e5 : gRun p n = gRun (p.take (128 * n)) n := by
  have h := gRun_front (p.take (128 * n)) (p.drop (128 * n)) n (by simp; omega)
  rwa [q117] at h
 rw [e2, e4, e5, gRun_block _ _ n (by simp; omega) (by simp [beB_length]; omega)]
theorem close_twoQ (p l : List UInt8) (n f : Nat) (hp : p.length = 128 * n + f) (hf : 112 ≤ f) (hf2 : f < 128) (hl : l.length = 128) (hlf : l.take f = p.drop (128 * n)) (hb : p.length ≤ 1099511627776) :
  gRun (paddedQ p) ((p.length + 144) / 128) = mixFQ (mixFQ (gRun p n) (lastBQ l f)) (put8 (List.replicate 128 0) 120 (BitVec.ofNat 64 (8 * p.length))) := by
 have e1 : List.replicate 128 (0 : UInt8) = List.replicate 112 0 ++ List.replicate 16 0 := by rw [q174]
 rw [e1, put_lenQ _ _ q133 hb]
 have e2 : (p.length + 144) / 128 = n + 1 + 1 := by omega
 have e3 : padQ p.length = (127 - f) + 112 := by unfold padQ; omega
 have e4 : paddedQ p = (p.take (128 * n) ++ lastBQ l f) ++ (List.replicate 112 0 ++ beB 16 (8 * p.length)) ++ [] := by
  unfold paddedQ lastBQ
  rw [e3, hlf, ← q174]
  simp only [q137, q136, q170, q118]
  exact (congrArg (· ++ 128 :: (List.replicate (127 - f) 0 ++ (List.replicate 112 0 ++ beB 16 (8 * p.length)))) (q117 (128 * n) p)).symm.trans (q137 _ _ _)
 have e5 : gRun p n = gRun (p.take (128 * n)) n := by
  have h := gRun_front (p.take (128 * n)) (p.drop (128 * n)) n (by simp; omega)
  rwa [q117] at h
 have hlb := lastBQ_length (l := l) (f := f) (by omega) hf2
 have e6 := gRun_block (p.take (128 * n)) (lastBQ l f) n (by simp; omega) hlb []
 rw [q136] at e6
 rw [e2, e4, e5, gRun_block _ _ (n + 1) (by rw [q108, hlb]; simp; omega) (by rw [q108, q133, beB_length]), e6]
def outKQ (h : List Q64) : Nat → List UInt8
 | 0 => List.replicate 64 0
 | k + 1 => put8 (outKQ h k) (8 * k) (h.getD k 0#64)
theorem outKQ_length (h : List Q64) : ∀ k, (outKQ h k).length = 64
 | 0 => by simp [outKQ]
 | k + 1 => by rw [outKQ, put8_length, outKQ_length h k]
def byQ (h : List Q64) (i : Nat) : UInt8 := UInt8.ofNat ((h.getD (i / 8) 0#64).toNat / 2 ^ (56 - 8 * (i % 8)) % 256)
theorem byQ_eq (h : List Q64) (k j : Nat) (hj : j < 8) : byQ h (8 * k + j) = UInt8.ofNat ((h.getD k 0#64).toNat / 2 ^ (56 - 8 * j)) := by
 unfold byQ
 rw [show (8 * k + j) / 8 = k from by omega, show (8 * k + j) % 8 = j from by omega, ofNat_modQ]
theorem put8_be (a b : List UInt8) (x : Q64) (hb : 8 ≤ b.length) : put8 (a ++ b) a.length x = a ++ be8 x ++ b.drop 8 := by
 match b, hb with
 | x0 :: x1 :: x2 :: x3 :: x4 :: x5 :: x6 :: x7 :: b, _ => rw [put8_at]; rfl
theorem outKQ_eq (h : List Q64) : ∀ k, k ≤ 8 → outKQ h k = (List.range (8 * k)).map (byQ h) ++ List.replicate (64 - 8 * k) 0
 | 0, _ => by simp [outKQ]
 | k + 1, hk => by
  have e := put8_be ((List.range (8 * k)).map (byQ h)) (List.replicate (64 - 8 * k) 0) (h.getD k 0#64) (by rw [q133]; omega)
  rw [q101, List.length_range] at e
  rw [outKQ, outKQ_eq h k (by omega), e, List.drop_replicate, show 64 - 8 * k - 8 = 64 - 8 * (k + 1) from by omega]
  congr 1
  rw [show 8 * (k + 1) = 8 * k + 1 + 1 + 1 + 1 + 1 + 1 + 1 + 1 from by omega]
  simp only [List.range_succ, q134, q153, List.map_nil, q137, q170, q118]
  congr 1
  unfold be8
  have b0 := byQ_eq h k 0 (by omega)
  have b1 := byQ_eq h k 1 (by omega)
  have b2 := byQ_eq h k 2 (by omega)
  have b3 := byQ_eq h k 3 (by omega)
  have b4 := byQ_eq h k 4 (by omega)
  have b5 := byQ_eq h k 5 (by omega)
  have b6 := byQ_eq h k 6 (by omega)
  have b7 := byQ_eq h k 7 (by omega)
  simp only [Nat.add_assoc, Nat.reduceAdd, Nat.add_zero] at b0 b1 b2 b3 b4 b5 b6 b7 ⊢
  rw [b0, b1, b2, b3, b4, b5, b6, b7]
  simp only [Nat.reduceMul, Nat.reduceSub, Nat.reducePow, Nat.div_one]
theorem outKQ_full (h : List Q64) (_ : h.length = 8) : outKQ h 8 = outQ h := by
 rw [outKQ_eq h 8 (by omega)]
 simp only [Nat.reduceMul, q152, List.replicate_zero, q136]
 rfl
section
section
variable {P : Program} {w : World}
theorem zeroCells_one (x : Value) (n : Nat) : (Builtin.zeroCells #[x] n).toList = List.replicate n x := by
 unfold Builtin.zeroCells
 rw [Array.toList_map]
 apply List.ext_getElem
 ·simp
 ·intro i h1 h2
  simp [Nat.mod_one]
theorem run_clear_bytes {t e ty : TypeId} (ht : P.underlying t = some (.slice e)) (hz : ∀ w, (zeroValue e).run P w = .ok (.int .u8 0) w) (c o n cap : Nat) (cs : List Value) (tb : TypeId) (hb : Blk w c cs tb) (hn : o + n ≤ cs.length) :
  (Builtin.clear_ #[t] ty #[.slice (some ⟨c, o, none⟩) n cap]).run P w = .ok (.tuple #[]) (w.setCells c o (List.replicate n (.int .u8 0))) := by
 cases n with
 | zero => simp [Builtin.clear_, run_underlying ht, World.setCells]
 | succ n =>
  have hst := run_storeCells_cells (P := P) c o (List.replicate (n + 1) (.int .u8 0)) 0 w (fun j hj => by
   rw [hb.cell, List.getElem?_eq_getElem (by rw [q133] at hj; omega)]
   rfl) (fun j _ => hb.free _) (fun v hv => by rw [List.eq_of_mem_replicate hv]; rfl)
  rw [Nat.add_zero] at hst
  simp [Builtin.clear_, run_underlying ht, hz, Value.cells, zeroCells_one, hst]
end
theorem laid_append : ∀ (vs a b : List Value), vs.length = b.length → laid (a ++ b) a.length vs = a ++ vs
 | [], a, [], _ => rfl
 | v :: r, a, x :: b, h => by
  rw [laid, q146 _ _ (q102 _), q152, List.set_cons_zero]
  have ih := laid_append r (a ++ [v]) b (by simpa using h)
  simpa using ih
end
theorem start_anyQ (w : World) : Calls Tryz.prog 118 #[] w fun e w' => e = .returned (.agg (ints .u64 (qs H512)).toArray) ∧ Below w.heap.size w w' := by
 have HZ := jh (Blk.made w (ints .u64 (List.replicate 8 0)) 154)
 have HE := jh (Ext.alloc w (.cells (ints .u64 (List.replicate 8 0)).toArray 154))
 go_enter Tryz.func118, Tryz.ntmps118
 go_wp2_with (refine ssb w.heap.size (ints .u64 (qs H512)) HZ.out rfl Tryz.arr154 (zaj _ _) ?_; intro w1 hb1 hg1)
 refine bodyPost_ret (zbc rfl _ w.heap.size _ _ _ _ rfl hb1 q130 Tryz.arr154) rfl ?_
 exact ⟨rfl, zab HE.out hg1 (q102 _)⟩
theorem build_blockQ (w : World) : (Instr.build 160 #[]).run Tryz.prog w = .ok (.agg ((List.replicate 128 (0 : UInt8)).map bval).toArray) w := by
 simp [Instr.build, zero_block128]
 rfl
theorem index_wordsQ {T e : TypeId} {n : Nat} (hT : Tryz.prog.underlying T = some (.array n e)) (hs : ∀ w, (sizeOf e).run Tryz.prog w = .ok 1 w) (ha : ∀ w, (isAgg e).run Tryz.prog w = .ok false w) (h : List Q64) (hl : h.length = n) (k : Nat) (hk : k < n) (w : World) :
  (Instr.index T (.agg (ints .u64 (qs h)).toArray) (.int .i64 (k : Int))).run Tryz.prog w = .ok (.int .u64 (qi (h.getD k 0#64))) w := by
 have hg : (ints .u64 (qs h))[k]? = some (.int .u64 (qi (h.getD k 0#64))) := by rw [zan (by rw [zay, hl]; exact hk), zen]
 have hi : 0 ≤ (k : Int) ∧ (k : Int) < (n : Int) := by omega
 unfold Instr.index
 simp only [asIntOf, Sem.run_bind, Sem.run_pure, Result.andThen_ok, run_underlying hT, hi, hs, part, ha]
 rw [if_pos ⟨trivial, trivial⟩]
 simp only [Sem.run_bind, hs, ha, Result.andThen_ok, Int.toNat_natCast, Nat.mul_one, List.getElem?_toArray, hg, Bool.false_eq_true, if_false, Sem.run_pure]
theorem sigOf_any (h : List Q64) (hh : h.length = 8) (w : World) : Calls Tryz.prog 122 #[.agg (ints .u64 (qs h)).toArray] w fun e w' => e = .returned (.agg ((outQ h).map bval).toArray) ∧ Below w.heap.size w w' := by
 have HH := jh hh
 have HB := jh (boxes3uQ w (ints .u64 (qs h)) (ints .u8 (List.replicate 64 0)) (ints .u8 (List.replicate 64 0)) 154 26 26)
 have HIr : Hid ((Tryz.prog.info? 154).map (·.size) = some (ints .u64 (qs h)).length) := jh (by rw [zaa, zay, hh]; exact Tryz.arr154)
 clear hh
 go_enter Tryz.func122, Tryz.ntmps122
 go_upto_region 2 with (fail)
 obtain ⟨H1, H2, H3, HE⟩ := HB.out
 change Code.wp _ _ _ _ (((w.alloc (.cells (ints .u64 (qs h)).toArray 154)).alloc (.cells (ints .u8 (List.replicate 64 0)).toArray 26)).alloc (.cells (ints .u8 (List.replicate 64 0)).toArray 26))
 generalize (((w.alloc (.cells (ints .u64 (qs h)).toArray 154)).alloc (.cells (ints .u8 (List.replicate 64 0)).toArray 26)).alloc (.cells (ints .u8 (List.replicate 64 0)).toArray 26)) = w3 at *
 obtain ⟨A, hA⟩ : ∃ A, A = w.heap.size := ⟨_, rfl⟩
 rw [← hA] at H1 H2 H3 ⊢
 have hA2 : w.heap.size ≤ A := by omega
 have H1 := jh H1
 have H2 := jh H2
 have H3 := jh H3
 have HE : Hid (Ext w w3) := jh HE
 clear hA HB
 go_wp2_with (refine slb A H1.out q130 HIr.out ?_)
 go_loopw [7] (fun iv wr => ∃ (k : Nat), k ≤ 8 ∧ iv = .int .i64 (k : Int) ∧ Blk wr (A + 1) (ints .u8 (List.replicate 64 0)) 26 ∧ Blk wr (A + 1 + 1) ((outKQ h k).map bval) 26 ∧ Ext w wr) (fun iv _ => 8 - (intOf iv).toNat)
 case atStart => exact ⟨0, by omega, rfl, H2.out, H3.out, HE.out⟩
 case round =>
  clear H1 H2 H3 HE
  obtain ⟨k, hk, rfl, hb2, hb3, hbel⟩ := hrel
  have k0 : (0 : Int) ≤ (k : Int) := Int.natCast_nonneg _
  by_cases hlk : k < 8
  ·have k1 : (k : Int) < 8 := by omega
   have hi := index_wordsQ q130 q106 q105 h HH.out k hlk
   have hs := cut_arrQ q119 byte_cells q115 wr (A + 1 + 1) (8 * k) (by omega)
   have e4 : ((8 * k : Nat) : Int) = 8 * (k : Int) := by omega
   rw [e4] at hs
   have HP := jh (put_anyQ (A + 1 + 1) (8 * k) (64 - 8 * k) (64 - 8 * k) (outKQ h k) (h.getD k 0#64) _ wr hb3 (by rw [outKQ_length]; omega) (by omega))
   have HK : Hid (outKQ h (k + 1) = put8 (outKQ h k) (8 * k) (h.getD k 0#64)) := jh rfl
   have H2 := jh hb2
   have HE := jh hbel
   clear hb2 hb3 hbel e4
   generalize h.getD k 0#64 = y at *
   go_wp2_with fail
   refine HP.out.mono ?_
   rintro e w4 ⟨rfl, hb, hg⟩
   have H2 := jh (H2.out.grown hg (by simp))
   have HE := jh (zab HE.out hg (by omega))
   have H3 := jh hb
   clear hb hg HP hs hi
   go_wp2_with fail
   go_roundw
   case rel => exact ⟨k + 1, by omega, by go_num, H2.out, by rw [HK.out]; exact H3.out, HE.out⟩
   case measure => simp [intOf]; omega
  ·have hk8 : k = 8 := by omega
   subst hk8
   rw [outKQ_full h HH.out] at hb3
   have H2 := jh hb2
   have H3 := jh hb3
   have HE := jh hbel
   clear hb2 hb3 hbel
   have HIo : Hid ((Tryz.prog.info? 26).map (·.size) = some ((outQ h).map bval).length) := jh (zcg (outQ_length h))
   have HLo : Hid (((outQ h).map bval).length = (ints .u8 (List.replicate 64 0)).length) := jh (by rw [q101, outQ_length, zaa, q133])
   go_wp2_with (first | (refine slb (A + 1 + 1) H3.out q119 HIo.out ?_) | (refine ssb (A + 1) ((outQ h).map bval) H2.out HLo.out HIo.out (zaf _) ?_; intro w4 hb4 hg4))
   refine bodyPost_ret (zbc rfl _ (A + 1) _ _ _ _ rfl hb4 q119 HIo.out) rfl ?_
   exact ⟨rfl, zab HE.out hg4 (by omega)⟩
theorem cut_arr2Q {t : TypeId} {n : Nat} {e : TypeId} (ht : Tryz.prog.underlying t = some (.array n e)) (h : ∀ w, (sizeOf e).run Tryz.prog w = .ok 1 w) (w : World) (A p : Nat) (hp : p ≤ n) :
  ∃ o, o + (n - p) ≤ n ∧ (p < n → o = p) ∧ (Instr.sliceAt t (.pointer (some ⟨A, 0, none⟩)) (some (.int .i64 (p : Int))) none none).run Tryz.prog w = .ok (.slice (some ⟨A, o, none⟩) (n - p) (n - p)) w := by
 have e1 : Tryz.prog.arrayLen t = n := by unfold Program.arrayLen; rw [ht]
 have e2 : Tryz.prog.elem t = e := by unfold Program.elem; rw [ht]
 have hr := run_sliceAt_array_l w t ⟨A, 0, none⟩ (by rw [e1, e2]; exact ht) .i64 (p : Int) (by omega) (by rw [e1]; omega)
 rw [e2, h, e1] at hr
 by_cases hpn : n = p
 ·refine ⟨0, by omega, by omega, ?_⟩
  rw [hr]
  simp [slicedAt, hpn]
 ·refine ⟨p, by omega, fun _ => rfl, ?_⟩
  rw [hr]
  simp [slicedAt, Addr.add, hpn]
  exact fun h => h.symm
theorem laid_lastQ (l : List UInt8) (f o : Nat) (hl : l.length = 128) (hf : f < 128) (ho : f + 1 < 128 → o = f + 1) :
  laid ((l.map bval).set f (.int .u8 128)) o (List.replicate (127 - f) (.int .u8 0)) = (lastBQ l f).map bval := by
 rw [show 127 - f = 128 - (f + 1) from by omega]
 have e0 : (Value.int .u8 128) = bval 128 := rfl
 have e1 : l.set f 128 = l.take f ++ [128] ++ l.drop (f + 1) := by
  rw [List.set_eq_take_append_cons_drop, if_pos (by omega)]
  simp
 have e2 : (List.replicate (128 - (f + 1)) (Value.int .u8 0)) = (List.replicate (128 - (f + 1)) (0 : UInt8)).map bval := by rw [List.map_replicate]; rfl
 rw [e0, ← q127, e1, e2]
 by_cases h : f + 1 < 128
 ·rw [ho h, q134]
  have h3 : f + 1 = ((l.take f ++ [128]).map bval).length := by simp; omega
  have h4 := laid_append ((List.replicate (128 - (f + 1)) (0 : UInt8)).map bval) ((l.take f ++ [128]).map bval) ((l.drop (f + 1)).map bval) (by simp; omega)
  rw [← h3] at h4
  rw [h4, ← q134]
  unfold lastBQ
  rw [show 128 - (f + 1) = 127 - f from by omega]
  simp
 ·have h3 : f = 127 := by omega
  subst h3
  unfold lastBQ
  simp [laid, hl]
/-- The hash of p, of which n blocks are told by h and f bytes lie in l. -/
theorem closed_anyQ (p l : List UInt8) (n f : Nat) (w : World) (hp : p.length = 128 * n + f) (hf : f < 128) (hl : l.length = 128) (hlf : l.take f = p.drop (128 * n)) (hb : p.length ≤ 1099511627776) (hG : GlobRQ w) :
  Calls Tryz.prog 123 #[.agg (ints .u64 (qs (gRun p n))).toArray, .agg (l.map bval).toArray, .int .i64 (f : Int), .int .i64 (p.length : Int)] w fun e w' =>
   e = .returned (.agg (ints .u64 (qs (gRun (paddedQ p) ((p.length + 144) / 128)))).toArray) ∧ Below w.heap.size w w' := by
 have HG := jh hG
 have HB := jh (boxes3uQ w (ints .u64 (qs (gRun p n))) (l.map bval) (ints .u64 (List.replicate 8 0)) 154 160 154)
 have HL := jh hl
 have HR := jh (zdc p n)
 have hb0 : (p.length : Int) ≤ 1099511627776 := by omega
 have hf0 : (f : Int) < 128 := by omega
 have HC1 : Hid (f < 112 → _) := jh (fun h112 => close_oneQ p l n f hp h112 hl hlf hb)
 have HC2 : Hid (112 ≤ f → _) := jh (fun h112 => close_twoQ p l n f hp h112 hf hl hlf hb)
 generalize gRun (paddedQ p) ((p.length + 144) / 128) = R at *
 generalize gRun p n = h at *
 have HLB := jh (lastBQ_length (l := l) (f := f) (by omega) hf)
 clear hG hlf hp
 go_enter Tryz.func123, Tryz.ntmps123
 go_upto_region 1 with (fail)
 obtain ⟨H1, H2, H3, HE⟩ := HB.out
 change Code.wp _ _ _ _ (((w.alloc (.cells (ints .u64 (qs h)).toArray 154)).alloc (.cells (l.map bval).toArray 160)).alloc (.cells (ints .u64 (List.replicate 8 0)).toArray 154))
 generalize (((w.alloc (.cells (ints .u64 (qs h)).toArray 154)).alloc (.cells (l.map bval).toArray 160)).alloc (.cells (ints .u64 (List.replicate 8 0)).toArray 154)) = w3 at *
 obtain ⟨A, hA⟩ : ∃ A, A = w.heap.size := ⟨_, rfl⟩
 rw [← hA] at H1 H2 H3 ⊢
 have hA2 : w.heap.size ≤ A := by omega
 have c0 : w3.cell? ⟨A + 1, f, none⟩ = some (.int .u8 ((l.getD f 0).toNat : Int)) := by rw [H2.cell, zbg (by omega)]
 have f0 := H2.free f
 have H1 := jh H1
 have H2 := jh H2
 have H3 := jh H3
 have HE : Hid (Ext w w3) := jh HE
 clear hA HB hl
 generalize ((l.getD f 0).toNat : Int) = z0 at *
 obtain ⟨o, ho1, ho2, hs⟩ := cut_arr2Q q163 q115 (w3.setCell ⟨A + 1, f, none⟩ (.int .u8 128)) (A + 1) (f + 1) (by omega)
 have ef : ((f + 1 : Nat) : Int) = (f : Int) + 1 := by omega
 rw [ef] at hs
 have HB3 := jh (H2.out.set f (.int .u8 128))
 have hcl := run_clear_bytes (ty := 0) q107 Tryz.zeroValue5 (A + 1) o (127 - f) (127 - f) _ _ HB3.out (by have := HL.out; simp; omega)
 have HLL := jh (laid_lastQ l f o HL.out hf ho2)
 clear ho1 ho2 ef
 go_upto_region 3 with (fail)
 have H2 := Blk.setCells (List.replicate (127 - f) (.int .u8 0)) _ o _ HB3.out
 rw [HLL.out] at H2
 have hg : w3.grownBy ((w3.setCell ⟨A + 1, f, none⟩ (.int .u8 128)).setCells (A + 1) o (List.replicate (127 - f) (.int .u8 0))) (some (A + 1)) := zcv _ _ _ _ (zbs (zce w3 _) _ _)
 have H1 := jh (H1.out.grown hg (by simp))
 have H3 := jh (H3.out.grown hg (by simp))
 have HE := jh (zab HE.out hg (by omega))
 have H2 := jh H2
 generalize (w3.setCell ⟨A + 1, f, none⟩ (.int .u8 128)).setCells (A + 1) o (List.replicate (127 - f) (.int .u8 0)) = w4 at *
 clear hg HB3 HLL hcl hs c0 f0
 generalize hLB : lastBQ l f = lb at *
 have HI1 : Hid ((Tryz.prog.info? 154).map (·.size) = some (ints .u64 (qs h)).length) := jh (by rw [zaa, zay, HR.out]; exact Tryz.arr154)
 have HI2 : Hid ((Tryz.prog.info? 160).map (·.size) = some (lb.map bval).length) := jh (by rw [q101, HLB.out]; exact Tryz.arr160)
 have q2 : (qi (BitVec.ofNat 64 (8 * p.length))) = (p.length : Int) * 8 := by
  unfold qi
  rw [BitVec.toNat_ofNat]
  omega
 have HQ2 := jh q2
 have hp0 : (0 : Int) ≤ (p.length : Int) := Int.natCast_nonneg _
 generalize (BitVec.ofNat 64 (8 * p.length)) = x2 at *
 generalize (p.length : Int) = N at *
 clear q2 hb
 have s120 : ∀ w, (Instr.sliceAt 160 (.pointer (some ⟨A + 1, 0, none⟩)) (some (.int .i64 120)) none none).run Tryz.prog w = .ok (.slice (some ⟨A + 1, 120, none⟩) 8 8) w := fun w => cut_arrQ q163 byte_cells q115 w (A + 1) 120 (by omega)
 by_cases h112 : f < 112
 ·have h113 : (f : Int) < 112 := by omega
  have HP2 := put_anyQ (A + 1) 120 8 8 lb x2 _ w4 H2.out (by rw [HLB.out]; omega) (by omega)
  rw [HQ2.out] at HP2
  have HP2 := jh HP2
  go_wp2_with fail
  refine HP2.out.mono ?_
  rintro e w6 ⟨rfl, hb, hg⟩
  have H1 := jh (H1.out.grown hg (by simp))
  have H3 := jh (H3.out.grown hg (by simp))
  have HE := jh (zab HE.out hg (by omega))
  have H2 := jh hb
  clear hb hg HP2
  have HI3 : Hid ((Tryz.prog.info? 160).map (·.size) = some ((put8 lb 120 x2).map bval).length) := jh (by rw [q101, put8_length, HLB.out]; exact Tryz.arr160)
  have HI4 : Hid ((Tryz.prog.info? 154).map (·.size) = some (ints .u64 (qs (mixFQ h (put8 lb 120 x2)))).length) := jh (by rw [zaa, zay, mixF_lengthQ, HR.out]; exact Tryz.arr154)
  have HI5 : Hid ((ints .u64 (qs (mixFQ h (put8 lb 120 x2)))).length = (ints .u64 (List.replicate 8 0)).length) := jh (by rw [zaa, zay, mixF_lengthQ, HR.out, zaa, q133])
  have HM := jh (mixed_anyQ h (put8 lb 120 x2) w6 HR.out (by rw [put8_length, HLB.out]) (HG.out.ext HE.out))
  go_wp2_with (first | (refine slb A H1.out q130 HI1.out ?_) | (refine slb (A + 1) H2.out q163 HI3.out ?_))
  refine HM.out.mono ?_
  rintro e w7 ⟨rfl, hb⟩
  have H3 := xb H3 hb
  have HE := xt HE hb
  clear hb
  go_wp2_with (refine ssb (A + 1 + 1) (ints .u64 (qs (mixFQ h (put8 lb 120 x2)))) H3.out HI5.out HI4.out (zaj _ _) ?_; intro w8 hb8 hg8)
  refine bodyPost_ret (zbc rfl _ (A + 1 + 1) _ _ _ _ rfl hb8 q130 HI4.out) rfl ?_
  exact ⟨by rw [HC1.out h112], zab HE.out hg8 (by omega)⟩
 ·have h113 : 112 ≤ (f : Int) := by omega
  have HMA := jh (mixed_anyQ h lb w4 HR.out HLB.out (HG.out.ext HE.out))
  go_wp2_with (first | (refine slb A H1.out q130 HI1.out ?_) | (refine slb (A + 1) H2.out q163 HI2.out ?_))
  refine HMA.out.mono ?_
  rintro e w9 ⟨rfl, hb⟩
  have H1 := xb H1 hb
  have H2 := xb H2 hb
  have H3 := xb H3 hb
  have HE := xt HE hb
  clear hb HMA HI1
  have HRM : Hid ((mixFQ h lb).length = 8) := jh (by rw [mixF_lengthQ, HR.out])
  have HC3 : Hid (R = _) := jh (HC2.out (by omega))
  generalize mixFQ h lb = h1 at *
  have HI1 : Hid ((Tryz.prog.info? 154).map (·.size) = some (ints .u64 (qs h1)).length) := jh (by rw [zaa, zay, HRM.out]; exact Tryz.arr154)
  have HI6 : Hid ((ints .u64 (qs h1)).length = (ints .u64 (qs h)).length) := jh (by rw [zaa, zay, HRM.out, zaa, zay, HR.out])
  have HI7 : Hid ((Tryz.prog.info? 160).map (·.size) = some ((List.replicate 128 (0 : UInt8)).map bval).length) := jh Tryz.arr160
  have HI8 : Hid (((List.replicate 128 (0 : UInt8)).map bval).length = (lb.map bval).length) := jh (by rw [q101, q101, HLB.out, q133])
  have hbz := build_blockQ
  go_upto_region 6 with (first | (refine ssb A (ints .u64 (qs h1)) H1.out HI6.out HI1.out (zaj _ _) ?_; intro w10 hb10 hg10; have K1 := jh hb10; have K2 := jh (H2.out.grown hg10 (by simp)); have K3 := jh (H3.out.grown hg10 (by simp <;> omega)); have KE := jh (zab HE.out hg10 (by omega)); clear hb10 hg10) | (refine ssb (A + 1) ((List.replicate 128 (0 : UInt8)).map bval) K2.out HI8.out HI7.out (zaf _) ?_; intro w11 hb11 hg11))
  have H1 := jh (K1.out.grown hg11 (by simp))
  have H3 := jh (K3.out.grown hg11 (by simp))
  have HE := jh (zab KE.out hg11 (by omega))
  have H2 := jh hb11
  have HLZ : Hid ((List.replicate 128 (0 : UInt8)).length = 128) := jh (q133)
  generalize List.replicate 128 (0 : UInt8) = lz at *
  clear hb11 hg11 K1 K2 K3 KE HI6 HI7 HI8 HI2
  have HP2 := put_anyQ (A + 1) 120 8 8 lz x2 _ w11 H2.out (by rw [HLZ.out]; omega) (by omega)
  rw [HQ2.out] at HP2
  have HP2 := jh HP2
  go_wp2_with fail
  refine HP2.out.mono ?_
  rintro e w6 ⟨rfl, hb, hg⟩
  have H1 := jh (H1.out.grown hg (by simp))
  have H3 := jh (H3.out.grown hg (by simp))
  have HE := jh (zab HE.out hg (by omega))
  have H2 := jh hb
  clear hb hg HP2
  have HI3 : Hid ((Tryz.prog.info? 160).map (·.size) = some ((put8 lz 120 x2).map bval).length) := jh (by rw [q101, put8_length, HLZ.out]; exact Tryz.arr160)
  have HI4 : Hid ((Tryz.prog.info? 154).map (·.size) = some (ints .u64 (qs (mixFQ h1 (put8 lz 120 x2)))).length) := jh (by rw [zaa, zay, mixF_lengthQ, HRM.out]; exact Tryz.arr154)
  have HI5 : Hid ((ints .u64 (qs (mixFQ h1 (put8 lz 120 x2)))).length = (ints .u64 (List.replicate 8 0)).length) := jh (by rw [zaa, zay, mixF_lengthQ, HRM.out, zaa, q133])
  have HM := jh (mixed_anyQ h1 (put8 lz 120 x2) w6 HRM.out (by rw [put8_length, HLZ.out]) (HG.out.ext HE.out))
  go_wp2_with (first | (refine slb A H1.out q130 HI1.out ?_) | (refine slb (A + 1) H2.out q163 HI3.out ?_))
  refine HM.out.mono ?_
  rintro e w7 ⟨rfl, hb⟩
  have H3 := xb H3 hb
  have HE := xt HE hb
  clear hb
  go_wp2_with (refine ssb (A + 1 + 1) (ints .u64 (qs (mixFQ h1 (put8 lz 120 x2)))) H3.out HI5.out HI4.out (zaj _ _) ?_; intro w8 hb8 hg8)
  refine bodyPost_ret (zbc rfl _ (A + 1 + 1) _ _ _ _ rfl hb8 q130 HI4.out) rfl ?_
  exact ⟨by rw [HC3.out], zab HE.out hg8 (by omega)⟩
section
section
variable {P : Program} {w : World}
theorem row_cut {t e : TypeId} (ht : P.underlying t = some (.slice e)) (hs : ∀ w, (sizeOf e).run P w = .ok 1 w) {v : Value} {vs : List Value} (h : Row1 w v vs) (n : Nat) (hn : n ≤ vs.length) :
  ∃ v', Row1 w v' (vs.drop n) ∧ ∀ w', (Instr.sliceAt t v (some (.int .i64 (n : Int))) none none).run P w' = .ok v' w' := by
 obtain ⟨a, cap, rfl, h1, h2, h3, h4⟩ := h
 have e2 : P.elem t = e := by unfold Program.elem; rw [ht]
 have ht2 : P.underlying t = some (.slice (P.elem t)) := by rw [e2]; exact ht
 have hr : ∀ w', (Instr.sliceAt t (.slice a vs.length cap) (some (.int .i64 (n : Int))) none none).run P w' = .ok (sliced a n vs.length cap 1) w' := fun w' => by
  rw [run_sliceAt_slice w' t _ _ _ _ ht2, run_slice_l (ht := ht2) (kl := .i64) (l := (n : Int)) (h0 := by omega) (h1 := by omega), e2, hs]
  simp
 refine ⟨_, ?_, hr⟩
 have hl : (vs.drop n).length = vs.length - n := by simp
 unfold sliced
 by_cases hc : cap = n
 ·rw [if_pos hc]
  have hv : vs.drop n = [] := q162 (by omega)
  rw [hv]
  refine ⟨a, cap - n, by rw [show vs.length - n = 0 from by omega]; rfl, q149 _, by omega, fun e => by have := h3 e; omega, fun h => absurd rfl h⟩
 ·rw [if_neg hc]
  refine ⟨a.map (·.add (n * 1)), cap - n, by rw [hl], by rw [hl]; omega, by omega, fun e => ?_, fun hne => ?_⟩
  ·cases a with
   | none => have := h3 rfl; omega
   | some a => cases e
  ·have hne2 : vs ≠ [] := by rintro rfl; simp at hne
   obtain ⟨b, off, rfl, g1, g2⟩ := h4 hne2
   refine ⟨b, off + n, by rw [Option.map_some, WideShapes.add_plain, Nat.mul_one], g1, fun i hi => ?_⟩
   rw [hl] at hi
   rw [Nat.add_assoc, g2 (n + i) (by omega), List.getElem?_drop]
theorem rowB1 {v x : Value} {l : List UInt8} (h : Row1 w v [x]) (hx : Row1 w x (l.map bval)) : RowB w v [l] :=
 ⟨_, h, rfl, fun i y k hy hk => by
  match i with
  | 0 => simp at hy hk; subst hy; subst hk; exact hx
  | i + 1 => simp at hy⟩
theorem rowB2 {v x y : Value} {l m : List UInt8} (h : Row1 w v [x, y]) (hx : Row1 w x (l.map bval)) (hy : Row1 w y (m.map bval)) : RowB w v [l, m] :=
 ⟨_, h, rfl, fun i u k hu hk => by
  match i with
  | 0 => simp at hu hk; subst hu; subst hk; exact hx
  | 1 => simp at hu hk; subst hu; subst hk; exact hy
  | i + 2 => simp at hu⟩
theorem rowB3 {v x y z : Value} {l m n : List UInt8} (h : Row1 w v [x, y, z]) (hx : Row1 w x (l.map bval)) (hy : Row1 w y (m.map bval)) (hz : Row1 w z (n.map bval)) : RowB w v [l, m, n] :=
 ⟨_, h, rfl, fun i u k hu hk => by
  match i with
  | 0 => simp at hu hk; subst hu; subst hk; exact hx
  | 1 => simp at hu hk; subst hu; subst hk; exact hy
  | 2 => simp at hu hk; subst hu; subst hk; exact hz
  | i + 3 => simp at hu⟩
theorem zdi {c n : Nat} {cs : List Value} {t : TypeId} (h : Blk w c cs t) (hn : cs.length = n) (hm : n ≤ maxLen) : Row1 w (.slice (some ⟨c, 0, none⟩) n n) cs := by
 subst hn
 exact ⟨_, _, rfl, q102 _, hm, (fun e => by cases e), fun _ => ⟨c, 0, rfl, h.lt, fun i _ => by rw [q125, h.cell]⟩⟩
theorem zej {t : TypeId} {n : Nat} {e : TypeId} (ht : P.underlying t = some (.array n e)) (h : ∀ w, (sizeOf e).run P w = .ok 1 w) (hn : 0 < n) (A : Nat) (w : World) :
  (Instr.sliceAt t (.pointer (some ⟨A, 0, none⟩)) none none none).run P w = .ok (.slice (some ⟨A, 0, none⟩) n n) w := by
 have e1 : P.arrayLen t = n := by unfold Program.arrayLen; rw [ht]
 have e2 : P.elem t = e := by unfold Program.elem; rw [ht]
 rw [run_sliceAt_array_all w t ⟨A, 0, none⟩ (by rw [e1, e2]; exact ht), e2, h, e1]
 simp [slicedAt, Addr.add, show ¬ n = 0 by omega]
end
end
theorem splice_map (l c : List UInt8) (f : Nat) : splice (l.map bval) f (c.map bval) = (l.take f ++ c ++ l.drop (f + c.length)).map bval := by
 unfold splice
 simp
theorem num_one : (Tryz.prog.info? 5).map (·.size) = some 1 := by kernel_rfl
def lenV : Value → Nat
 | .slice _ n _ => n
 | _ => 0
theorem front_take (xr : List UInt8) (n : Nat) : ∃ c : List UInt8, c.length = Nat.min xr.length n ∧ xr = c ++ xr.drop c.length ∧ c = xr.take n := by
 refine ⟨xr.take n, by rw [q112, Nat.min_comm], ?_, rfl⟩
 rcases Nat.le_total n xr.length with h | h
 ·rw [q112, q158 h, q117]
 ·rw [q110 h, List.drop_length, q136]
def But (M Bo : Nat) (w w' : World) : Prop := ∀ k, k < Bo → k ≠ M → w'.heap[k]? = w.heap[k]?
theorem But.trans {M Bo : Nat} {a b c : World} (h : But M Bo a b) (g : But M Bo b c) : But M Bo a c := fun k hk hM => (g k hk hM).trans (h k hk hM)
theorem But.set {M Bo : Nat} {a b : World} (h : But M Bo a b) {p : Addr} (hp : p.block = M) (v : Value) : But M Bo a (b.setCell p v) := fun k hk hM => (heap_setCell_other b p k v (by rw [hp]; exact hM)).trans (h k hk hM)
theorem But.drew {M Bo : Nat} {a b : World} (h : But M Bo a b) : But M Bo a b.drew := h
theorem But.of_below {M Bo : Nat} {a b : World} (h : Below Bo a b) : But M Bo a b := fun k hk _ => h.block k hk
theorem move_cap (w0 w : World) (M Bo f K C : Nat) (ov bv : Value) (o l : List UInt8) (T : TypeId) (hM : Blk w M [ov, bv] 157) (ho : Row1 w0 ov (o.map bval)) (hl : Blk w Bo (l.map bval) T) (hlen : l.length = C) (hf : f < K) (hKC : K ≤ C) (hK : C ≤ 128)
  (he : Ext w0 w) (h0 : w0.heap.size ≤ M) (hMB : M < Bo) :
  Calls Tryz.prog 137 #[.pointer (some ⟨M, 0, none⟩), .slice (some ⟨Bo, f, none⟩) (K - f) (C - f)] w fun e w' =>
   ∃ ov' c, c = o.take (K - f) ∧ e = .returned (.int .i64 (c.length : Int)) ∧ Blk w' M [ov', bv] 157 ∧ Row1 w0 ov' ((o.drop c.length).map bval) ∧ Blk w' Bo ((l.take f ++ c ++ l.drop (f + c.length)).map bval) T ∧ Below M w w' ∧ But M Bo w w' := by
 obtain ⟨c, hcl, hcx, hct⟩ := front_take o (K - f)
 have hcm : c.length ≤ o.length := by rw [hcl]; exact Nat.min_le_left _ _
 have hcm2 : c.length ≤ K - f := by rw [hcl]; exact Nat.min_le_right _ _
 obtain ⟨v', hv', hrun⟩ := row_cut q107 q115 ho c.length (by rw [q101]; exact hcm)
 rw [← List.map_drop] at hv'
 obtain ⟨a3, cap3, rfl, t1, t2, t3, t4⟩ := ho
 rw [q101] at t1 hrun hM
 unfold maxLen at t2
 have HCS : Hid (0 < (c.map bval).length → some (⟨Bo, f, none⟩ : Addr) = some ⟨Bo, f, none⟩ ∧ ∃ ad, a3 = some ad ∧ ∀ (j : Nat) (v : Value), (c.map bval)[j]? = some v → w.cell? (ad.add j) = some v) := jh (fun h => by
  rw [q101] at h
  obtain ⟨b3, off3, rfl, t5, t6⟩ := t4 (by intro e; have h := congrArg List.length e; rw [q101] at h; simp only [q160] at h; omega)
  refine ⟨rfl, _, rfl, fun j v hj => ?_⟩
  have hjl : j < c.length := by
   rcases q116 j c.length with h | h
   ·exact h
   ·rw [List.getElem?_eq_none (by rw [q101]; exact h)] at hj; cases hj
  have e := t6 j (by rw [q101]; omega)
  have e2 : (o.map bval)[j]? = (c.map bval)[j]? := by rw [hcx, q134, List.getElem?_append_left (by rw [q101]; exact hjl)]
  rw [WideShapes.add_plain, ← hj, ← e2, ← e]
  exact he.cell (p := ⟨b3, off3 + j, none⟩) t5)
 have HBO := jh (hl : w.heap[Bo]? = some (.cells (l.map bval).toArray T (0, 0)))
 have HCL : Hid ((c.map bval).length = Nat.min o.length (K - f)) := jh (by rw [q101, hcl])
 have HFT2 : Hid (f + (c.map bval).length ≤ (l.map bval).length) := jh (by rw [q101, q101, hlen]; omega)
 have HBR := jh (Below.refl M w)
 have HSP := jh (splice_map l c f)
 have HM := jh hM
 obtain ⟨a4, cap4, rfl, _⟩ := id hv'
 have HV := jh hv'
 generalize ((o.drop c.length).map bval).length = n4 at *
 have HCT := jh hct
 have c0 := hM.cell 0
 have f0 := hM.free 0
 simp only [List.getElem?_cons_zero, List.getElem?_cons_succ] at c0
 have hcm3 : (c.length : Int) ≤ (o.length : Int) := by omega
 have hc0 : (0 : Int) ≤ (c.length : Int) := Int.natCast_nonneg _
 have hMlt := hM.lt
 clear hM hl hv' hcx hct t3 t4 he hcl
 go_enter Tryz.func137, Tryz.ntmps137
 go_upto_region 2 with (refine wpList_copy_splice rfl (.tmp 6) (.tmp 10) 46 46 rfl 5 q107 num_one (some ⟨Bo, f, none⟩) a3 (K - f) (C - f) o.length cap3 rfl rfl Bo f (l.map bval) T HBO.out (c.map bval) HCL.out HCS.out HFT2.out (zaf _) Bo w (Below.refl _ w) (q102 _) ?_; intro w5 hc5 hb5)
 have hg5 := hc5.out
 rw [HSP.out] at hg5
 have HM5 := jh (HM.out.same (hb5.block M (by omega)))
 have HO5 : Hid (Blk w5 Bo ((l.take f ++ c ++ l.drop (f + c.length)).map bval) T) := jh hg5
 have HE5 := jh (hb5.mono (Nat.le_of_lt hMB))
 have HU5 : Hid (But M Bo w w5) := jh (But.of_below hb5)
 have c0 := HM5.out.cell 0
 have f0 := HM5.out.free 0
 simp only [List.getElem?_cons_zero, List.getElem?_cons_succ] at c0
 clear hc5 hb5 hg5 HCS HBO HCL HFT2 HBR HSP HM
 go_wp2_with fail
 go_ret
 exact ⟨_, c, HCT.out, rfl, HM5.out.set 0 _, HV.out, HO5.out.far (by simp; omega) _, Below.setCell HE5.out (by simp) _, HU5.out.set rfl _⟩
def MsgSt (w0 w : World) (M : Nat) (r : List UInt8) : Prop :=
 ∃ (ov bv : Value) (o : List UInt8) (ls : List (List UInt8)), Blk w M [ov, bv] 157 ∧ Row1 w0 ov (o.map bval) ∧ RowB w0 bv ls ∧ r = o ++ ls.flatten
theorem MsgSt.same {w0 w w' : World} {M : Nat} {r : List UInt8} (h : MsgSt w0 w M r) (hb : w'.heap[M]? = w.heap[M]?) : MsgSt w0 w' M r := by
 obtain ⟨ov, bv, o, ls, h1, h2⟩ := h
 exact ⟨ov, bv, o, ls, h1.same hb, h2⟩
theorem MsgSt.lt {w0 w : World} {M : Nat} {r : List UInt8} (h : MsgSt w0 w M r) : M < w.heap.size := by
 obtain ⟨ov, bv, o, ls, h1, h2⟩ := h
 exact h1.lt
theorem rowB_tail {w : World} {v : Value} {l : List UInt8} {ls : List (List UInt8)} (h : RowB w v (l :: ls)) :
  ∃ (b off cap : Nat) (x v' : Value), v = .slice (some ⟨b, off, none⟩) (ls.length + 1) cap ∧ cap ≤ maxLen ∧ b < w.heap.size ∧ w.cell? ⟨b, off, none⟩ = some x ∧ Row1 w x (l.map bval) ∧ RowB w v' ls ∧
   ∀ w', (Instr.sliceAt 88 v (some (.int .i64 1)) none none).run Tryz.prog w' = .ok v' w' := by
 obtain ⟨vals, hr, hlen, hx⟩ := h
 match vals, hlen with
 | x :: vals, hlen =>
  obtain ⟨v', hv', hrun⟩ := row_cut q141 Tryz.sizeOf46 hr 1 (by simp)
  obtain ⟨a, cap, rfl, h1, h2, h3, h4⟩ := hr
  obtain ⟨b, off, rfl, h5, h6⟩ := h4 (by simp)
  have hl : vals.length = ls.length := by simpa using hlen
  refine ⟨b, off, cap, x, v', by rw [q126, hl], h2, h5, by simpa using h6 0 (by simp), hx 0 x l rfl rfl, ⟨vals, hv', hl, fun i y k hy hk => hx (i + 1) y k (by simpa using hy) (by simpa using hk)⟩, hrun⟩
theorem rowB_form {w : World} {v : Value} {ls : List (List UInt8)} (h : RowB w v ls) : ∃ a cap, v = .slice a ls.length cap ∧ cap ≤ maxLen ∧ ls.length ≤ cap := by
 obtain ⟨vals, hr, hlen, hx⟩ := h
 obtain ⟨a, cap, rfl, h1, h2, _⟩ := hr
 exact ⟨a, cap, by rw [hlen], h2, by omega⟩
theorem row_slice {w : World} {v : Value} {l : List Value} (h : Row1 w v l) : ∃ a n cap, v = .slice a n cap := by
 obtain ⟨a, cap, rfl, _⟩ := h
 exact ⟨_, _, _, rfl⟩
def behindAt (w : World) (M : Nat) : Nat := ((w.cell? ⟨M, 1, none⟩).map lenV).getD 0
theorem cut_row (w : World) (Bo p K C : Nat) (hp : p < K) (hKC : K ≤ C) : (Instr.sliceAt 46 (.slice (some ⟨Bo, 0, none⟩) K C) (some (.int .i64 (p : Int))) none none).run Tryz.prog w = .ok (.slice (some ⟨Bo, p, none⟩) (K - p) (C - p)) w := by
 have e2 : Tryz.prog.elem 46 = 5 := by unfold Program.elem; rw [q107]
 have ht2 : Tryz.prog.underlying 46 = some (.slice (Tryz.prog.elem 46)) := by rw [e2]; exact q107
 rw [run_sliceAt_slice w 46 _ _ _ _ ht2, run_slice_l (ht := ht2) (kl := .i64) (l := (p : Int)) (h0 := by omega) (h1 := by omega), e2, q115]
 simp [sliced, WideShapes.add_plain, show ¬ C = p by omega]
def FillSaid (w0 w w' : World) (M Bo K : Nat) (r l : List UInt8) (T : TypeId) (e : Ending) : Prop :=
 ∃ c, c = r.take K ∧ e = .returned (.int .i64 (c.length : Int)) ∧ MsgSt w0 w' M (r.drop K) ∧ Blk w' Bo ((c ++ l.drop c.length).map bval) T ∧ Below M w w'
theorem fill_next {r c l1 : List UInt8} {ls : List (List UInt8)} {c2 : List UInt8} {K : Nat} (h : r = c ++ ([] ++ (l1 :: ls).flatten)) (hc : c.length ≤ K) (h2 : c2 = l1.take (K - c.length)) :
  r = (c ++ c2) ++ (l1.drop c2.length ++ ls.flatten) ∧ (c ++ c2).length ≤ K ∧ ((c ++ c2).length < K → l1.drop c2.length = []) := by
 refine ⟨?_, ?_, ?_⟩
 ·rw [h, q118, List.flatten_cons, q137]
  congr 1
  rw [← q137]
  congr 1
  rw [h2]
  rcases Nat.le_total (K - c.length) l1.length with h | h
  ·rw [q112, q158 h, q117]
  ·rw [q110 h, List.drop_length, q136]
 ·rw [q108, h2, q112]; omega
 ·intro h3
  rw [q108, h2, q112] at h3
  refine q162 ?_
  rw [h2, q112]
  omega
theorem fill_row (c c2 l : List UInt8) : ((c ++ l.drop c.length).take c.length ++ c2 ++ (c ++ l.drop c.length).drop (c.length + c2.length)) = (c ++ c2) ++ l.drop (c ++ c2).length := by
 rw [q161 (q102 _), q173, q108]
 congr 1
 rw [List.drop_append, q162 (by omega), q118, q166]
 congr 1
 omega
theorem fill_cap (w0 w : World) (M Bo K C : Nat) (r l : List UInt8) (T : TypeId) (hS : MsgSt w0 w M r) (hl : Blk w Bo (l.map bval) T) (hlen : l.length = C) (hK0 : 0 < K) (hKC : K ≤ C) (hK : C ≤ 128)
  (he : Ext w0 w) (h0 : w0.heap.size ≤ M) (hMB : M < Bo) :
  Calls Tryz.prog 120 #[.pointer (some ⟨M, 0, none⟩), .slice (some ⟨Bo, 0, none⟩) K C] w fun e w' => FillSaid w0 w w' M Bo K r l T e ∧ But M Bo w w' := by
 obtain ⟨ov, bv, o, ls, hM, ho, hb, hr⟩ := hS
 have hmv := move_cap w0 w M Bo 0 K C ov bv o l T hM ho hl hlen hK0 hKC hK he h0 hMB
 rw [Nat.sub_zero, Nat.sub_zero] at hmv
 have HMV := jh hmv
 have HB := jh hb
 have HR := jh hr
 have HE0 := jh he
 have HL := jh hlen
 clear hmv hb hr hM ho hl he hlen
 go_enter Tryz.func120, Tryz.ntmps120
 go_wp2_with fail
 refine HMV.out.mono ?_
 rintro e w1 ⟨ov1, c, hc, rfl, hM, ho, hB, hbel, hbut⟩
 have HU1 := jh hbut
 have HM1 := jh hM
 have HO1 := jh ho
 have HB1 : Hid (Blk w1 Bo ((c ++ l.drop c.length).map bval) T) := jh (by simpa using hB)
 have HE1 := jh hbel
 have HC := jh hc
 clear hM ho hB hbel hc HMV hbut
 have HREL : Hid (r = c ++ (o.drop c.length ++ ls.flatten) ∧ c.length ≤ K ∧ (c.length < K → o.drop c.length = [])) := jh (by
  refine ⟨?_, ?_, ?_⟩
  ·rw [HR.out, HC.out]
   rcases Nat.le_total K o.length with h | h
   ·rw [q112, q158 h, ← q137, q117]
   ·rw [q110 h, List.drop_length, q118]
  ·rw [HC.out, q112]; exact Nat.min_le_left _ _
  ·intro h
   rw [HC.out, q112] at h
   refine q162 ?_
   rw [HC.out, q112]
   show o.length ≤ min K o.length
   omega)
 go_wp2_with fail
 go_loopw [5] (fun i5 wr => ∃ (c o : List UInt8) (ls : List (List UInt8)) (ov bv : Value), i5 = .int .i64 (c.length : Int) ∧ (r = c ++ (o ++ ls.flatten) ∧ c.length ≤ K ∧ (c.length < K → o = [])) ∧ Blk wr M [ov, bv] 157 ∧ Row1 w0 ov (o.map bval) ∧ RowB w0 bv ls ∧ Blk wr Bo ((c ++ l.drop c.length).map bval) T ∧ Below M w wr ∧ But M Bo w wr) (fun _ wr => behindAt wr M)
 case atStart => exact ⟨c, o.drop c.length, ls, ov1, bv, rfl, HREL.out, HM1.out, HO1.out, HB.out, HB1.out, HE1.out, HU1.out⟩
 case round =>
  clear HREL HM1 HO1 HB HB1 HE1 HC HR HU1
  obtain ⟨c, o, ls, ov, bv, rfl, ⟨hr, hcK, hco⟩, hM, ho, hb, hB, hbel, hbut⟩ := hrel
  have HBU := jh hbut
  clear hbut
  have c0 := hM.cell 0
  have c1 := hM.cell 1
  have f0 := hM.free 0
  have f1 := hM.free 1
  simp only [List.getElem?_cons_zero, List.getElem?_cons_succ] at c0 c1
  by_cases hlt : c.length < K
  ·have ho2 := hco hlt
   subst ho2
   have k1 : (c.length : Int) < (K : Int) := by omega
   cases ls with
   | nil =>
    obtain ⟨ab, capb, rfl, g1, g2⟩ := rowB_form hb
    have HF : Hid (MsgSt w0 wr M (r.drop K)) := jh ⟨ov, _, [], [], hM, ho, hb, by rw [hr]; simpa using Nat.le_of_lt hlt⟩
    have HBX := jh hB
    have HBL := jh hbel
    have HT : Hid (c = r.take K) := jh (by rw [hr]; simp only [List.flatten_nil, q136]; exact (q110 hcK).symm)
    clear hM ho hb hB hbel hr hco
    simp only [q160] at c1
    go_wp2_with fail
    go_ret
    unfold FillSaid
    exact ⟨⟨c, HT.out, rfl, HF.out, HBX.out, HBL.out⟩, HBU.out⟩
   | cons l1 ls =>
    obtain ⟨b', off', capb, xv, bv', rfl, g1, g2, g3, g4, g5, g6⟩ := rowB_tail hb
    obtain ⟨xa, xn, xcap, hxe⟩ := row_slice g4
    subst hxe
    obtain ⟨ba, bcap, hbe, g7, g8⟩ := rowB_form g5
    subst hbe
    have cx : wr.cell? ⟨b', off', none⟩ = some (.slice xa xn xcap) := by
     rw [← g3]
     exact (Below.trans HE0.out (hbel.mono h0)).cell (p := ⟨b', off', none⟩) g2
    have hcut := cut_row wr Bo c.length K C hlt hKC
    have n0 : (0 : Int) ≤ (ls.length : Int) := Int.natCast_nonneg _
    have n1 : (0 : Int) < (ls.length : Int) + 1 := by omega
    have n2 : (0 : Int) < ((ls.length + 1 : Nat) : Int) := by omega
    have n3 : (1 : Int) ≤ ((ls.length + 1 : Nat) : Int) := by omega
    have HFT := jh (show behindAt wr M = ls.length + 1 by unfold behindAt; rw [c1]; rfl)
    have HR := jh hr
    have HM := jh hM
    have HBX := jh hB
    have HBL := jh hbel
    have HX := jh g4
    have HBV := jh g5
    unfold maxLen at g1 g7
    clear hM ho hb hB hbel hr hco g2 g3 g4 g5
    go_upto_region 3 with (fail)
    go_region
    have HM2 : Hid (Blk ((wr.setCell ⟨M, 0, none⟩ (.slice xa xn xcap)).setCell ⟨M, 1, none⟩ (.slice ba ls.length bcap)).drew M [.slice xa xn xcap, .slice ba ls.length bcap] 157) := jh (((HM.out.set 0 _).set 1 _).drewN 1)
    have HBX2 : Hid (Blk ((wr.setCell ⟨M, 0, none⟩ (.slice xa xn xcap)).setCell ⟨M, 1, none⟩ (.slice ba ls.length bcap)).drew Bo ((c ++ l.drop c.length).map bval) T) := jh (((HBX.out.far (by simp; omega) _).far (by simp; omega) _).drewN 1)
    have HBL2 : Hid (Below M w ((wr.setCell ⟨M, 0, none⟩ (.slice xa xn xcap)).setCell ⟨M, 1, none⟩ (.slice ba ls.length bcap)).drew) := jh ((Below.setCell (Below.setCell HBL.out (by simp) _) (by simp) _).drew)
    have HBU2 : Hid (But M Bo w ((wr.setCell ⟨M, 0, none⟩ (.slice xa xn xcap)).setCell ⟨M, 1, none⟩ (.slice ba ls.length bcap)).drew) := jh ((HBU.out.set rfl _).set rfl _).drew
    generalize ((wr.setCell ⟨M, 0, none⟩ (.slice xa xn xcap)).setCell ⟨M, 1, none⟩ (.slice ba ls.length bcap)).drew = w2 at *
    clear HM HBX HBL c0 c1 f0 f1 cx
    have HMV := jh (move_cap w0 w2 M Bo c.length K C _ _ l1 (c ++ l.drop c.length) T HM2.out HX.out HBX2.out (by simp [HL.out]; omega) hlt hKC hK (Below.trans HE0.out (HBL2.out.mono h0)) h0 hMB)
    have hcut := cut_row w2 Bo c.length K C hlt hKC
    go_wp2_with fail
    refine HMV.out.mono ?_
    rintro e w3 ⟨ov', c2, hc2, rfl, hM, ho, hB, hbel, hbut⟩
    have HBU3 := jh (HBU2.out.trans hbut)
    rw [fill_row] at hB
    have HN := jh (fill_next HR.out hcK hc2)
    have HM3 := jh hM
    have HO3 := jh ho
    have HB3 := jh hB
    have HBL3 := jh (Below.trans HBL2.out hbel)
    have hc2l : (c2.length : Int) ≤ 128 := by have := HN.out.2.1; rw [q108] at this; omega
    have hc20 : (0 : Int) ≤ (c2.length : Int) := Int.natCast_nonneg _
    have c1 := HM3.out.cell 1
    simp only [List.getElem?_cons_zero, List.getElem?_cons_succ] at c1
    have HMS := jh (show behindAt w3 M = ls.length by unfold behindAt; rw [c1]; rfl)
    clear hM ho hB hbel hbut hc2 HMV HM2 HBX2 HBL2 c1
    go_wp2_with fail
    go_roundw
    case rel => exact ⟨c ++ c2, _, ls, _, _, by rw [q108]; go_num, HN.out, HM3.out, HO3.out, HBV.out, HB3.out, HBL3.out, HBU3.out⟩
    case measure => rw [HMS.out, HFT.out]; omega
  ·have hcK2 : c.length = K := by omega
   have hlt2 : ¬ (c.length : Int) < (K : Int) := by omega
   have hd2 : decide ((c.length : Int) < (K : Int)) = false := decide_eq_false hlt2
   have HF : Hid (MsgSt w0 wr M (r.drop K)) := jh ⟨ov, bv, o, ls, hM, ho, hb, by rw [hr, List.drop_append_of_le_length (by omega), List.drop_of_length_le (by omega), q118]⟩
   have HBX := jh hB
   have HBL := jh hbel
   have HT : Hid (c = r.take K) := jh (by rw [hr, q161 (by omega), q110 (by omega)])
   clear hM ho hb hB hbel hr hco hcK2
   go_wp2_with fail
   go_ret
   unfold FillSaid
   exact ⟨⟨c, HT.out, rfl, HF.out, HBX.out, HBL.out⟩, HBU.out⟩
theorem fill_any (w0 w : World) (M Bo K : Nat) (r l : List UInt8) (T : TypeId) (hS : MsgSt w0 w M r) (hl : Blk w Bo (l.map bval) T) (hlen : l.length = K) (hK0 : 0 < K) (hK : K ≤ 128)
  (he : Ext w0 w) (h0 : w0.heap.size ≤ M) (hMB : M < Bo) :
  Calls Tryz.prog 120 #[.pointer (some ⟨M, 0, none⟩), .slice (some ⟨Bo, 0, none⟩) K K] w fun e w' => FillSaid w0 w w' M Bo K r l T e :=
 (fill_cap w0 w M Bo K K r l T hS hl hlen hK0 (q102 _) hK he h0 hMB).mono fun _ _ h => h.1
theorem msg_size : (Tryz.prog.info? 157).map (·.size) = some (#[Value.slice none 0 0, Value.slice none 0 0]).size := by kernel_rfl
theorem of_any (a : Option Addr) (n cap : Nat) (w : World) :
  Calls Tryz.prog 119 #[.slice a n cap] w fun e w' => e = .returned (.agg #[.slice none 0 0, .slice a n cap]) ∧ Below w.heap.size w w' := by
 go_enter Tryz.func119, Tryz.ntmps119
 go_wp2_with fail
 refine bodyPost_ret (results_cell_row rfl _ _ w.heap.size _ _ _ _ rfl (Blk.made w [.slice none 0 0, .slice a n cap] 157) Tryz.underlying157 rfl msg_size) rfl ?_
 exact ⟨rfl, Ext.alloc w (.cells #[.slice none 0 0, .slice a n cap] 157)⟩
theorem hRun_nextQ (m x : List UInt8) (n : Nat) (hx : x = (m.drop (128 * n)).take 128) : mixFQ (gRun m n) x = gRun m (n + 1) := by rw [gRun_mix, hx]
theorem last_topQ {c l d : List UInt8} {n : Nat} (h : c = d.take 128) (hn : c.length = n) (hd : n < 128) : (c ++ l.drop c.length).take n = d := by
 have hl : d.length = n := by
  rw [h, q112] at hn
  omega
 rw [← hn, q161 (q102 _), q173, h, q110 (by omega)]
theorem filled_lengthQ {c l d : List UInt8} (h : c = d.take 128) (hl : l.length = 128) : (c ++ l.drop c.length).length = 128 := by
 have : c.length ≤ 128 := by rw [h, q112]; omega
 simp
 omega
structure ShaStQ (w0 w : World) (Bh Bm Bo : Nat) (m : List UInt8) (n : Nat) (c l : List UInt8) : Prop where
 all : l.length = 128
 few : 128 * n + c.length ≤ m.length
 piece : c = (m.drop (128 * n)).take 128
 blkH : Blk w Bh (ints .u64 (qs (gRun m n))) 154
 msg : MsgSt w0 w Bm ((m.drop (128 * n)).drop 128)
 blkO : Blk w Bo ((c ++ l.drop c.length).map bval) 160
theorem Sum_numQ (v : Value) (ls : List (List UInt8)) (w : World) (hv : RowB w v ls) (hb : ls.flatten.length ≤ 1099511627776) (hG : GlobRQ w) :
  Calls Tryz.prog 89 #[v] w fun e w' => e = .returned (.agg ((sha512 ls.flatten).map bval).toArray) ∧ Below w.heap.size w w' := by
 obtain ⟨a, cap, rfl, r1, r2⟩ := rowB_form hv
 obtain ⟨m, hm⟩ : ∃ m, m = ls.flatten := ⟨_, rfl⟩
 rw [← hm] at hb ⊢
 have HMD := jh hm
 clear hm
 have HRB := jh hv
 have HG := jh hG
 have HB := jh hb
 have HZ := jh (Blk.made w (ints .u8 (List.replicate 64 0)) 26)
 have HE := jh (Ext.alloc w (.cells (ints .u8 (List.replicate 64 0)).toArray 26))
 unfold maxLen at r1
 clear hv hG hb
 go_enter Tryz.func89, Tryz.ntmps89
 go_wp2_with fail
 change Calls _ _ _ (w.alloc (.cells (ints .u8 (List.replicate 64 0)).toArray 26)) _
 generalize w.alloc (.cells (ints .u8 (List.replicate 64 0)).toArray 26) = w1 at *
 obtain ⟨A, hA⟩ : ∃ A, A = w.heap.size := ⟨_, rfl⟩
 have HZ := HZ.out
 rw [← hA] at HZ ⊢
 have hA2 : w.heap.size ≤ A := by omega
 have HZ := jh HZ
 clear hA
 refine (start_anyQ w1).mono ?_
 rintro e w2 ⟨rfl, hb⟩
 have HZ := xb HZ hb
 have HE := xt HE hb
 clear hb
 have HZL := jh HZ.out.lt
 have HH := jh (Blk.made w2 (ints .u64 (List.replicate 8 0)) 154)
 have HZ := jh (HZ.out.alloc (.cells (ints .u64 (List.replicate 8 0)).toArray 154))
 have HS := jh HE.out.size
 have HE := jh (HE.out.trans (Ext.alloc w2 (.cells (ints .u64 (List.replicate 8 0)).toArray 154)))
 go_upto_region 2 with (refine ssb w2.heap.size (ints .u64 (qs H512)) HH.out rfl Tryz.arr154 (zaj _ _) ?_; intro w3 hb3 hg3)
 have HZ := jh (HZ.out.grown hg3 (by have := HZL.out; simp; omega))
 have HE := jh (zab HE.out hg3 HS.out)
 have HH := jh hb3
 have HAB : Hid (A < w2.heap.size) := HZL
 generalize w2.heap.size = Bh at *
 clear hb3 hg3 HZL HS
 go_wp2_with fail
 refine (of_any a ls.length cap w3).mono ?_
 rintro e w4 ⟨rfl, hb⟩
 have HZ := xb HZ hb
 have HHL := jh (q114 HH.out.lt hb.size)
 have HH := xb HH hb
 have HE := xt HE hb
 clear hb
 go_upto_region 3 with (fail)
 have HM := jh (Blk.made w4 [.slice none 0 0, .slice a ls.length cap] 157)
 have HH := jh (HH.out.alloc (.cells #[.slice none 0 0, .slice a ls.length cap] 157))
 have HZ := jh (HZ.out.alloc (.cells #[.slice none 0 0, .slice a ls.length cap] 157))
 have HS4 := jh HE.out.size
 have HE := jh (HE.out.trans (Ext.alloc w4 (.cells #[.slice none 0 0, .slice a ls.length cap] 157)))
 have HML : Hid (w4.heap.size < (w4.alloc (.cells #[.slice none 0 0, .slice a ls.length cap] 157)).heap.size) := jh (by simp)
 have HM : Hid (MsgSt w (w4.alloc (.cells #[.slice none 0 0, .slice a ls.length cap] 157)) w4.heap.size m) := jh ⟨_, _, [], ls, HM.out, Row1.nil w, HRB.out, by rw [HMD.out]; simp⟩
 generalize w4.alloc (.cells #[.slice none 0 0, .slice a ls.length cap] 157) = w5 at *
 have HBM : Hid (Bh < w4.heap.size) := HHL
 have hS4 : w.heap.size ≤ w4.heap.size := HS4.out
 generalize w4.heap.size = Bm at *
 clear HHL HS4
 have HO : Hid (Blk (w5.alloc (.cells (ints .u8 (List.replicate 128 0)).toArray 160)) w5.heap.size ((List.replicate 128 (0 : UInt8)).map bval) 160) := jh (Blk.made w5 (ints .u8 (List.replicate 128 0)) 160)
 have HM : Hid (MsgSt w (w5.alloc (.cells (ints .u8 (List.replicate 128 0)).toArray 160)) Bm m) := jh (HM.out.same (heap_alloc_old w5 _ HML.out))
 have HH := jh (HH.out.alloc (.cells (ints .u8 (List.replicate 128 0)).toArray 160))
 have HZ := jh (HZ.out.alloc (.cells (ints .u8 (List.replicate 128 0)).toArray 160))
 have HE := jh (HE.out.trans (Ext.alloc w5 (.cells (ints .u8 (List.replicate 128 0)).toArray 160)))
 go_upto_region 4 with (fail)
 change Code.wp _ _ _ _ (w5.alloc (.cells (ints .u8 (List.replicate 128 0)).toArray 160))
 generalize w5.alloc (.cells (ints .u8 (List.replicate 128 0)).toArray 160) = w6 at *
 generalize w5.heap.size = Bo at *
 have HF := jh (fill_any w w6 Bm Bo 128 m (List.replicate 128 0) 160 HM.out HO.out rfl (by omega) (by omega) HE.out hS4 HML.out)
 clear HM HO
 go_wp2_with fail
 refine HF.out.mono ?_
 intro e w7 hf
 unfold FillSaid at hf
 obtain ⟨c, hc, rfl, hM, hO, hbel⟩ := hf
 have HH := jh (HH.out.same (hbel.block Bh HBM.out))
 have HZ := jh (HZ.out.same (hbel.block A (Nat.lt_trans HAB.out HBM.out)))
 have HE : Hid (Ext w w7) := jh (Below.trans HE.out (hbel.mono hS4))
 have HST : Hid (ShaStQ w w7 Bh Bm Bo m 0 c (List.replicate 128 0)) := jh ⟨rfl, by rw [hc, q112]; omega, by rw [hc]; rfl, HH.out, hM, hO⟩
 clear HH hc hM hO hbel HF HRB
 go_wp2_with fail
 go_loopw [4, 7] (fun i4 i7 wr => ∃ (n : Nat) (c l : List UInt8), i4 = .int .i64 (128 * (n : Int)) ∧ i7 = .int .i64 (c.length : Int) ∧ ShaStQ w wr Bh Bm Bo m n c l ∧ Blk wr A (ints .u8 (List.replicate 64 0)) 26 ∧ Ext w wr) (fun i4 _ _ => m.length - (intOf i4).toNat)
 case atStart => exact ⟨0, c, List.replicate 128 0, rfl, rfl, HST.out, HZ.out, HE.out⟩
 case round =>
  clear HST HZ HE
  obtain ⟨n, c, l, rfl, rfl, hst, hz, hbel⟩ := hrel
  have n0 : (0 : Int) ≤ (n : Int) := Int.natCast_nonneg _
  have c0 : (0 : Int) ≤ (c.length : Int) := Int.natCast_nonneg _
  have hc64 : c.length ≤ 128 := by rw [hst.piece, q112]; omega
  have hcl := hst.few
  have hn40 : 128 * (n : Int) + (c.length : Int) ≤ 1099511627776 := by have := HB.out; omega
  have HJ := jh (filled_lengthQ (c := c) (l := l) hst.piece hst.all)
  have HR8 := jh (zdc m n)
  have HI1 : Hid ((Tryz.prog.info? 154).map (·.size) = some (ints .u64 (qs (gRun m n))).length) := jh (by rw [zaa, zay, zdc]; exact Tryz.arr154)
  have HI2 : Hid ((Tryz.prog.info? 160).map (·.size) = some ((c ++ l.drop c.length).map bval).length) := jh (by rw [q101, HJ.out]; exact Tryz.arr160)
  have HH := jh hst.blkH
  have HO := jh hst.blkO
  have HMS := jh hst.msg
  have HP := jh hst.piece
  have HA := jh hst.all
  have HZ := jh hz
  have HE := jh hbel
  have HFW := jh hcl
  clear hz hbel hst hcl
  by_cases h64 : c.length = 128
  ·have t64 : ((c.length : Int) == 128) = true := by simp; omega
   have HC := jh h64
   have HX : Hid (c ++ l.drop c.length = (m.drop (128 * n)).take 128) := jh (by rw [h64, q162 (by rw [HA.out]; omega), q136]; exact HP.out)
   have hn41 : 128 * (n : Int) + 128 ≤ 1099511627776 := by omega
   have HMX := jh (mixed_anyQ (gRun m n) (c ++ l.drop c.length) wr HR8.out HJ.out (HG.out.ext HE.out))
   rw [hRun_nextQ m _ n HX.out] at HMX
   have HJ2 := HJ
   generalize c ++ l.drop c.length = l2 at *
   have HI3 : Hid ((Tryz.prog.info? 154).map (·.size) = some (ints .u64 (qs (gRun m (n + 1)))).length) := jh (by rw [zaa, zay, zdc]; exact Tryz.arr154)
   have HI4 : Hid ((ints .u64 (qs (gRun m (n + 1)))).length = (ints .u64 (qs (gRun m n))).length) := jh (by rw [zaa, zay, zdc, zaa, zay, zdc])
   clear h64 hc64
   generalize gRun m n = h0 at *
   obtain ⟨h1, hh1⟩ : ∃ h1, h1 = gRun m (n + 1) := ⟨_, rfl⟩
   rw [← hh1] at HMX HI3 HI4
   have HH1 := jh hh1
   clear hh1
   go_wp2_with (first | (refine slb Bh HH.out q130 HI1.out ?_) | (refine slb Bo HO.out q163 HI2.out ?_))
   refine HMX.out.mono ?_
   rintro e w8 ⟨rfl, hb⟩
   have HZ := xb HZ hb
   have HH := xb HH hb
   have HO := xb HO hb
   have HMS := jh (HMS.out.same (hb.block Bm HMS.out.lt))
   have HE := xt HE hb
   clear hb HMX
   go_upto_region 7 with (refine ssb Bh (ints .u64 (qs h1)) HH.out HI4.out HI3.out (zaj _ _) ?_; intro w9 hb9 hg9)
   have HZ := jh (HZ.out.grown hg9 (by have := HAB.out; simp; omega))
   have HO := jh (HO.out.grown hg9 (by have := HBM.out; have := HML.out; simp; omega))
   have HMS := jh (HMS.out.same (hg9.block Bm HMS.out.lt (by have := HBM.out; simp; omega)))
   have HE := jh (zab HE.out hg9 (by have := HAB.out; omega))
   have HH := jh hb9
   clear hb9 hg9
   have HF := jh (fill_any w w9 Bm Bo 128 _ l2 160 HMS.out HO.out HJ2.out (by omega) (by omega) HE.out hS4 HML.out)
   clear HMS HO
   go_wp2_with fail
   refine HF.out.mono ?_
   intro e w10 hf
   unfold FillSaid at hf
   obtain ⟨c2, hc2, rfl, hM, hO, hbel⟩ := hf
   have HH := jh (HH.out.same (hbel.block Bh HBM.out))
   have HZ := jh (HZ.out.same (hbel.block A (Nat.lt_trans HAB.out HBM.out)))
   have HE : Hid (Ext w w10) := jh (Below.trans HE.out (hbel.mono hS4))
   have e64 : (m.drop (128 * n)).drop 128 = m.drop (128 * (n + 1)) := by rw [q166, show 128 * n + 128 = 128 * (n + 1) from by omega]
   rw [e64] at hc2 hM
   have HST : Hid (ShaStQ w w10 Bh Bm Bo m (n + 1) c2 l2) := jh ⟨HJ2.out, by rw [hc2, q112, q139]; have := HFW.out; have := HC.out; omega, hc2, by rw [← HH1.out]; exact HH.out, hM, hO⟩
   have HFN : Hid (128 * (n + 1) ≤ m.length) := jh (by have := HFW.out; have := HC.out; omega)
   clear HH hc2 hM hO hbel HF e64 t64
   go_wp2_with fail
   go_roundw
   case rel => exact ⟨n + 1, c2, l2, by go_num, rfl, HST.out, HZ.out, HE.out⟩
   case measure => have := HFN.out; simp [intOf]; omega
  ·have t64 : ((c.length : Int) == 128) = false := by simp; omega
   have hpl : m.length = 128 * n + c.length := by
    have h := congrArg List.length HP.out
    rw [q112, q139] at h
    have := HFW.out
    omega
   have hpi : 128 * (n : Int) + (c.length : Int) = (m.length : Int) := by omega
   have HTP := jh (last_topQ (l := l) HP.out rfl (by omega))
   have HCA := jh (closed_anyQ m (c ++ l.drop c.length) n c.length wr hpl (by omega) HJ.out HTP.out HB.out (HG.out.ext HE.out))
   clear h64 hpl hc64
   generalize c ++ l.drop c.length = l2 at *
   go_wp2_with (first | (refine slb Bh HH.out q130 HI1.out ?_) | (refine slb Bo HO.out q163 HI2.out ?_))
   refine HCA.out.mono ?_
   rintro e w5 ⟨rfl, hb⟩
   have HZ := xb HZ hb
   have HE := xt HE hb
   clear hb HCA
   have HSH : Hid (outQ (gRun (paddedQ m) ((m.length + 144) / 128)) = sha512 m) := jh rfl
   have HL8 := jh (zdc (paddedQ m) ((m.length + 144) / 128))
   generalize gRun (paddedQ m) ((m.length + 144) / 128) = R at *
   go_wp2_with fail
   refine (sigOf_any R HL8.out w5).mono ?_
   rintro e w6 ⟨rfl, hb⟩
   have HZ := xb HZ hb
   have HE := xt HE hb
   clear hb
   obtain ⟨o, ho⟩ : ∃ o, o = sha512 m := ⟨_, rfl⟩
   rw [HSH.out, ← ho]
   have HOL : Hid (o.length = 64) := jh (by rw [ho, zbx])
   have HOO := jh ho
   clear ho
   have HIo : Hid ((Tryz.prog.info? 26).map (·.size) = some (o.map bval).length) := jh (zcg HOL.out)
   have HLo : Hid ((o.map bval).length = (ints .u8 (List.replicate 64 0)).length) := jh (by rw [q101, HOL.out, zaa, q133])
   go_wp2_with (refine ssb A (o.map bval) HZ.out HLo.out HIo.out (zaf _) ?_; intro w7 hb7 hg7)
   refine bodyPost_ret (zbc rfl _ A _ _ _ _ rfl hb7 q119 HIo.out) rfl ?_
   exact ⟨by rw [HOO.out], zab HE.out hg7 (by omega)⟩
theorem info_two {P : Program} {t : TypeId} {z : Value} {n : Nat} (h : (P.info? t).map (fun i => (i.zero, i.size)) = some (some z, n)) : ∃ i, P.info? t = some i ∧ i.zero = some z ∧ i.size = n := by
 cases hp : P.info? t with
 | none => rw [hp] at h; cases h
 | some i =>
  rw [hp] at h
  simp only [Option.map_some, Option.some.injEq, Prod.mk.injEq] at h
  exact ⟨i, rfl, h.1, h.2⟩
theorem sha512_all (m : List UInt8) : (sha512 m).take 64 = sha512 m := q110 (by rw [zbx]; exact q102 _)
theorem concat2_rows (x y : Value) (us ls : List (List UInt8)) (w : World) (hx : RowB w x us) (hy : RowB w y ls) (hl : us.length + ls.length ≤ 1000000000) :
  Calls Tryz.prog 96 #[.slice (some ⟨w.heap.size, 0, none⟩) 2 2] (w.alloc (.cells #[x, y] 88)) fun e w' => ∃ z, e = .returned z ∧ RowB w' z (us ++ ls) ∧ Below w.heap.size w w' := by
 obtain ⟨la, ra, na, pa⟩ := hx
 obtain ⟨lb, rb, nb, pb⟩ := hy
 have he := Ext.alloc w (.cells #[x, y] 88)
 have hm : Row1 (w.alloc (.cells #[x, y] 88)) (.slice (some ⟨w.heap.size, 0, none⟩) 2 2) [x, y] := Row1.made w #[x, y] 88 _ 2 [x, y] rfl rfl rfl (by unfold maxLen; omega)
 have hv : RowV (w.alloc (.cells #[x, y] 88)) (.slice (some ⟨w.heap.size, 0, none⟩) 2 2) [la, lb] := by
  refine ⟨[x, y], hm, rfl, fun i z l h1 h2 => ?_⟩
  match i, h1, h2 with
  | 0, h1, h2 =>
   cases h1; cases h2
   exact ra.below he
  | 1, h1, h2 =>
   cases h1; cases h2
   exact rb.below he
  | n + 2, h1, h2 => simp at h1
 have one : ∀ {l : List Value} {ks : List (List UInt8)} {w : World}, l.length = ks.length → (∀ (i : Nat) (x : Value) (k : List UInt8), l[i]? = some x → ks[i]? = some k → Row1 w x (k.map bval)) → ∀ x ∈ l, x.oneCell' = true := by
  intro l ks w hn hp x hxm
  obtain ⟨i, hi⟩ := List.mem_iff_getElem?.1 hxm
  have hil : i < l.length := by
   rcases q116 i l.length with h | h
   ·exact h
   ·rw [List.getElem?_eq_none h] at hi; cases hi
  obtain ⟨a, c, hxv, _⟩ := hp i x ks[i] hi (List.getElem?_eq_getElem (by omega))
  rw [hxv]
  rfl
 have h := stdConcat2_any _ [la, lb] _ hv (by
  intro l hl x hx
  simp only [List.mem_cons, q165, or_false] at hl
  rcases hl with rfl | rfl
  ·exact one na pa x hx
  ·exact one nb pb x hx) (by simp; omega)
 refine h.mono fun e w' hh => ?_
 obtain ⟨z, h1, h2, h3⟩ := hh
 rw [show [la, lb].flatten = la ++ lb from by simp] at h2
 have hb := he.trans h3
 refine ⟨z, h1, ⟨la ++ lb, Row1.of_own h2, by simp [na, nb], fun i v l g1 g2 => ?_⟩, hb⟩
 rcases q116 i la.length with hi | hi
 ·rw [List.getElem?_append_left hi] at g1
  rw [List.getElem?_append_left (by omega)] at g2
  exact (pa i v l g1 g2).below hb
 ·rw [List.getElem?_append_right hi] at g1
  rw [List.getElem?_append_right (by omega), ← na] at g2
  exact (pb _ v l g1 g2).below hb
theorem cdigested_f (v a : Value) (ls us : List (List UInt8)) (m : List UInt8) (w : World) (hv : RowB w v ls) (ha : RowB w a us) (hm : us.flatten ++ ls.flatten = m) (hl : m.length ≤ 1099511627776) (hc : us.length + ls.length ≤ 1000000000) (hR : GlobRQ w) (hT : GlobT w) :
  Calls Tryz.prog 54 #[v, a] w fun e w' => e = .returned (.agg ((wideB m).map bval).toArray) ∧ Below w.heap.size w w' := by
 have HV := jh hv
 have HA := jh ha
 have HM := jh hm
 have HL := jh hl
 have HC := jh hc
 have HGR := jh hR
 have HGT := jh hT
 obtain ⟨av, cv, hvf, _⟩ := rowB_form hv
 obtain ⟨aa, ca, haf, _⟩ := rowB_form ha
 subst hvf haf
 have HB := jh (zfo w (ints .u8 (List.replicate 32 0)) 23)
 clear hv ha hm hl hc hR hT
 go_enter Tryz.func54, Tryz.ntmps54
 go_upto_region 1 with (fail)
 obtain ⟨H1, HE⟩ := HB.out
 change Code.wp _ _ _ _ (w.alloc (.cells (ints .u8 (List.replicate 32 0)).toArray 23))
 generalize w.alloc (.cells (ints .u8 (List.replicate 32 0)).toArray 23) = wa at *
 obtain ⟨A, hA⟩ : ∃ A, A = w.heap.size := ⟨_, rfl⟩
 have HAW : Hid (w.heap.size ≤ A) := jh (by omega)
 rw [← hA] at H1 ⊢
 have H1 := jh H1
 have HE : Hid (Ext w wa) := jh HE
 clear hA HB
 go_wp2_with fail
 refine (concat2_rows _ _ us ls wa (HA.out.below HE.out) (HV.out.below HE.out) HC.out).mono ?_
 rintro e w5 ⟨z, rfl, hz, hb⟩
 have H1 := xb H1 hb
 have HE := xt HE hb
 have HZR := jh hz
 clear hz hb
 go_wp2_with fail
 refine (Sum_numQ _ (us ++ ls) _ HZR.out (by rw [q169, HM.out]; exact HL.out) (HGR.out.ext HE.out)).mono ?_
 rintro e w6 ⟨rfl, hb⟩
 rw [q169, HM.out]
 have H1 := xb H1 hb
 have HE := xt HE hb
 clear hb HZR
 obtain ⟨dg, hdg⟩ : ∃ dg, dg = sha512 m := ⟨_, rfl⟩
 rw [← hdg]
 have HDL : Hid (dg.length = 64) := jh (by rw [hdg]; exact zbx m)
 have HD := jh hdg
 clear hdg
 have HZ := jh (Blk.made w6 (ints .u8 (List.replicate 64 0)) 26)
 have HEA := jh (Ext.alloc w6 (.cells (ints .u8 (List.replicate 64 0)).toArray 26))
 have HLD : Hid ((dg.map bval).length = (ints .u8 (List.replicate 64 0)).length) := jh (by rw [q101, HDL.out, zaa]; rfl)
 go_upto_region 2 with (refine ssb w6.heap.size (dg.map bval) HZ.out HLD.out (zcg HDL.out) (zaf _) ?_; intro w7 hb hg)
 have HX := jh (zab HEA.out hg (q102 _))
 obtain ⟨pd, hT⟩ : ∃ T, T = w6.heap.size := ⟨_, rfl⟩
 rw [← hT] at hb ⊢
 clear hT
 have H1 := xb H1 HX.out
 have HE := xt HE HX.out
 have HV5 := jh hb
 clear hb hg HX HZ HEA HLD
 go_wp2_with fail
 refine (Reduce_num _ dg _ (zdi (n := 64) HV5.out (by rw [q101]; exact HDL.out) (by unfold maxLen; omega)) (HGT.out.ext HE.out)).mono ?_
 rintro e w8 ⟨rfl, hb⟩
 have H1 := xb H1 hb
 have HE := xt HE hb
 clear hb HV5
 have HWE : Hid (nq ((leN (dg.take 64) : Nat) : Int) = wideB m) := jh (by rw [HD.out, sha512_all]; rfl)
 rw [HWE.out]
 have HWL := jh (zcd m)
 have HLW : Hid (((wideB m).map bval).length = (ints .u8 (List.replicate 32 0)).length) := jh (by rw [q101, HWL.out, zaa]; rfl)
 obtain ⟨wd, hwd⟩ : ∃ k, k = wideB m := ⟨_, rfl⟩
 rw [← hwd] at HWL HLW ⊢
 have HWD := jh hwd
 clear hwd HWE
 go_wp2_with (refine ssb A (wd.map bval) H1.out HLW.out (zac HWL.out) (zaf _) ?_; intro w9 hb9 hg9)
 refine bodyPost_ret (zbc rfl _ A _ _ _ _ rfl hb9 q100 (zac HWL.out)) rfl ?_
 exact ⟨by rw [HWD.out], zab HE.out hg9 (by have := HAW.out; omega)⟩
theorem u8_and (a b : UInt8) : bits .and .u8 (a.toNat : Int) (b.toNat : Int) = ((a &&& b).toNat : Int) := by
 have h1 := a.toNat_lt
 have h2 := b.toNat_lt
 have key : (BitVec.ofInt 8 (a.toNat : Int) &&& BitVec.ofInt 8 (b.toNat : Int)).toNat = a.toNat &&& b.toNat := by
  rw [BitVec.toNat_and, BitVec.toNat_ofInt, BitVec.toNat_ofInt]
  congr 1 <;> omega
 show IntKind.u8.wrap ((BitVec.ofInt 8 (a.toNat : Int) &&& BitVec.ofInt 8 (b.toNat : Int)).toNat : Nat) = _
 rw [key, UInt8.toNat_and, IntKind.wrap_u8]
 have : a.toNat &&& b.toNat ≤ a.toNat := Nat.and_le_left
 omega
theorem u8_or (a b : UInt8) : bits .or .u8 (a.toNat : Int) (b.toNat : Int) = ((a ||| b).toNat : Int) := by
 have h1 := a.toNat_lt
 have h2 := b.toNat_lt
 have key : (BitVec.ofInt 8 (a.toNat : Int) ||| BitVec.ofInt 8 (b.toNat : Int)).toNat = a.toNat ||| b.toNat := by
  rw [BitVec.toNat_or, BitVec.toNat_ofInt, BitVec.toNat_ofInt]
  congr 1 <;> omega
 show IntKind.u8.wrap ((BitVec.ofInt 8 (a.toNat : Int) ||| BitVec.ofInt 8 (b.toNat : Int)).toNat : Nat) = _
 rw [key, ← UInt8.toNat_or, IntKind.wrap_u8]
 have := (a ||| b).toNat_lt
 omega
theorem u8_set (l : List UInt8) (i : Nat) (z : UInt8) : (l.map bval).set i (.int .u8 (z.toNat : Int)) = (l.set i z).map bval := by
 rw [q127]
 rfl
theorem cclamped_any (kb : List UInt8) (w : World) (hk : kb.length = 32) : Calls Tryz.prog 90 #[.agg (kb.map bval).toArray] w fun e w' => e = .returned (.agg ((clampB kb).map bval).toArray) ∧ Below w.heap.size w w' := by
 have HB := jh (boxes2 w (kb.map bval) (ints .u8 (List.replicate 32 0)) 23 23)
 have HKL := jh hk
 clear hk
 go_enter Tryz.func90, Tryz.ntmps90
 go_upto_region 1 with (fail)
 obtain ⟨H1, H2, HE⟩ := HB.out
 change Code.wp _ _ _ _ ((w.alloc (.cells (kb.map bval).toArray 23)).alloc (.cells (ints .u8 (List.replicate 32 0)).toArray 23))
 generalize (w.alloc (.cells (kb.map bval).toArray 23)).alloc (.cells (ints .u8 (List.replicate 32 0)).toArray 23) = wa at *
 obtain ⟨A, hA⟩ : ∃ A, A = w.heap.size := ⟨_, rfl⟩
 have HAW : Hid (w.heap.size ≤ A) := jh (by omega)
 rw [← hA] at H1 H2 ⊢
 have H1 := jh H1
 have H2 := jh H2
 have HE : Hid (Ext w wa) := jh HE
 clear hA HB
 obtain ⟨k1, hk1⟩ : ∃ k1, k1 = kb.set 0 (kb.getD 0 0 &&& 248) := ⟨_, rfl⟩
 have HX1 : Hid ((kb.map bval).set 0 (.int .u8 (bits .and .u8 ((kb.getD 0 0).toNat : Int) 248)) = k1.map bval) := jh (by
  have e1 := u8_and (kb.getD 0 0) 248
  rw [show (248 : Int) = ((248 : UInt8).toNat : Int) from rfl, e1, u8_set, hk1])
 have HL1 : Hid (k1.length = 32) := jh (by rw [hk1, q154, HKL.out])
 have HX2 : Hid ((k1.map bval).set 31 (.int .u8 (bits .or .u8 (bits .and .u8 ((k1.getD 31 0).toNat : Int) 127) 64)) = (clampB kb).map bval) := jh (by
  have e1 := u8_and (k1.getD 31 0) 127
  have e2 := u8_or (k1.getD 31 0 &&& 127) 64
  rw [show (127 : Int) = ((127 : UInt8).toNat : Int) from rfl, show (64 : Int) = ((64 : UInt8).toNat : Int) from rfl, e1, e2, u8_set, hk1]
  rfl)
 have HCL := jh (zdb HKL.out)
 obtain ⟨cl, hcl⟩ : ∃ cl, cl = clampB kb := ⟨_, rfl⟩
 rw [← hcl] at HCL HX2
 have HCE := jh hcl
 clear hcl
 clear hk1
 have c1 := H1.out.cell 0
 rw [zbg (by rw [HKL.out]; omega)] at c1
 have f1 := H1.out.free 0
 generalize ((kb.getD 0 0).toNat : Int) = q1 at *
 go_upto_region 2 with (fail)
 have HM := jh (H1.out.set 0 (.int .u8 (bits .and .u8 q1 248)))
 rw [HX1.out] at HM
 have H2 := jh (H2.out.far (a := ⟨A, 0, none⟩) (by simp) (.int .u8 (bits .and .u8 q1 248)))
 have HE := jh (Below.setCell HE.out (p := ⟨A, 0, none⟩) (by have := HAW.out; simp; omega) (.int .u8 (bits .and .u8 q1 248)))
 generalize bits .and .u8 q1 248 = v1 at *
 generalize wa.setCell ⟨A, 0, none⟩ (.int .u8 v1) = wb at *
 clear c1 f1 HX1 H1
 have c1 := HM.out.cell 31
 rw [zbg (by rw [HL1.out]; omega)] at c1
 have f1 := HM.out.free 31
 generalize ((k1.getD 31 0).toNat : Int) = q2 at *
 go_upto_region 3 with (fail)
 have HM2 := jh (HM.out.set 31 (.int .u8 (bits .or .u8 (bits .and .u8 q2 127) 64)))
 rw [HX2.out] at HM2
 have H2 := jh (H2.out.far (a := ⟨A, 31, none⟩) (by simp) (.int .u8 (bits .or .u8 (bits .and .u8 q2 127) 64)))
 have HE := jh (Below.setCell HE.out (p := ⟨A, 31, none⟩) (by have := HAW.out; simp; omega) (.int .u8 (bits .or .u8 (bits .and .u8 q2 127) 64)))
 generalize bits .or .u8 (bits .and .u8 q2 127) 64 = v2 at *
 generalize wb.setCell ⟨A, 31, none⟩ (.int .u8 v2) = wc at *
 clear c1 f1 HX2 HM
 have HE : Hid (Ext w wc) := jh HE.out
 have HI : Hid ((Tryz.prog.info? 23).map (·.size) = some (cl.map bval).length) := jh (zac HCL.out)
 have HLo : Hid ((cl.map bval).length = (ints .u8 (List.replicate 32 0)).length) := jh (by rw [q101, HCL.out, zaa, q133])
 go_wp2_with (first | (refine slb A HM2.out q100 HI.out ?_) | (refine ssb (A + 1) (cl.map bval) H2.out HLo.out HI.out (zaf _) ?_; intro w5 hb5 hg5))
 refine bodyPost_ret (zbc rfl _ (A + 1) _ _ _ _ rfl hb5 q100 HI.out) rfl ?_
 exact ⟨by rw [HCE.out], zab HE.out hg5 (by have := HAW.out; omega)⟩
theorem nbc_cong {x y : Int} (h : Cong x y) : nb x = nb y := by unfold nb; rw [cong_iff.1 h]
theorem leN_nbc (x : Int) : ((leN (nb x) : Nat) : Int) = x % pP := by
 unfold nb
 have h0 : 0 ≤ x % pP := Int.emod_nonneg x (by decide +kernel)
 have h1 : x % pP < pP := q172 x (by decide +kernel)
 have h2 : pP < ((256 ^ 32 : Nat) : Int) := by decide +kernel
 rw [zea, q120 (by omega)]
 omega
theorem nbc_iff {x y : Int} : nb x = nb y ↔ Cong x y := by
 constructor
 ·intro h
  have h1 := leN_nbc x
  have h2 := leN_nbc y
  rw [h] at h1
  exact cong_iff.2 (h1.symm.trans h2)
 ·exact nbc_cong
theorem rtc_iff {x : Int} (h : ¬ pP ∣ x) : rootB x = true ↔ Cong (x ^ pM) 1 := by
 rw [← root_found h]
 unfold rootB rootR
 by_cases h1 : nb (x ^ pE * x ^ pE) = nb x
 ·rw [if_pos h1, decide_eq_true_iff]
  exact ⟨fun _ => Or.inl (nbc_iff.1 h1), fun _ => h1⟩
 ·rw [if_neg h1, decide_eq_true_iff]
  constructor
  ·intro h2
   exact Or.inr (nbc_iff.1 h2)
  ·rintro (h2 | h2)
   ·exact absurd (nbc_iff.2 h2) h1
   ·exact nbc_iff.2 h2
theorem rtc_sq {x : Int} (h : rootB x = true) : Cong (rootR x * rootR x) x := nbc_iff.1 (of_decide_eq_true h)
theorem rtc_of {x y : Int} (h : Cong y (x * x)) : rootB y = true := by
 by_cases hd : pP ∣ y
 ·have hz := cong_zero.2 hd
  have he : Cong (y ^ pE) 0 := by
   have e : (0 : Int) ^ pE = 0 := Int.zero_pow (by decide +kernel)
   have := hz.pow pE
   rw [e] at this
   exact this
  have hs : nb (y ^ pE * y ^ pE) = nb y := nbc_cong (((he.mul he).trans (by rw [Int.zero_mul]; exact Cong.refl _)).trans hz.symm)
  exact rootB_true (by unfold rootR; rw [if_pos hs]; exact hs)
 ·exact (rtc_iff hd).2 (half_of_square hd h.symm)
noncomputable def rtB (a : Fp) : Bool := @decide (∃ x : Fp, x * x = a) (Classical.propDecidable _)
theorem rtB_true {a : Fp} (h : ∃ x : Fp, x * x = a) : rtB a = true := @decide_eq_true _ (Classical.propDecidable _) h
theorem rtB_false {a : Fp} (h : ¬ ∃ x : Fp, x * x = a) : rtB a = false := @decide_eq_false _ (Classical.propDecidable _) h
theorem rt_is (x : Int) : rootB x = rtB (fp x) := by
 cases hb : rootB x with
 | true => exact (rtB_true ⟨fp (rootR x), by rw [← fp_mul, fp_eq]; exact rtc_sq hb⟩).symm
 | false =>
  refine (rtB_false ?_).symm
  rintro ⟨f, hf⟩
  have e : fp (f.val * f.val : Int) = fp x := by rw [fp_mul, zdm, hf]
  rw [rtc_of (x := f.val) (fp_eq.1 e).symm] at hb
  cases hb
theorem rad_eq (y : Fp) : (y * y - fp 1) * fi (dF * (y * y) + fp 1) = rad y := by
 unfold rad
 rw [fp_one]
theorem read_is {n : List UInt8} (h : n.length = 32) (hp : leN (yB n) < pN) {f : Fp} (hx : f * f = rad (fp ((leN (yB n) : Nat) : Int))) (h0 : ¬ (f = 0 ∧ bitN n = 1)) {x : Fp} (hxx : x = pickX f (bitN n)) :
  edMay n ∧ ∀ P, encB P = n → (⟨x, fp ((leN (yB n) : Nat) : Int), fp 1, x * fp ((leN (yB n) : Nat) : Int)⟩ : ES).is P := by
 have hR := read_enc h hp hx h0
 refine ⟨⟨_, hR⟩, fun P hP => ?_⟩
 have e : P = readP f (fp ((leN (yB n) : Nat) : Int)) (bitN n) hx := encB_inj (hP.trans hR.symm)
 rw [e, hxx, fp_one]
 exact Pt.es_is _
theorem nbc_self {l : List UInt8} (h : l.length = 32) (hp : leN l < pN) : nb ((leN l : Nat) : Int) = l := by
 have e : pP = ((pN : Nat) : Int) := by decide +kernel
 unfold nb
 rw [e, ← Int.natCast_emod, Int.toNat_natCast, q120 hp]
 have := zfa l
 rwa [h] at this
theorem nbc_not {l : List UInt8} (hp : pN ≤ leN l) : nb ((leN l : Nat) : Int) ≠ l := by
 intro h
 have h1 := leN_nbc ((leN l : Nat) : Int)
 rw [h] at h1
 have e : pP = ((pN : Nat) : Int) := by decide +kernel
 have h2 : ((leN l : Nat) : Int) % pP < pP := q172 _ (by decide +kernel)
 rw [e] at h1 h2
 omega
theorem may_no_f {n : List UInt8} (h : n.length = 32) (hp : leN (yB n) < pN) {f : Fp} (hx : f * f = rad (fp ((leN (yB n) : Nat) : Int))) (hf : f = 0) (hb : bitN n = 1) : ¬ edMay n := by
 refine may_no_bit h hp hb ?_
 rw [← hx, hf, Fin.zero_mul]
theorem rroot_f {u : Value} {a : Fp} (w : World) (hu : ElF u a) (hG : Glob w) : Calls Tryz.prog 79 #[u] w fun e w' => ∃ r f, e = .returned (.tuple #[r, .bool (rtB a)]) ∧ ElF r f ∧ (rtB a = true → f * f = a) ∧ Below w.heap.size w w' := by
 obtain ⟨x, hx, rfl⟩ := hu
 refine (rroot_any u x w hx hG).mono ?_
 rintro e w' ⟨⟨r, rfl, hr⟩, hb⟩
 refine ⟨r, fp (rootR x), by rw [rt_is], ⟨_, hr, rfl⟩, fun h => ?_, hb⟩
 rw [← fp_mul, fp_eq]
 exact rtc_sq (by rw [rt_is]; exact h)
theorem mask32 (a : Nat) (ha : a < 18446744073709551616) : bits .and .u64 (a : Int) 4294967295 = ((a % 4294967296 : Nat) : Int) := by
 have h := bits_and_u64_nat a 4294967295 ha (by omega)
 have e : a &&& 4294967295 = a % 4294967296 := q145 a 32
 rw [e] at h
 exact h
theorem mask51 (a : Nat) (ha : a < 18446744073709551616) : bits .and .u64 (a : Int) 2251799813685247 = ((a % 2251799813685248 : Nat) : Int) := by
 have h := bits_and_u64_nat a 2251799813685247 ha (by omega)
 have e : a &&& 2251799813685247 = a % 2251799813685248 := q145 a 51
 rw [e] at h
 exact h
theorem nat32 (a : Nat) : (a : Int) / 4294967296 = ((a / 4294967296 : Nat) : Int) := by omega
theorem mul64_any (x y : Nat) (hx : x < 18446744073709551616) (hy : y < 18446744073709551616) (w : World) :
  Calls Tryz.prog 141 #[.int .u64 x, .int .u64 y] w fun e w' => e = .returned (.tuple #[.int .u64 ((x * y / 18446744073709551616 : Nat) : Int), .int .u64 ((x * y % 18446744073709551616 : Nat) : Int)]) ∧ w' = w := by
 obtain ⟨bd, bt, bw, hhi⟩ := Lib.mul64_hi x y hx hy
 have ba := Lib.half_mul_le (a := x / 4294967296) (b := y / 4294967296) (by omega) (by omega)
 have bb := Lib.half_mul_le (a := x / 4294967296) (b := y % 4294967296) (by omega) (by omega)
 have bc := Lib.half_mul_le (a := x % 4294967296) (b := y / 4294967296) (by omega) (by omega)
 have ba' : x / 4294967296 * (y / 4294967296) < 18446744073709551616 := by omega
 have bb' : x / 4294967296 * (y % 4294967296) < 18446744073709551616 := by omega
 have bc' : x % 4294967296 * (y / 4294967296) < 18446744073709551616 := by omega
 have bh1 : x / 4294967296 * (y / 4294967296) + (x / 4294967296 * (y % 4294967296) + x % 4294967296 * (y % 4294967296) / 4294967296) / 4294967296 < 18446744073709551616 := by omega
 have bh : x / 4294967296 * (y / 4294967296) + (x / 4294967296 * (y % 4294967296) + x % 4294967296 * (y % 4294967296) / 4294967296) / 4294967296 + ((x / 4294967296 * (y % 4294967296) + x % 4294967296 * (y % 4294967296) / 4294967296) % 4294967296 + x % 4294967296 * (y / 4294967296)) / 4294967296 < 18446744073709551616 := by omega
 go_enter Tryz.func141, Tryz.ntmps141
 go_wp2_with fail
 simp only [mask32 x hx, mask32 y hy, nat32, natMul, natAdd, w64 bd, w64 bb', w64 bt, mask32 _ bt, w64 bc', w64 bw, w64 ba', w64 bh1, w64 bh, w64m (x * y)]
 rw [hhi]
 go_ret2
 exact ⟨rfl, rfl⟩
theorem add64_run (x y : Nat) (w : World) : (callFunc 142 #[.int .u64 x, .int .u64 y, .int .u64 0]).run Tryz.prog w =
  .ok (.value (.tuple #[.int .u64 (((x + y) % 18446744073709551616 : Nat) : Int), .int .u64 (((x + y) / 18446744073709551616 : Nat) : Int)])) w := by
 rw [run_callFunc_extern Tryz.func142 (by kernel_rfl) (by kernel_rfl) (by kernel_rfl) (e := add64Entry) (by kernel_rfl), run_add64 x y 0 (by omega) (by omega) (by omega) (by omega)]
 simp only [Result.andThen]
 congr 5 <;> omega
def wideV (n : Nat) : Value := .agg #[.int .u64 ((n / 18446744073709551616 : Nat) : Int), .int .u64 ((n % 18446744073709551616 : Nat) : Int)]
theorem Tryz.arr174 : (Tryz.prog.info? 174).map (·.size) = some 2 := by kernel_rfl
theorem one2 (a b : Int) : ∀ v ∈ [Value.int .u64 a, .int .u64 b], v.oneCell' = true := by
 intro v hv
 rcases List.mem_cons.1 hv with rfl | hv
 ·rfl
 ·rcases List.mem_cons.1 hv with rfl | hv
  ·rfl
  ·cases hv
theorem product_hl (x y h l : Nat) (hx : x < 18446744073709551616) (hy : y < 18446744073709551616) (e1 : x * y / 18446744073709551616 = h) (e2 : x * y % 18446744073709551616 = l) (w : World) :
  Calls Tryz.prog 134 #[.int .u64 x, .int .u64 y] w fun e w' => e = .returned (.agg #[.int .u64 h, .int .u64 l]) ∧ Below w.heap.size w w' := by
 have HM : ∀ w, Calls Tryz.prog 141 #[.int .u64 x, .int .u64 y] w fun e w' => e = .returned (.tuple #[.int .u64 h, .int .u64 l]) ∧ w' = w := fun w => by
  have := mul64_any x y hx hy w
  rwa [e1, e2] at this
 have HB := jh (Blk.made w [.int .u64 0, .int .u64 0] 174)
 have HE := jh (Ext.alloc w (.cells [.int .u64 0, .int .u64 0].toArray 174))
 clear hx hy e1 e2
 go_enter Tryz.func134, Tryz.ntmps134
 go_wp2_with fail
 refine (HM _).mono ?_
 rintro e w' ⟨rfl, rfl⟩
 go_wp2_with (refine ssb w.heap.size [.int .u64 h, .int .u64 l] HB.out rfl Tryz.arr174 (one2 _ _) ?_; intro w5 hb5 hg5)
 exact bodyPost_ret (v := .agg #[.int .u64 h, .int .u64 l]) (zap (by rfl) _ w.heap.size _ _ _ (by rfl) hb5 q175 rfl Tryz.arr174) rfl ⟨rfl, zab HE.out hg5 (q102 _)⟩
theorem product_any (x y : Nat) (hx : x < 18446744073709551616) (hy : y < 18446744073709551616) (w : World) :
  Calls Tryz.prog 134 #[.int .u64 x, .int .u64 y] w fun e w' => e = .returned (wideV (x * y)) ∧ Below w.heap.size w w' := product_hl x y _ _ hx hy rfl rfl w
theorem above_math (h l : Nat) (hl : l < 18446744073709551616) : bits .or .u64 (IntKind.u64.wrap ((h : Int) * 8192)) ((l : Int) / 2251799813685248) = (((h * 18446744073709551616 + l) / 2251799813685248 % 18446744073709551616 : Nat) : Int) := by
 have e1 : IntKind.u64.wrap ((h : Int) * 8192) = ((8192 * (h % 2251799813685248) : Nat) : Int) := by rw [IntKind.wrap_u64]; omega
 have e2 : (l : Int) / 2251799813685248 = ((l / 2251799813685248 : Nat) : Int) := by omega
 rw [e1, e2, or64 _ _ (by omega) (by omega), or_sum 13 _ _ (by omega)]
 omega
theorem above_hl (h l : Nat) (hl : l < 18446744073709551616) (w : World) :
  Calls Tryz.prog 136 #[.agg #[.int .u64 h, .int .u64 l]] w fun e w' => e = .returned (.int .u64 (((h * 18446744073709551616 + l) / 2251799813685248 % 18446744073709551616 : Nat) : Int)) ∧ Below w.heap.size w w' := by
 rw [← above_math h l hl]
 clear hl
 go_enter Tryz.func136, Tryz.ntmps136
 go_wp2_with fail
 go_ret
 exact ⟨rfl, Ext.alloc _ _⟩
theorem above_any (n : Nat) (w : World) :
  Calls Tryz.prog 136 #[wideV n] w fun e w' => e = .returned (.int .u64 ((n / 2251799813685248 % 18446744073709551616 : Nat) : Int)) ∧ Below w.heap.size w w' := by
 have := above_hl (n / 18446744073709551616) (n % 18446744073709551616) (q140 _ (by omega)) w
 rwa [Nat.div_add_mod'] at this
theorem plus_hl (h l x y ph pl c s r : Nat) (hx : x < 18446744073709551616) (hy : y < 18446744073709551616) (e1 : x * y / 18446744073709551616 = ph) (e2 : x * y % 18446744073709551616 = pl) (e3 : (l + pl) / 18446744073709551616 = c) (e4 : (l + pl) % 18446744073709551616 = s)
  (e5 : h + ph + c = r) (hr : r < 18446744073709551616) (w : World) :
  Calls Tryz.prog 135 #[.agg #[.int .u64 h, .int .u64 l], .int .u64 x, .int .u64 y] w fun e w' => e = .returned (.agg #[.int .u64 r, .int .u64 s]) ∧ Below w.heap.size w w' := by
 have HM : ∀ w, Calls Tryz.prog 141 #[.int .u64 x, .int .u64 y] w fun e w' => e = .returned (.tuple #[.int .u64 ph, .int .u64 pl]) ∧ w' = w := fun w => by
  have := mul64_any x y hx hy w
  rwa [e1, e2] at this
 have HA : ∀ w, (callFunc 142 #[.int .u64 l, .int .u64 pl, .int .u64 0]).run Tryz.prog w = .ok (.value (.tuple #[.int .u64 s, .int .u64 c])) w := fun w => by
  have := add64_run l pl w
  rwa [e3, e4] at this
 have HB := jh (boxes2 w [.int .u64 h, .int .u64 l] [.int .u64 0, .int .u64 0] 174 174)
 have HR : IntKind.u64.wrap (IntKind.u64.wrap ((h : Int) + ph) + c) = (r : Int) := by
  rw [natAdd, w64 (by omega), natAdd, e5, w64 hr]
 have HR2 := jh HR
 clear hx hy e1 e2 e3 e4 e5 hr HR
 go_enter Tryz.func135, Tryz.ntmps135
 go_wp2_with fail
 refine (HM _).mono ?_
 rintro e w' ⟨rfl, rfl⟩
 go_wp2_with (refine ssb (w.heap.size + 1) [.int .u64 (IntKind.u64.wrap (IntKind.u64.wrap ((h : Int) + ph) + c)), .int .u64 s] HB.out.2.1 rfl Tryz.arr174 (one2 _ _) ?_; intro w5 hb5 hg5)
 rw [HR2.out] at hb5
 exact bodyPost_ret (v := .agg #[.int .u64 r, .int .u64 s]) (zap (by rfl) _ (w.heap.size + 1) _ _ _ (by rfl) hb5 q175 rfl Tryz.arr174) rfl ⟨rfl, zab HB.out.2.2 hg5 (by omega)⟩
theorem zck (n x y : Nat) (hx : x < 18446744073709551616) (hy : y < 18446744073709551616) (hn : n + x * y < 340282366920938463463374607431768211456) (w : World) :
  Calls Tryz.prog 135 #[wideV n, .int .u64 x, .int .u64 y] w fun e w' => e = .returned (wideV (n + x * y)) ∧ Below w.heap.size w w' := by
 have h1 := plus_hl (n / 18446744073709551616) (n % 18446744073709551616) x y _ _ _ _ _ hx hy rfl rfl rfl rfl rfl (by generalize x * y = z at *; omega) w
 refine h1.mono ?_
 rintro e w' ⟨rfl, hb⟩
 refine ⟨?_, hb⟩
 unfold wideV
 generalize x * y = z at *
 have q1 : n / 18446744073709551616 + z / 18446744073709551616 + (n % 18446744073709551616 + z % 18446744073709551616) / 18446744073709551616 = (n + z) / 18446744073709551616 := by omega
 have q2 : (n % 18446744073709551616 + z % 18446744073709551616) % 18446744073709551616 = (n + z) % 18446744073709551616 := by omega
 rw [q1, q2]
structure L5 where
 a : Nat
 b : Nat
 c : Nat
 d : Nat
 e : Nat
def L5.vs (x : L5) : List Value := [.int .u64 x.a, .int .u64 x.b, .int .u64 x.c, .int .u64 x.d, .int .u64 x.e]
def L5.v (x : L5) : Value := .agg x.vs.toArray
def L5.lt (B : Nat) (x : L5) : Prop := x.a < B ∧ x.b < B ∧ x.c < B ∧ x.d < B ∧ x.e < B
def L5.val (x : L5) : Nat := x.a + 2251799813685248 * x.b + 5070602400912917605986812821504 * x.c + 11417981541647679048466287755595961091061972992 * x.d + 25711008708143844408671393477458601640355247900524685364822016 * x.e
theorem L5.vs_one (x : L5) : ∀ v ∈ x.vs, v.oneCell' = true := by
 intro v hv
 simp only [L5.vs, List.mem_cons, q165, or_false] at hv
 rcases hv with rfl | rfl | rfl | rfl | rfl <;> rfl
theorem L5.lt.mono {B B' : Nat} {x : L5} (h : x.lt B) (hb : B ≤ B') : x.lt B' := ⟨q114 h.1 hb, q114 h.2.1 hb, q114 h.2.2.1 hb, q114 h.2.2.2.1 hb, q114 h.2.2.2.2 hb⟩
def carriedL (x : L5) : L5 := ⟨x.a % 2251799813685248 + 19 * (x.e / 2251799813685248), x.b % 2251799813685248 + x.a / 2251799813685248, x.c % 2251799813685248 + x.b / 2251799813685248, x.d % 2251799813685248 + x.c / 2251799813685248, x.e % 2251799813685248 + x.d / 2251799813685248⟩
theorem carriedL_lt (x : L5) (h : x.lt 18446744073709551616) : (carriedL x).lt 2251799813947392 := by
 obtain ⟨h1, h2, h3, h4, h5⟩ := h
 refine ⟨?_, ?_, ?_, ?_, ?_⟩ <;> simp only [carriedL] <;> omega
theorem carriedL_val (x : L5) : Cong ((carriedL x).val : Nat) (x.val : Nat) := by
 refine ⟨-((x.e / 2251799813685248 : Nat) : Int), ?_⟩
 simp only [carriedL, L5.val]
 have hp : pP = 57896044618658097711785492504343953926634992332820282019728792003956564819949 := rfl
 rw [hp]
 omega
def col0 (x y : L5) : Nat := x.a * y.a + 19 * x.b * y.e + 19 * x.c * y.d + 19 * x.d * y.c + 19 * x.e * y.b
def col1 (x y : L5) : Nat := x.a * y.b + x.b * y.a + 19 * x.c * y.e + 19 * x.d * y.d + 19 * x.e * y.c
def col2 (x y : L5) : Nat := x.a * y.c + x.b * y.b + x.c * y.a + 19 * x.d * y.e + 19 * x.e * y.d
def col3 (x y : L5) : Nat := x.a * y.d + x.b * y.c + x.c * y.b + x.d * y.a + 19 * x.e * y.e
def col4 (x y : L5) : Nat := x.a * y.e + x.b * y.d + x.c * y.c + x.d * y.b + x.e * y.a
def rowsL (v w x y z : Nat) : L5 := ⟨v % 2251799813685248 + 19 * (z / 2251799813685248), w % 2251799813685248 + v / 2251799813685248, x % 2251799813685248 + w / 2251799813685248, y % 2251799813685248 + x / 2251799813685248, z % 2251799813685248 + y / 2251799813685248⟩
def timesL (x y : L5) : L5 := carriedL (rowsL (col0 x y) (col1 x y) (col2 x y) (col3 x y) (col4 x y))
theorem zda {x y : Nat} (hx : x < 18014398509481984) (hy : y < 18014398509481984) : x * y ≤ 324518553658426690754359001612289 := by
 have := Nat.mul_le_mul (show x ≤ 18014398509481983 by omega) (show y ≤ 18014398509481983 by omega)
 omega
theorem mul_lt54' {x y : Nat} (hx : x < 18014398509481984) (hy : y < 18014398509481984) : 19 * x * y ≤ 6165852519510107124332821030633491 := by
 have := zda hx hy
 rw [Nat.mul_assoc]
 omega
theorem cols_lt {x y : L5} (hx : x.lt 18014398509481984) (hy : y.lt 18014398509481984) :
  col0 x y ≤ 77 * 324518553658426690754359001612289 ∧ col1 x y ≤ 77 * 324518553658426690754359001612289 ∧ col2 x y ≤ 77 * 324518553658426690754359001612289 ∧ col3 x y ≤ 77 * 324518553658426690754359001612289 ∧ col4 x y ≤ 5 * 324518553658426690754359001612289 := by
 obtain ⟨x1, x2, x3, x4, x5⟩ := hx
 obtain ⟨y1, y2, y3, y4, y5⟩ := hy
 refine ⟨?_, ?_, ?_, ?_, ?_⟩
 ·have := zda x1 y1; have := mul_lt54' x2 y5; have := mul_lt54' x3 y4; have := mul_lt54' x4 y3; have := mul_lt54' x5 y2
  unfold col0; omega
 ·have := zda x1 y2; have := zda x2 y1; have := mul_lt54' x3 y5; have := mul_lt54' x4 y4; have := mul_lt54' x5 y3
  unfold col1; omega
 ·have := zda x1 y3; have := zda x2 y2; have := zda x3 y1; have := mul_lt54' x4 y5; have := mul_lt54' x5 y4
  unfold col2; omega
 ·have := zda x1 y4; have := zda x2 y3; have := zda x3 y2; have := zda x4 y1; have := mul_lt54' x5 y5
  unfold col3; omega
 ·have := zda x1 y5; have := zda x2 y4; have := zda x3 y3; have := zda x4 y2; have := zda x5 y1
  unfold col4; omega
theorem rowsL_lt {v w x y z : Nat} (hv : v ≤ 77 * 324518553658426690754359001612289) (hw : w ≤ 77 * 324518553658426690754359001612289) (hx : x ≤ 77 * 324518553658426690754359001612289) (hy : y ≤ 77 * 324518553658426690754359001612289) (hz : z ≤ 5 * 324518553658426690754359001612289) : (rowsL v w x y z).lt 18446744073709551616 := by
 refine ⟨?_, ?_, ?_, ?_, ?_⟩ <;> simp only [rowsL] <;> omega
theorem zcx {x y : L5} (hx : x.lt 18014398509481984) (hy : y.lt 18014398509481984) : (timesL x y).lt 18014398509481984 := by
 obtain ⟨h1, h2, h3, h4, h5⟩ := cols_lt hx hy
 exact (carriedL_lt _ (rowsL_lt h1 h2 h3 h4 h5)).mono (by omega)
theorem rowsL_val (v w x y z : Nat) : Cong ((rowsL v w x y z).val : Nat) ((L5.mk v w x y z).val : Nat) := by
 refine ⟨-((z / 2251799813685248 : Nat) : Int), ?_⟩
 simp only [rowsL, L5.val]
 have hp : pP = 57896044618658097711785492504343953926634992332820282019728792003956564819949 := rfl
 rw [hp]
 omega
theorem cols_ring (R a b c d e f g h i j : Int) : (a * f + 19 * b * j + 19 * c * i + 19 * d * h + 19 * e * g) + R * (a * g + b * f + 19 * c * j + 19 * d * i + 19 * e * h) + R ^ 2 * (a * h + b * g + c * f + 19 * d * j + 19 * e * i) + R ^ 3 * (a * i + b * h + c * g + d * f + 19 * e * j) + R ^ 4 * (a * j + b * i + c * h + d * g + e * f)
  - (a + R * b + R ^ 2 * c + R ^ 3 * d + R ^ 4 * e) * (f + R * g + R ^ 2 * h + R ^ 3 * i + R ^ 4 * j) = (R ^ 5 - 19) * -(b * j + c * i + d * h + e * g + R * (c * j + d * i + e * h) + R ^ 2 * (d * j + e * i) + R ^ 3 * (e * j)) := by grind
theorem val_int (a b c d e : Nat) : (((L5.mk a b c d e).val : Nat) : Int) = (a : Int) + 2251799813685248 * (b : Int) + 5070602400912917605986812821504 * (c : Int) + 11417981541647679048466287755595961091061972992 * (d : Int) + 25711008708143844408671393477458601640355247900524685364822016 * (e : Int) := by
 simp only [L5.val]
 omega
theorem cols_val (x y : L5) : Cong ((L5.mk (col0 x y) (col1 x y) (col2 x y) (col3 x y) (col4 x y)).val : Nat) ((x.val : Int) * (y.val : Nat)) := by
 obtain ⟨a, b, c, d, e⟩ := x
 obtain ⟨f, g, h, i, j⟩ := y
 have key := cols_ring 2251799813685248 a b c d e f g h i j
 have k2 : (2251799813685248 : Int) ^ 2 = 5070602400912917605986812821504 := by decide +kernel
 have k3 : (2251799813685248 : Int) ^ 3 = 11417981541647679048466287755595961091061972992 := by decide +kernel
 have k4 : (2251799813685248 : Int) ^ 4 = 25711008708143844408671393477458601640355247900524685364822016 := by decide +kernel
 have k5 : (2251799813685248 : Int) ^ 5 - 19 = pP := by decide +kernel
 rw [k2, k3, k4, k5] at key
 have c0 : ((col0 ⟨a, b, c, d, e⟩ ⟨f, g, h, i, j⟩ : Nat) : Int) = a * f + 19 * b * j + 19 * c * i + 19 * d * h + 19 * e * g := by simp only [col0, Int.natCast_add, Int.natCast_mul]; rfl
 have c1 : ((col1 ⟨a, b, c, d, e⟩ ⟨f, g, h, i, j⟩ : Nat) : Int) = a * g + b * f + 19 * c * j + 19 * d * i + 19 * e * h := by simp only [col1, Int.natCast_add, Int.natCast_mul]; rfl
 have c2 : ((col2 ⟨a, b, c, d, e⟩ ⟨f, g, h, i, j⟩ : Nat) : Int) = a * h + b * g + c * f + 19 * d * j + 19 * e * i := by simp only [col2, Int.natCast_add, Int.natCast_mul]; rfl
 have c3 : ((col3 ⟨a, b, c, d, e⟩ ⟨f, g, h, i, j⟩ : Nat) : Int) = a * i + b * h + c * g + d * f + 19 * e * j := by simp only [col3, Int.natCast_add, Int.natCast_mul]; rfl
 have c4 : ((col4 ⟨a, b, c, d, e⟩ ⟨f, g, h, i, j⟩ : Nat) : Int) = a * j + b * i + c * h + d * g + e * f := by simp only [col4, Int.natCast_add, Int.natCast_mul]
 rw [val_int, val_int, val_int, c0, c1, c2, c3, c4]
 exact ⟨_, key⟩
theorem zdq (x y : L5) : Cong ((timesL x y).val : Nat) ((x.val : Int) * (y.val : Nat)) := (carriedL_val _).trans ((rowsL_val _ _ _ _ _).trans (cols_val x y))
def sqL (x : L5) : Nat → L5
 | 0 => x
 | n + 1 => timesL (sqL x n) (sqL x n)
theorem sqL_lt {x : L5} (hx : x.lt 18014398509481984) : ∀ n, (sqL x n).lt 18014398509481984
 | 0 => hx
 | n + 1 => zcx (sqL_lt hx n) (sqL_lt hx n)
theorem sqL_val (x : L5) {y : Int} {k : Nat} (h : Cong (x.val : Nat) (y ^ k)) : ∀ n, Cong ((sqL x n).val : Nat) (y ^ (k * 2 ^ n))
 | 0 => by simpa [sqL] using h
 | n + 1 => by
  have ih := sqL_val x h n
  have := (zdq (sqL x n) (sqL x n)).trans (ih.mul ih)
  rw [← q135] at this
  have e : k * 2 ^ n + k * 2 ^ n = k * 2 ^ (n + 1) := by rw [q128, ← Nat.mul_assoc]; omega
  rwa [e] at this
def joinL (x : L5) (n : Nat) (y : L5) : L5 := timesL (sqL x n) y
theorem zdr {x y : L5} (n : Nat) (hx : x.lt 18014398509481984) (hy : y.lt 18014398509481984) : (joinL x n y).lt 18014398509481984 := zcx (sqL_lt hx n) hy
theorem zdg {x y : L5} {z : Int} {k l : Nat} (n : Nat) (hx : Cong (x.val : Nat) (z ^ k)) (hy : Cong (y.val : Nat) (z ^ l)) : Cong ((joinL x n y).val : Nat) (z ^ (k * 2 ^ n + l)) := by
 have := (zdq (sqL x n) y).trans ((sqL_val x hx n).mul hy)
 rwa [← q135] at this
def o2 (x : L5) : L5 := joinL x 1 x
def o4 (x : L5) : L5 := joinL (o2 x) 2 (o2 x)
def o5 (x : L5) : L5 := joinL (o4 x) 1 x
def o10 (x : L5) : L5 := joinL (o5 x) 5 (o5 x)
def o20 (x : L5) : L5 := joinL (o10 x) 10 (o10 x)
def o40 (x : L5) : L5 := joinL (o20 x) 20 (o20 x)
def o50 (x : L5) : L5 := joinL (o40 x) 10 (o10 x)
def o100 (x : L5) : L5 := joinL (o50 x) 50 (o50 x)
def o200 (x : L5) : L5 := joinL (o100 x) 100 (o100 x)
def onesL (x : L5) : L5 := joinL (o200 x) 50 (o50 x)
theorem o2_lt {x : L5} (h : x.lt 18014398509481984) : (o2 x).lt 18014398509481984 := zdr _ h h
theorem o4_lt {x : L5} (h : x.lt 18014398509481984) : (o4 x).lt 18014398509481984 := zdr _ (o2_lt h) (o2_lt h)
theorem o5_lt {x : L5} (h : x.lt 18014398509481984) : (o5 x).lt 18014398509481984 := zdr _ (o4_lt h) h
theorem o10_lt {x : L5} (h : x.lt 18014398509481984) : (o10 x).lt 18014398509481984 := zdr _ (o5_lt h) (o5_lt h)
theorem o20_lt {x : L5} (h : x.lt 18014398509481984) : (o20 x).lt 18014398509481984 := zdr _ (o10_lt h) (o10_lt h)
theorem o40_lt {x : L5} (h : x.lt 18014398509481984) : (o40 x).lt 18014398509481984 := zdr _ (o20_lt h) (o20_lt h)
theorem o50_lt {x : L5} (h : x.lt 18014398509481984) : (o50 x).lt 18014398509481984 := zdr _ (o40_lt h) (o10_lt h)
theorem o100_lt {x : L5} (h : x.lt 18014398509481984) : (o100 x).lt 18014398509481984 := zdr _ (o50_lt h) (o50_lt h)
theorem o200_lt {x : L5} (h : x.lt 18014398509481984) : (o200 x).lt 18014398509481984 := zdr _ (o100_lt h) (o100_lt h)
theorem onesL_lt {x : L5} (h : x.lt 18014398509481984) : (onesL x).lt 18014398509481984 := zdr _ (o200_lt h) (o50_lt h)
theorem pow1 (z : Int) : z = z ^ 1 := by rw [q122, Int.pow_zero, Int.one_mul]
theorem onesL_val {x : L5} {z : Int} (h : Cong (x.val : Nat) z) : Cong ((onesL x).val : Nat) (z ^ (2 ^ 250 - 1)) := by
 have h1 : Cong (x.val : Nat) (z ^ 1) := by rw [← pow1]; exact h
 have h2 : Cong ((o2 x).val : Nat) (z ^ 3) := zdg 1 h1 h1
 have h4 : Cong ((o4 x).val : Nat) (z ^ 15) := zdg 2 h2 h2
 have h5 : Cong ((o5 x).val : Nat) (z ^ 31) := zdg 1 h4 h1
 have h10 : Cong ((o10 x).val : Nat) (z ^ 1023) := zdg 5 h5 h5
 have h20 : Cong ((o20 x).val : Nat) (z ^ 1048575) := zdg 10 h10 h10
 have h40 : Cong ((o40 x).val : Nat) (z ^ 1099511627775) := zdg 20 h20 h20
 have h50 : Cong ((o50 x).val : Nat) (z ^ 1125899906842623) := zdg 10 h40 h10
 have h100 : Cong ((o100 x).val : Nat) (z ^ 1267650600228229401496703205375) := zdg 50 h50 h50
 have h200 : Cong ((o200 x).val : Nat) (z ^ 1606938044258990275541962092341162602522202993782792835301375) := zdg 100 h100 h100
 exact zdg 50 h200 h50
theorem Tryz.arr147 : (Tryz.prog.info? 147).map (·.size) = some 5 := by kernel_rfl
def zero5 : List Value := [.int .u64 0, .int .u64 0, .int .u64 0, .int .u64 0, .int .u64 0]
theorem one5 (a b c d e : Int) : ∀ v ∈ [Value.int .u64 a, .int .u64 b, .int .u64 c, .int .u64 d, .int .u64 e], v.oneCell' = true := by
 intro v hv
 simp only [List.mem_cons, q165, or_false] at hv
 rcases hv with rfl | rfl | rfl | rfl | rfl <;> rfl
theorem nat51 (a : Nat) : (a : Int) / 2251799813685248 = ((a / 2251799813685248 : Nat) : Int) := by omega
theorem carry0 (a e : Nat) (ha : a < 18446744073709551616) (he : e < 18446744073709551616) : IntKind.u64.wrap (bits .and .u64 (a : Int) 2251799813685247 + IntKind.u64.wrap (19 * ((e : Int) / 2251799813685248))) = ((a % 2251799813685248 + 19 * (e / 2251799813685248) : Nat) : Int) := by
 rw [mask51 a ha, nat51, IntKind.wrap_u64, IntKind.wrap_u64]
 omega
theorem carry1 (a e : Nat) (ha : a < 18446744073709551616) (he : e < 18446744073709551616) : IntKind.u64.wrap (bits .and .u64 (a : Int) 2251799813685247 + (e : Int) / 2251799813685248) = ((a % 2251799813685248 + e / 2251799813685248 : Nat) : Int) := by
 rw [mask51 a ha, nat51, IntKind.wrap_u64]
 omega
theorem carried_any (x : L5) (hx : x.lt 18446744073709551616) (w : World) :
  Calls Tryz.prog 131 #[x.v] w fun e w' => e = .returned (carriedL x).v ∧ Below w.heap.size w w' := by
 obtain ⟨a, b, c, d, e⟩ := x
 obtain ⟨h1, h2, h3, h4, h5⟩ := hx
 have r0 := jh (carry0 a e h1 h5)
 have r1 := jh (carry1 b a h2 h1)
 have r2 := jh (carry1 c b h3 h2)
 have r3 := jh (carry1 d c h4 h3)
 have r4 := jh (carry1 e d h5 h4)
 have HB := jh (boxes2 w [.int .u64 a, .int .u64 b, .int .u64 c, .int .u64 d, .int .u64 e] zero5 147 147)
 clear h1 h2 h3 h4 h5
 unfold L5.v L5.vs
 go_enter Tryz.func131, Tryz.ntmps131
 go_wp2_with (refine ssb (w.heap.size + 1) [.int .u64 (IntKind.u64.wrap (bits .and .u64 (a : Int) 2251799813685247 + IntKind.u64.wrap (19 * ((e : Int) / 2251799813685248)))), .int .u64 (IntKind.u64.wrap (bits .and .u64 (b : Int) 2251799813685247 + (a : Int) / 2251799813685248)), .int .u64 (IntKind.u64.wrap (bits .and .u64 (c : Int) 2251799813685247 + (b : Int) / 2251799813685248)), .int .u64 (IntKind.u64.wrap (bits .and .u64 (d : Int) 2251799813685247 + (c : Int) / 2251799813685248)), .int .u64 (IntKind.u64.wrap (bits .and .u64 (e : Int) 2251799813685247 + (d : Int) / 2251799813685248))] HB.out.2.1 rfl Tryz.arr147 (one5 _ _ _ _ _) ?_; intro w5 hb5 hg5)
 rw [r0.out, r1.out, r2.out, r3.out, r4.out] at hb5
 exact bodyPost_ret (v := (carriedL ⟨a, b, c, d, e⟩).v) (zap (by rfl) _ (w.heap.size + 1) _ _ _ (by rfl) hb5 q104 rfl Tryz.arr147) rfl ⟨rfl, zab HB.out.2.2 hg5 (by omega)⟩
