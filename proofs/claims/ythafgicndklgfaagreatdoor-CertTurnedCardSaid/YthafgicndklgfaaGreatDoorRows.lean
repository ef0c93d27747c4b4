/-
  NARROWER THAN 'FOR EVERY INPUT', by the rows' own cells (each row's printed sentence says how): CertSigns: laid · CertChecks: laid · CertStops: laid · CertReads: laid · CertTurned: laid · CertNone: laid · CertBytes: laid.
  DERIVED. THE GIVEN ROWS OF THIS SEAT. 7 by the template 'for every input the law returns true; each argument reads behind the call as it read before'; 0 by the template 'total and deterministic' (their statements: YthafgicndklgfaaGreatDoorTotals.lean).
  GIVEN WITH THE SEED: the statements are not yours to turn. If you find one false, say at which input.
  Laid BY PROGRAM, IN A SANDBOX (cutbox-rows.mjs): the forced cells as the released guide's own fill.sh prints them over the translation 3b4b06d3c1bf93a6… (all of the seat's roots in one cut). By AI agents, Wed Nov 11 2026. No macro, syntax, notation, axiom, sorry.
-/
import Derived.Test.YthafgicndklgfaaGreatDoorChecked
import GoSem.Claim
import GoSem.ClaimJoined
import GoSem.ClaimMapViews
import Derived.JoinedTies
import Derived.KernelRfl
namespace Go.Proofs.YthafgicndklgfaaGreatDoor
/- THE CELL 'sum', in the pinned program and in every row, IS THE sha256 OF THE DUMP (.gsa) THAT YthafgicndklgfaaGreatDoorProg.lean LOADS. Nothing in Lean hashes anything: it is a label: what it is worth is what the hold of that sum in a sandbox is worth. -/
noncomputable def Tryz.pinned : Pinned := { name := "ythafgicndklgfaagreatdoor", sum := "3b4b06d3c1bf93a601f2def021d20317b8040b9550fbd3a2159f0f160f4c0838", checked := Tryz.checked }
namespace Rows
def none {H : Type} : Left H := { results := [], args := [] }

/- WHAT THE LISTED PACKAGE-LEVEL VARIABLES READ AS WHEN THE CALL BEGINS. Each datum BY PROGRAM (the guide's laid-datum.mjs) off the statement by which the dump's own 'gosem.cut.vars' lays the variable. In a bare row this is a premise. The card (YthafgicndklgfaaGreatDoorCards.lean) ties it to the program's text. -/
def laid_portcullis_portcullisref1_k512 {H : Type} : DataW H := .agg [.lit (.int .u64 4794697086780616226), .lit (.int .u64 8158064640168781261), .lit (.int .u64 13096744586834688815), .lit (.int .u64 16840607885511220156), .lit (.int .u64 4131703408338449720), .lit (.int .u64 6480981068601479193), .lit (.int .u64 10538285296894168987), .lit (.int .u64 12329834152419229976), .lit (.int .u64 15566598209576043074), .lit (.int .u64 1334009975649890238), .lit (.int .u64 2608012711638119052), .lit (.int .u64 6128411473006802146), .lit (.int .u64 8268148722764581231), .lit (.int .u64 9286055187155687089), .lit (.int .u64 11230858885718282805), .lit (.int .u64 13951009754708518548), .lit (.int .u64 16472876342353939154), .lit (.int .u64 17275323862435702243), .lit (.int .u64 1135362057144423861), .lit (.int .u64 2597628984639134821), .lit (.int .u64 3308224258029322869), .lit (.int .u64 5365058923640841347), .lit (.int .u64 6679025012923562964), .lit (.int .u64 8573033837759648693), .lit (.int .u64 10970295158949994411), .lit (.int .u64 12119686244451234320), .lit (.int .u64 12683024718118986047), .lit (.int .u64 13788192230050041572), .lit (.int .u64 14330467153632333762), .lit (.int .u64 15395433587784984357), .lit (.int .u64 489312712824947311), .lit (.int .u64 1452737877330783856), .lit (.int .u64 2861767655752347644), .lit (.int .u64 3322285676063803686), .lit (.int .u64 5560940570517711597), .lit (.int .u64 5996557281743188959), .lit (.int .u64 7280758554555802590), .lit (.int .u64 8532644243296465576), .lit (.int .u64 9350256976987008742), .lit (.int .u64 10552545826968843579), .lit (.int .u64 11727347734174303076), .lit (.int .u64 12113106623233404929), .lit (.int .u64 14000437183269869457), .lit (.int .u64 14369950271660146224), .lit (.int .u64 15101387698204529176), .lit (.int .u64 15463397548674623760), .lit (.int .u64 17586052441742319658), .lit (.int .u64 1182934255886127544), .lit (.int .u64 1847814050463011016), .lit (.int .u64 2177327727835720531), .lit (.int .u64 2830643537854262169), .lit (.int .u64 3796741975233480872), .lit (.int .u64 4115178125766777443), .lit (.int .u64 5681478168544905931), .lit (.int .u64 6601373596472566643), .lit (.int .u64 7507060721942968483), .lit (.int .u64 8399075790359081724), .lit (.int .u64 8693463985226723168), .lit (.int .u64 9568029438360202098), .lit (.int .u64 10144078919501101548), .lit (.int .u64 10430055236837252648), .lit (.int .u64 11840083180663258601), .lit (.int .u64 13761210420658862357), .lit (.int .u64 14299343276471374635), .lit (.int .u64 14566680578165727644), .lit (.int .u64 15097957966210449927), .lit (.int .u64 16922976911328602910), .lit (.int .u64 17689382322260857208), .lit (.int .u64 500013540394364858), .lit (.int .u64 748580250866718886), .lit (.int .u64 1242879168328830382), .lit (.int .u64 1977374033974150939), .lit (.int .u64 2944078676154940804), .lit (.int .u64 3659926193048069267), .lit (.int .u64 4368137639120453308), .lit (.int .u64 4836135668995329356), .lit (.int .u64 5532061633213252278), .lit (.int .u64 6448918945643986474), .lit (.int .u64 6902733635092675308), .lit (.int .u64 7801388544844847127)]
def laid_portcullis_portcullisref3_rootOfMinusOne {H : Type} : DataW H := .agg [.lit (.int .i64 41136), .lit (.int .i64 18958), .lit (.int .i64 6951), .lit (.int .i64 50414), .lit (.int .i64 58488), .lit (.int .i64 44335), .lit (.int .i64 6150), .lit (.int .i64 12099), .lit (.int .i64 55207), .lit (.int .i64 15867), .lit (.int .i64 153), .lit (.int .i64 11085), .lit (.int .i64 57099), .lit (.int .i64 20417), .lit (.int .i64 9344), .lit (.int .i64 11139)]
def laid_portcullis_portcullisref3_order {H : Type} : DataW H := .agg [.lit (.int .i64 237), .lit (.int .i64 211), .lit (.int .i64 245), .lit (.int .i64 92), .lit (.int .i64 26), .lit (.int .i64 99), .lit (.int .i64 18), .lit (.int .i64 88), .lit (.int .i64 214), .lit (.int .i64 156), .lit (.int .i64 247), .lit (.int .i64 162), .lit (.int .i64 222), .lit (.int .i64 249), .lit (.int .i64 222), .lit (.int .i64 20), .lit (.int .i64 0), .lit (.int .i64 0), .lit (.int .i64 0), .lit (.int .i64 0), .lit (.int .i64 0), .lit (.int .i64 0), .lit (.int .i64 0), .lit (.int .i64 0), .lit (.int .i64 0), .lit (.int .i64 0), .lit (.int .i64 0), .lit (.int .i64 0), .lit (.int .i64 0), .lit (.int .i64 0), .lit (.int .i64 0), .lit (.int .i64 16)]
def laid_portcullis_portcullisref3_d {H : Type} : DataW H := .agg [.lit (.int .i64 30883), .lit (.int .i64 4953), .lit (.int .i64 19914), .lit (.int .i64 30187), .lit (.int .i64 55467), .lit (.int .i64 16705), .lit (.int .i64 2637), .lit (.int .i64 112), .lit (.int .i64 59544), .lit (.int .i64 30585), .lit (.int .i64 16505), .lit (.int .i64 36039), .lit (.int .i64 65139), .lit (.int .i64 11119), .lit (.int .i64 27886), .lit (.int .i64 20995)]
def laid_portcullis_portcullisref3_baseX {H : Type} : DataW H := .agg [.lit (.int .i64 54554), .lit (.int .i64 36645), .lit (.int .i64 11616), .lit (.int .i64 51542), .lit (.int .i64 42930), .lit (.int .i64 38181), .lit (.int .i64 51040), .lit (.int .i64 26924), .lit (.int .i64 56412), .lit (.int .i64 64982), .lit (.int .i64 57905), .lit (.int .i64 49316), .lit (.int .i64 21502), .lit (.int .i64 52590), .lit (.int .i64 14035), .lit (.int .i64 8553)]
def laid_portcullis_portcullisref3_baseY {H : Type} : DataW H := .agg [.lit (.int .i64 26200), .lit (.int .i64 26214), .lit (.int .i64 26214), .lit (.int .i64 26214), .lit (.int .i64 26214), .lit (.int .i64 26214), .lit (.int .i64 26214), .lit (.int .i64 26214), .lit (.int .i64 26214), .lit (.int .i64 26214), .lit (.int .i64 26214), .lit (.int .i64 26214), .lit (.int .i64 26214), .lit (.int .i64 26214), .lit (.int .i64 26214), .lit (.int .i64 26214)]
def laid_portcullis_scalar_tail {H : Type} : DataW H := .agg [.lit (.int .i64 217437165), .lit (.int .i64 19280293), .lit (.int .i64 127719000), .lit (.int .i64 262007343), .lit (.int .i64 5342)]
def laid_portcullis_shb_roots {H : Type} : DataW H := .agg [.lit (.int .u64 4794697086780616226), .lit (.int .u64 8158064640168781261), .lit (.int .u64 13096744586834688815), .lit (.int .u64 16840607885511220156), .lit (.int .u64 4131703408338449720), .lit (.int .u64 6480981068601479193), .lit (.int .u64 10538285296894168987), .lit (.int .u64 12329834152419229976), .lit (.int .u64 15566598209576043074), .lit (.int .u64 1334009975649890238), .lit (.int .u64 2608012711638119052), .lit (.int .u64 6128411473006802146), .lit (.int .u64 8268148722764581231), .lit (.int .u64 9286055187155687089), .lit (.int .u64 11230858885718282805), .lit (.int .u64 13951009754708518548), .lit (.int .u64 16472876342353939154), .lit (.int .u64 17275323862435702243), .lit (.int .u64 1135362057144423861), .lit (.int .u64 2597628984639134821), .lit (.int .u64 3308224258029322869), .lit (.int .u64 5365058923640841347), .lit (.int .u64 6679025012923562964), .lit (.int .u64 8573033837759648693), .lit (.int .u64 10970295158949994411), .lit (.int .u64 12119686244451234320), .lit (.int .u64 12683024718118986047), .lit (.int .u64 13788192230050041572), .lit (.int .u64 14330467153632333762), .lit (.int .u64 15395433587784984357), .lit (.int .u64 489312712824947311), .lit (.int .u64 1452737877330783856), .lit (.int .u64 2861767655752347644), .lit (.int .u64 3322285676063803686), .lit (.int .u64 5560940570517711597), .lit (.int .u64 5996557281743188959), .lit (.int .u64 7280758554555802590), .lit (.int .u64 8532644243296465576), .lit (.int .u64 9350256976987008742), .lit (.int .u64 10552545826968843579), .lit (.int .u64 11727347734174303076), .lit (.int .u64 12113106623233404929), .lit (.int .u64 14000437183269869457), .lit (.int .u64 14369950271660146224), .lit (.int .u64 15101387698204529176), .lit (.int .u64 15463397548674623760), .lit (.int .u64 17586052441742319658), .lit (.int .u64 1182934255886127544), .lit (.int .u64 1847814050463011016), .lit (.int .u64 2177327727835720531), .lit (.int .u64 2830643537854262169), .lit (.int .u64 3796741975233480872), .lit (.int .u64 4115178125766777443), .lit (.int .u64 5681478168544905931), .lit (.int .u64 6601373596472566643), .lit (.int .u64 7507060721942968483), .lit (.int .u64 8399075790359081724), .lit (.int .u64 8693463985226723168), .lit (.int .u64 9568029438360202098), .lit (.int .u64 10144078919501101548), .lit (.int .u64 10430055236837252648), .lit (.int .u64 11840083180663258601), .lit (.int .u64 13761210420658862357), .lit (.int .u64 14299343276471374635), .lit (.int .u64 14566680578165727644), .lit (.int .u64 15097957966210449927), .lit (.int .u64 16922976911328602910), .lit (.int .u64 17689382322260857208), .lit (.int .u64 500013540394364858), .lit (.int .u64 748580250866718886), .lit (.int .u64 1242879168328830382), .lit (.int .u64 1977374033974150939), .lit (.int .u64 2944078676154940804), .lit (.int .u64 3659926193048069267), .lit (.int .u64 4368137639120453308), .lit (.int .u64 4836135668995329356), .lit (.int .u64 5532061633213252278), .lit (.int .u64 6448918945643986474), .lit (.int .u64 6902733635092675308), .lit (.int .u64 7801388544844847127)]
def laid_portcullis_curve_d {H : Type} : DataW H := .agg [.lit (.int .u8 163), .lit (.int .u8 120), .lit (.int .u8 89), .lit (.int .u8 19), .lit (.int .u8 202), .lit (.int .u8 77), .lit (.int .u8 235), .lit (.int .u8 117), .lit (.int .u8 171), .lit (.int .u8 216), .lit (.int .u8 65), .lit (.int .u8 65), .lit (.int .u8 77), .lit (.int .u8 10), .lit (.int .u8 112), .lit (.int .u8 0), .lit (.int .u8 152), .lit (.int .u8 232), .lit (.int .u8 121), .lit (.int .u8 119), .lit (.int .u8 121), .lit (.int .u8 64), .lit (.int .u8 199), .lit (.int .u8 140), .lit (.int .u8 115), .lit (.int .u8 254), .lit (.int .u8 111), .lit (.int .u8 43), .lit (.int .u8 238), .lit (.int .u8 108), .lit (.int .u8 3), .lit (.int .u8 82)]

/-- 'portcullislaw16.CertSigns': WHATEVER THE INPUT: true; the input reads as it did. -/
def certSignsSpec : ChangeSpec := { name := "certSigns", fn := fun _ => fun
  | [d1, d2, d3] => { results := [.lit (.bool true)], args := [d1, d2, d3] }
  | _ => none }
def certSignsRow : OpenClaim := { program := "ythafgicndklgfaagreatdoor", sum := "3b4b06d3c1bf93a601f2def021d20317b8040b9550fbd3a2159f0f160f4c0838", func := "portcullis/portcullislaw16.CertSigns", spec := "certSigns", inPlace := ["math/bits.Add64"], named := ["portcullis/portcullisref1.k512", "portcullis/portcullisref3.baseX", "portcullis/portcullisref3.baseY", "portcullis/portcullisref3.d", "portcullis/curve.d", "portcullis/shb.roots", "portcullis/scalar.tail", "portcullis/portcullisref3.rootOfMinusOne", "portcullis/portcullisref3.order"], apart := false, laid := [("portcullis/portcullisref1.k512", laid_portcullis_portcullisref1_k512), ("portcullis/portcullisref3.rootOfMinusOne", laid_portcullis_portcullisref3_rootOfMinusOne), ("portcullis/portcullisref3.order", laid_portcullis_portcullisref3_order), ("portcullis/portcullisref3.d", laid_portcullis_portcullisref3_d), ("portcullis/portcullisref3.baseX", laid_portcullis_portcullisref3_baseX), ("portcullis/portcullisref3.baseY", laid_portcullis_portcullisref3_baseY), ("portcullis/scalar.tail", laid_portcullis_scalar_tail), ("portcullis/shb.roots", laid_portcullis_shb_roots), ("portcullis/curve.d", laid_portcullis_curve_d)] }
def CertSignsSaid : Prop := certSignsRow.holds Tryz.pinned (OpenSpec.ofChange certSignsSpec)

/-- ITS FALSE NEIGHBOUR: 'it returns false'. Refute it at one input. -/
def certSignsWrong : ChangeSpec := { name := "certSigns", fn := fun _ => fun
  | [d1, d2, d3] => { results := [.lit (.bool false)], args := [d1, d2, d3] }
  | _ => none }
def CertSignsWrongFalsely : Prop := certSignsRow.holds Tryz.pinned (OpenSpec.ofChange certSignsWrong)

/-- 'portcullislaw16.CertChecks': WHATEVER THE INPUT: true; the input reads as it did. -/
def certChecksSpec : ChangeSpec := { name := "certChecks", fn := fun _ => fun
  | [d1, d2, d3] => { results := [.lit (.bool true)], args := [d1, d2, d3] }
  | _ => none }
def certChecksRow : OpenClaim := { program := "ythafgicndklgfaagreatdoor", sum := "3b4b06d3c1bf93a601f2def021d20317b8040b9550fbd3a2159f0f160f4c0838", func := "portcullis/portcullislaw16.CertChecks", spec := "certChecks", inPlace := ["math/bits.Add64"], named := ["portcullis/portcullisref1.k512", "portcullis/portcullisref3.baseX", "portcullis/portcullisref3.baseY", "portcullis/portcullisref3.d", "portcullis/curve.d", "portcullis/shb.roots", "portcullis/scalar.tail", "portcullis/portcullisref3.rootOfMinusOne", "portcullis/portcullisref3.order"], apart := false, laid := [("portcullis/portcullisref1.k512", laid_portcullis_portcullisref1_k512), ("portcullis/portcullisref3.rootOfMinusOne", laid_portcullis_portcullisref3_rootOfMinusOne), ("portcullis/portcullisref3.order", laid_portcullis_portcullisref3_order), ("portcullis/portcullisref3.d", laid_portcullis_portcullisref3_d), ("portcullis/portcullisref3.baseX", laid_portcullis_portcullisref3_baseX), ("portcullis/portcullisref3.baseY", laid_portcullis_portcullisref3_baseY), ("portcullis/scalar.tail", laid_portcullis_scalar_tail), ("portcullis/shb.roots", laid_portcullis_shb_roots), ("portcullis/curve.d", laid_portcullis_curve_d)] }
def CertChecksSaid : Prop := certChecksRow.holds Tryz.pinned (OpenSpec.ofChange certChecksSpec)

/-- ITS FALSE NEIGHBOUR: 'it returns false'. Refute it at one input. -/
def certChecksWrong : ChangeSpec := { name := "certChecks", fn := fun _ => fun
  | [d1, d2, d3] => { results := [.lit (.bool false)], args := [d1, d2, d3] }
  | _ => none }
def CertChecksWrongFalsely : Prop := certChecksRow.holds Tryz.pinned (OpenSpec.ofChange certChecksWrong)

/-- 'portcullislaw16.CertStops': WHATEVER THE INPUT: true; the input reads as it did. -/
def certStopsSpec : ChangeSpec := { name := "certStops", fn := fun _ => fun
  | [d1, d2] => { results := [.lit (.bool true)], args := [d1, d2] }
  | _ => none }
def certStopsRow : OpenClaim := { program := "ythafgicndklgfaagreatdoor", sum := "3b4b06d3c1bf93a601f2def021d20317b8040b9550fbd3a2159f0f160f4c0838", func := "portcullis/portcullislaw16.CertStops", spec := "certStops", inPlace := ["math/bits.Add64"], named := ["portcullis/portcullisref1.k512", "portcullis/portcullisref3.baseX", "portcullis/portcullisref3.baseY", "portcullis/portcullisref3.d", "portcullis/curve.d", "portcullis/shb.roots", "portcullis/scalar.tail", "portcullis/portcullisref3.order"], apart := false, laid := [("portcullis/portcullisref1.k512", laid_portcullis_portcullisref1_k512), ("portcullis/portcullisref3.order", laid_portcullis_portcullisref3_order), ("portcullis/portcullisref3.d", laid_portcullis_portcullisref3_d), ("portcullis/portcullisref3.baseX", laid_portcullis_portcullisref3_baseX), ("portcullis/portcullisref3.baseY", laid_portcullis_portcullisref3_baseY), ("portcullis/scalar.tail", laid_portcullis_scalar_tail), ("portcullis/shb.roots", laid_portcullis_shb_roots), ("portcullis/curve.d", laid_portcullis_curve_d)] }
def CertStopsSaid : Prop := certStopsRow.holds Tryz.pinned (OpenSpec.ofChange certStopsSpec)

/-- ITS FALSE NEIGHBOUR: 'it returns false'. Refute it at one input. -/
def certStopsWrong : ChangeSpec := { name := "certStops", fn := fun _ => fun
  | [d1, d2] => { results := [.lit (.bool false)], args := [d1, d2] }
  | _ => none }
def CertStopsWrongFalsely : Prop := certStopsRow.holds Tryz.pinned (OpenSpec.ofChange certStopsWrong)

/-- 'portcullislaw16.CertReads': WHATEVER THE INPUT: true; the input reads as it did. -/
def certReadsSpec : ChangeSpec := { name := "certReads", fn := fun _ => fun
  | [d1, d2] => { results := [.lit (.bool true)], args := [d1, d2] }
  | _ => none }
def certReadsRow : OpenClaim := { program := "ythafgicndklgfaagreatdoor", sum := "3b4b06d3c1bf93a601f2def021d20317b8040b9550fbd3a2159f0f160f4c0838", func := "portcullis/portcullislaw16.CertReads", spec := "certReads", inPlace := ["math/bits.Add64"], named := ["portcullis/portcullisref1.k512", "portcullis/portcullisref3.baseX", "portcullis/portcullisref3.baseY", "portcullis/portcullisref3.d", "portcullis/curve.d", "portcullis/shb.roots", "portcullis/scalar.tail"], apart := false, laid := [("portcullis/portcullisref1.k512", laid_portcullis_portcullisref1_k512), ("portcullis/portcullisref3.d", laid_portcullis_portcullisref3_d), ("portcullis/portcullisref3.baseX", laid_portcullis_portcullisref3_baseX), ("portcullis/portcullisref3.baseY", laid_portcullis_portcullisref3_baseY), ("portcullis/scalar.tail", laid_portcullis_scalar_tail), ("portcullis/shb.roots", laid_portcullis_shb_roots), ("portcullis/curve.d", laid_portcullis_curve_d)] }
def CertReadsSaid : Prop := certReadsRow.holds Tryz.pinned (OpenSpec.ofChange certReadsSpec)

/-- ITS FALSE NEIGHBOUR: 'it returns false'. Refute it at one input. -/
def certReadsWrong : ChangeSpec := { name := "certReads", fn := fun _ => fun
  | [d1, d2] => { results := [.lit (.bool false)], args := [d1, d2] }
  | _ => none }
def CertReadsWrongFalsely : Prop := certReadsRow.holds Tryz.pinned (OpenSpec.ofChange certReadsWrong)

/-- 'portcullislaw16.CertTurned': WHATEVER THE INPUT: true; the input reads as it did. -/
def certTurnedSpec : ChangeSpec := { name := "certTurned", fn := fun _ => fun
  | [d1, d2, d3, d4, d5] => { results := [.lit (.bool true)], args := [d1, d2, d3, d4, d5] }
  | _ => none }
def certTurnedRow : OpenClaim := { program := "ythafgicndklgfaagreatdoor", sum := "3b4b06d3c1bf93a601f2def021d20317b8040b9550fbd3a2159f0f160f4c0838", func := "portcullis/portcullislaw16.CertTurned", spec := "certTurned", inPlace := ["math/bits.Add64"], named := ["portcullis/portcullisref1.k512", "portcullis/portcullisref3.baseX", "portcullis/portcullisref3.baseY", "portcullis/portcullisref3.d", "portcullis/curve.d", "portcullis/shb.roots", "portcullis/scalar.tail", "portcullis/portcullisref3.rootOfMinusOne", "portcullis/portcullisref3.order"], apart := false, laid := [("portcullis/portcullisref1.k512", laid_portcullis_portcullisref1_k512), ("portcullis/portcullisref3.rootOfMinusOne", laid_portcullis_portcullisref3_rootOfMinusOne), ("portcullis/portcullisref3.order", laid_portcullis_portcullisref3_order), ("portcullis/portcullisref3.d", laid_portcullis_portcullisref3_d), ("portcullis/portcullisref3.baseX", laid_portcullis_portcullisref3_baseX), ("portcullis/portcullisref3.baseY", laid_portcullis_portcullisref3_baseY), ("portcullis/scalar.tail", laid_portcullis_scalar_tail), ("portcullis/shb.roots", laid_portcullis_shb_roots), ("portcullis/curve.d", laid_portcullis_curve_d)] }
def CertTurnedSaid : Prop := certTurnedRow.holds Tryz.pinned (OpenSpec.ofChange certTurnedSpec)

/-- ITS FALSE NEIGHBOUR: 'it returns false'. Refute it at one input. -/
def certTurnedWrong : ChangeSpec := { name := "certTurned", fn := fun _ => fun
  | [d1, d2, d3, d4, d5] => { results := [.lit (.bool false)], args := [d1, d2, d3, d4, d5] }
  | _ => none }
def CertTurnedWrongFalsely : Prop := certTurnedRow.holds Tryz.pinned (OpenSpec.ofChange certTurnedWrong)

/-- 'portcullislaw16.CertNone': WHATEVER THE INPUT: true; the input reads as it did. -/
def certNoneSpec : ChangeSpec := { name := "certNone", fn := fun _ => fun
  | [d] => { results := [.lit (.bool true)], args := [d] }
  | _ => none }
def certNoneRow : OpenClaim := { program := "ythafgicndklgfaagreatdoor", sum := "3b4b06d3c1bf93a601f2def021d20317b8040b9550fbd3a2159f0f160f4c0838", func := "portcullis/portcullislaw16.CertNone", spec := "certNone", inPlace := ["math/bits.Add64"], named := ["portcullis/portcullisref1.k512", "portcullis/portcullisref3.baseX", "portcullis/portcullisref3.baseY", "portcullis/portcullisref3.d", "portcullis/curve.d", "portcullis/shb.roots", "portcullis/scalar.tail", "portcullis/portcullisref3.rootOfMinusOne"], apart := false, laid := [("portcullis/portcullisref1.k512", laid_portcullis_portcullisref1_k512), ("portcullis/portcullisref3.rootOfMinusOne", laid_portcullis_portcullisref3_rootOfMinusOne), ("portcullis/portcullisref3.d", laid_portcullis_portcullisref3_d), ("portcullis/portcullisref3.baseX", laid_portcullis_portcullisref3_baseX), ("portcullis/portcullisref3.baseY", laid_portcullis_portcullisref3_baseY), ("portcullis/scalar.tail", laid_portcullis_scalar_tail), ("portcullis/shb.roots", laid_portcullis_shb_roots), ("portcullis/curve.d", laid_portcullis_curve_d)] }
def CertNoneSaid : Prop := certNoneRow.holds Tryz.pinned (OpenSpec.ofChange certNoneSpec)

/-- ITS FALSE NEIGHBOUR: 'it returns false'. Refute it at one input. -/
def certNoneWrong : ChangeSpec := { name := "certNone", fn := fun _ => fun
  | [d] => { results := [.lit (.bool false)], args := [d] }
  | _ => none }
def CertNoneWrongFalsely : Prop := certNoneRow.holds Tryz.pinned (OpenSpec.ofChange certNoneWrong)

/-- 'portcullislaw16.CertBytes': WHATEVER THE INPUT: true; the input reads as it did. -/
def certBytesSpec : ChangeSpec := { name := "certBytes", fn := fun _ => fun
  | [d1, d2, d3, d4] => { results := [.lit (.bool true)], args := [d1, d2, d3, d4] }
  | _ => none }
def certBytesRow : OpenClaim := { program := "ythafgicndklgfaagreatdoor", sum := "3b4b06d3c1bf93a601f2def021d20317b8040b9550fbd3a2159f0f160f4c0838", func := "portcullis/portcullislaw16.CertBytes", spec := "certBytes", inPlace := ["math/bits.Add64"], named := ["portcullis/portcullisref1.k512", "portcullis/portcullisref3.baseX", "portcullis/portcullisref3.baseY", "portcullis/portcullisref3.d", "portcullis/curve.d", "portcullis/shb.roots", "portcullis/scalar.tail"], apart := false, laid := [("portcullis/portcullisref1.k512", laid_portcullis_portcullisref1_k512), ("portcullis/portcullisref3.d", laid_portcullis_portcullisref3_d), ("portcullis/portcullisref3.baseX", laid_portcullis_portcullisref3_baseX), ("portcullis/portcullisref3.baseY", laid_portcullis_portcullisref3_baseY), ("portcullis/scalar.tail", laid_portcullis_scalar_tail), ("portcullis/shb.roots", laid_portcullis_shb_roots), ("portcullis/curve.d", laid_portcullis_curve_d)] }
def CertBytesSaid : Prop := certBytesRow.holds Tryz.pinned (OpenSpec.ofChange certBytesSpec)

/-- ITS FALSE NEIGHBOUR: 'it returns false'. Refute it at one input. -/
def certBytesWrong : ChangeSpec := { name := "certBytes", fn := fun _ => fun
  | [d1, d2, d3, d4] => { results := [.lit (.bool false)], args := [d1, d2, d3, d4] }
  | _ => none }
def CertBytesWrongFalsely : Prop := certBytesRow.holds Tryz.pinned (OpenSpec.ofChange certBytesWrong)

/- THE SECOND FORM. 'bulk': how many values and letters a reading holds, each counted each time it is reached (what is shared counts as often as it is met; a slice's spare places count too). A statement '..UptoSaid' is the law's where the arguments, and the package variables that the reading takes, are together of bulk at most 1048576: NARROWER than '..Said'. Prove '..Said' where nothing that the law and all that it calls make is longer than what came in: it says more and counts as full. Else prove '..UptoSaid'. A law counts once. -/
mutual
def uptoBulk {H : Type} : DataW H → Nat
  | .lit (.string bytes) => bytes.length + 1
  | .lit _ => 1
  | .nil => 1
  | .ptr d => uptoBulk d + 1
  | .slice elems spare => uptoBulkAll elems + uptoBulkAll spare + 1
  | .agg parts => uptoBulkAll parts + 1
  | .iface _ d => uptoBulk d + 1
  | .map entries => uptoBulkEntries entries + 1
  | .held _ => 1
def uptoBulkAll {H : Type} : List (DataW H) → Nat
  | [] => 0
  | d :: r => uptoBulk d + uptoBulkAll r
def uptoBulkEntries {H : Type} : List (Lit × DataW H) → Nat
  | [] => 0
  | x :: r => uptoBulkEntry x + uptoBulkEntries r
def uptoBulkEntry {H : Type} : Lit × DataW H → Nat
  | (.string bytes, d) => bytes.length + uptoBulk d + 1
  | (_, d) => uptoBulk d + 1
 end
def uptoSmall : (H : Type) → List (DataW H) → Bool := fun _ ds => decide (uptoBulkAll ds ≤ 1048576)
def OpenSpec.upto (s : _root_.Go.ChangeSpec) : _root_.Go.OpenSpec := { _root_.Go.OpenSpec.ofChange s with cond := some uptoSmall }

/-- 'portcullislaw16.CertSigns', WHERE WHAT IT READS IS OF BULK AT MOST 1048576: true; the input reads as it did. -/
def certSignsUptoRow : OpenClaim := { program := "ythafgicndklgfaagreatdoor", sum := "3b4b06d3c1bf93a601f2def021d20317b8040b9550fbd3a2159f0f160f4c0838", func := "portcullis/portcullislaw16.CertSigns", spec := "certSigns", inPlace := ["math/bits.Add64"], named := ["portcullis/portcullisref1.k512", "portcullis/portcullisref3.baseX", "portcullis/portcullisref3.baseY", "portcullis/portcullisref3.d", "portcullis/curve.d", "portcullis/shb.roots", "portcullis/scalar.tail", "portcullis/portcullisref3.rootOfMinusOne", "portcullis/portcullisref3.order"], apart := false, laid := [("portcullis/portcullisref1.k512", laid_portcullis_portcullisref1_k512), ("portcullis/portcullisref3.rootOfMinusOne", laid_portcullis_portcullisref3_rootOfMinusOne), ("portcullis/portcullisref3.order", laid_portcullis_portcullisref3_order), ("portcullis/portcullisref3.d", laid_portcullis_portcullisref3_d), ("portcullis/portcullisref3.baseX", laid_portcullis_portcullisref3_baseX), ("portcullis/portcullisref3.baseY", laid_portcullis_portcullisref3_baseY), ("portcullis/scalar.tail", laid_portcullis_scalar_tail), ("portcullis/shb.roots", laid_portcullis_shb_roots), ("portcullis/curve.d", laid_portcullis_curve_d)], narrowed := true }
def CertSignsUptoSaid : Prop := certSignsUptoRow.holds Tryz.pinned (OpenSpec.upto certSignsSpec)

/-- 'portcullislaw16.CertChecks', WHERE WHAT IT READS IS OF BULK AT MOST 1048576: true; the input reads as it did. -/
def certChecksUptoRow : OpenClaim := { program := "ythafgicndklgfaagreatdoor", sum := "3b4b06d3c1bf93a601f2def021d20317b8040b9550fbd3a2159f0f160f4c0838", func := "portcullis/portcullislaw16.CertChecks", spec := "certChecks", inPlace := ["math/bits.Add64"], named := ["portcullis/portcullisref1.k512", "portcullis/portcullisref3.baseX", "portcullis/portcullisref3.baseY", "portcullis/portcullisref3.d", "portcullis/curve.d", "portcullis/shb.roots", "portcullis/scalar.tail", "portcullis/portcullisref3.rootOfMinusOne", "portcullis/portcullisref3.order"], apart := false, laid := [("portcullis/portcullisref1.k512", laid_portcullis_portcullisref1_k512), ("portcullis/portcullisref3.rootOfMinusOne", laid_portcullis_portcullisref3_rootOfMinusOne), ("portcullis/portcullisref3.order", laid_portcullis_portcullisref3_order), ("portcullis/portcullisref3.d", laid_portcullis_portcullisref3_d), ("portcullis/portcullisref3.baseX", laid_portcullis_portcullisref3_baseX), ("portcullis/portcullisref3.baseY", laid_portcullis_portcullisref3_baseY), ("portcullis/scalar.tail", laid_portcullis_scalar_tail), ("portcullis/shb.roots", laid_portcullis_shb_roots), ("portcullis/curve.d", laid_portcullis_curve_d)], narrowed := true }
def CertChecksUptoSaid : Prop := certChecksUptoRow.holds Tryz.pinned (OpenSpec.upto certChecksSpec)

/-- 'portcullislaw16.CertStops', WHERE WHAT IT READS IS OF BULK AT MOST 1048576: true; the input reads as it did. -/
def certStopsUptoRow : OpenClaim := { program := "ythafgicndklgfaagreatdoor", sum := "3b4b06d3c1bf93a601f2def021d20317b8040b9550fbd3a2159f0f160f4c0838", func := "portcullis/portcullislaw16.CertStops", spec := "certStops", inPlace := ["math/bits.Add64"], named := ["portcullis/portcullisref1.k512", "portcullis/portcullisref3.baseX", "portcullis/portcullisref3.baseY", "portcullis/portcullisref3.d", "portcullis/curve.d", "portcullis/shb.roots", "portcullis/scalar.tail", "portcullis/portcullisref3.order"], apart := false, laid := [("portcullis/portcullisref1.k512", laid_portcullis_portcullisref1_k512), ("portcullis/portcullisref3.order", laid_portcullis_portcullisref3_order), ("portcullis/portcullisref3.d", laid_portcullis_portcullisref3_d), ("portcullis/portcullisref3.baseX", laid_portcullis_portcullisref3_baseX), ("portcullis/portcullisref3.baseY", laid_portcullis_portcullisref3_baseY), ("portcullis/scalar.tail", laid_portcullis_scalar_tail), ("portcullis/shb.roots", laid_portcullis_shb_roots), ("portcullis/curve.d", laid_portcullis_curve_d)], narrowed := true }
def CertStopsUptoSaid : Prop := certStopsUptoRow.holds Tryz.pinned (OpenSpec.upto certStopsSpec)

/-- 'portcullislaw16.CertReads', WHERE WHAT IT READS IS OF BULK AT MOST 1048576: true; the input reads as it did. -/
def certReadsUptoRow : OpenClaim := { program := "ythafgicndklgfaagreatdoor", sum := "3b4b06d3c1bf93a601f2def021d20317b8040b9550fbd3a2159f0f160f4c0838", func := "portcullis/portcullislaw16.CertReads", spec := "certReads", inPlace := ["math/bits.Add64"], named := ["portcullis/portcullisref1.k512", "portcullis/portcullisref3.baseX", "portcullis/portcullisref3.baseY", "portcullis/portcullisref3.d", "portcullis/curve.d", "portcullis/shb.roots", "portcullis/scalar.tail"], apart := false, laid := [("portcullis/portcullisref1.k512", laid_portcullis_portcullisref1_k512), ("portcullis/portcullisref3.d", laid_portcullis_portcullisref3_d), ("portcullis/portcullisref3.baseX", laid_portcullis_portcullisref3_baseX), ("portcullis/portcullisref3.baseY", laid_portcullis_portcullisref3_baseY), ("portcullis/scalar.tail", laid_portcullis_scalar_tail), ("portcullis/shb.roots", laid_portcullis_shb_roots), ("portcullis/curve.d", laid_portcullis_curve_d)], narrowed := true }
def CertReadsUptoSaid : Prop := certReadsUptoRow.holds Tryz.pinned (OpenSpec.upto certReadsSpec)

/-- 'portcullislaw16.CertTurned', WHERE WHAT IT READS IS OF BULK AT MOST 1048576: true; the input reads as it did. -/
def certTurnedUptoRow : OpenClaim := { program := "ythafgicndklgfaagreatdoor", sum := "3b4b06d3c1bf93a601f2def021d20317b8040b9550fbd3a2159f0f160f4c0838", func := "portcullis/portcullislaw16.CertTurned", spec := "certTurned", inPlace := ["math/bits.Add64"], named := ["portcullis/portcullisref1.k512", "portcullis/portcullisref3.baseX", "portcullis/portcullisref3.baseY", "portcullis/portcullisref3.d", "portcullis/curve.d", "portcullis/shb.roots", "portcullis/scalar.tail", "portcullis/portcullisref3.rootOfMinusOne", "portcullis/portcullisref3.order"], apart := false, laid := [("portcullis/portcullisref1.k512", laid_portcullis_portcullisref1_k512), ("portcullis/portcullisref3.rootOfMinusOne", laid_portcullis_portcullisref3_rootOfMinusOne), ("portcullis/portcullisref3.order", laid_portcullis_portcullisref3_order), ("portcullis/portcullisref3.d", laid_portcullis_portcullisref3_d), ("portcullis/portcullisref3.baseX", laid_portcullis_portcullisref3_baseX), ("portcullis/portcullisref3.baseY", laid_portcullis_portcullisref3_baseY), ("portcullis/scalar.tail", laid_portcullis_scalar_tail), ("portcullis/shb.roots", laid_portcullis_shb_roots), ("portcullis/curve.d", laid_portcullis_curve_d)], narrowed := true }
def CertTurnedUptoSaid : Prop := certTurnedUptoRow.holds Tryz.pinned (OpenSpec.upto certTurnedSpec)

/-- 'portcullislaw16.CertNone', WHERE WHAT IT READS IS OF BULK AT MOST 1048576: true; the input reads as it did. -/
def certNoneUptoRow : OpenClaim := { program := "ythafgicndklgfaagreatdoor", sum := "3b4b06d3c1bf93a601f2def021d20317b8040b9550fbd3a2159f0f160f4c0838", func := "portcullis/portcullislaw16.CertNone", spec := "certNone", inPlace := ["math/bits.Add64"], named := ["portcullis/portcullisref1.k512", "portcullis/portcullisref3.baseX", "portcullis/portcullisref3.baseY", "portcullis/portcullisref3.d", "portcullis/curve.d", "portcullis/shb.roots", "portcullis/scalar.tail", "portcullis/portcullisref3.rootOfMinusOne"], apart := false, laid := [("portcullis/portcullisref1.k512", laid_portcullis_portcullisref1_k512), ("portcullis/portcullisref3.rootOfMinusOne", laid_portcullis_portcullisref3_rootOfMinusOne), ("portcullis/portcullisref3.d", laid_portcullis_portcullisref3_d), ("portcullis/portcullisref3.baseX", laid_portcullis_portcullisref3_baseX), ("portcullis/portcullisref3.baseY", laid_portcullis_portcullisref3_baseY), ("portcullis/scalar.tail", laid_portcullis_scalar_tail), ("portcullis/shb.roots", laid_portcullis_shb_roots), ("portcullis/curve.d", laid_portcullis_curve_d)], narrowed := true }
def CertNoneUptoSaid : Prop := certNoneUptoRow.holds Tryz.pinned (OpenSpec.upto certNoneSpec)

/-- 'portcullislaw16.CertBytes', WHERE WHAT IT READS IS OF BULK AT MOST 1048576: true; the input reads as it did. -/
def certBytesUptoRow : OpenClaim := { program := "ythafgicndklgfaagreatdoor", sum := "3b4b06d3c1bf93a601f2def021d20317b8040b9550fbd3a2159f0f160f4c0838", func := "portcullis/portcullislaw16.CertBytes", spec := "certBytes", inPlace := ["math/bits.Add64"], named := ["portcullis/portcullisref1.k512", "portcullis/portcullisref3.baseX", "portcullis/portcullisref3.baseY", "portcullis/portcullisref3.d", "portcullis/curve.d", "portcullis/shb.roots", "portcullis/scalar.tail"], apart := false, laid := [("portcullis/portcullisref1.k512", laid_portcullis_portcullisref1_k512), ("portcullis/portcullisref3.d", laid_portcullis_portcullisref3_d), ("portcullis/portcullisref3.baseX", laid_portcullis_portcullisref3_baseX), ("portcullis/portcullisref3.baseY", laid_portcullis_portcullisref3_baseY), ("portcullis/scalar.tail", laid_portcullis_scalar_tail), ("portcullis/shb.roots", laid_portcullis_shb_roots), ("portcullis/curve.d", laid_portcullis_curve_d)], narrowed := true }
def CertBytesUptoSaid : Prop := certBytesUptoRow.holds Tryz.pinned (OpenSpec.upto certBytesSpec)

end Rows
end Go.Proofs.YthafgicndklgfaaGreatDoor
