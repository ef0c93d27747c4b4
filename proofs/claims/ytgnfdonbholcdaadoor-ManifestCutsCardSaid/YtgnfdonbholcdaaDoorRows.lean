/-
  NARROWER THAN 'FOR EVERY INPUT', by the rows' own cells (each row's printed sentence says how): ManifestCuts: laid.
  DERIVED. THE GIVEN ROWS OF THIS SEAT. 1 by the template 'for every input the law returns true; each argument reads behind the call as it read before'; 0 by the template 'total and deterministic' (their statements: YtgnfdonbholcdaaDoorTotals.lean).
  GIVEN WITH THE SEED: the statements are not yours to turn. If you find one false, say at which input.
  Laid BY PROGRAM, IN A SANDBOX (cutbox-rows.mjs): the forced cells as the released guide's own fill.sh prints them over the translation 50f603198819afb3… (all of the seat's roots in one cut). By AI agents, Wed Nov 11 2026. No macro, syntax, notation, axiom, sorry.
-/
import Derived.Test.YtgnfdonbholcdaaDoorChecked
import GoSem.Claim
import GoSem.ClaimJoined
import GoSem.ClaimMapViews
import Derived.JoinedTies
import Derived.KernelRfl
namespace Go.Proofs.YtgnfdonbholcdaaDoor
/- THE CELL 'sum', in the pinned program and in every row, IS THE sha256 OF THE DUMP (.gsa) THAT YtgnfdonbholcdaaDoorProg.lean LOADS. Nothing in Lean hashes anything: it is a label: what it is worth is what the hold of that sum in a sandbox is worth. -/
noncomputable def Tryd.pinned : Pinned := { name := "ytgnfdonbholcdaadoor", sum := "50f603198819afb3ee908b0010d52285a097bbbeabd875d714d1ce4bdca776c9", checked := Tryd.checked }
namespace Rows
def none {H : Type} : Left H := { results := [], args := [] }

/- WHAT THE LISTED PACKAGE-LEVEL VARIABLES READ AS WHEN THE CALL BEGINS. Each datum BY PROGRAM (the guide's laid-datum.mjs) off the statement by which the dump's own 'gosem.cut.vars' lays the variable. In a bare row this is a premise. The card (YtgnfdonbholcdaaDoorCards.lean) ties it to the program's text. -/
def laid_portcullis_portcullisref1_k256 {H : Type} : DataW H := .agg [.lit (.int .u32 1116352408), .lit (.int .u32 1899447441), .lit (.int .u32 3049323471), .lit (.int .u32 3921009573), .lit (.int .u32 961987163), .lit (.int .u32 1508970993), .lit (.int .u32 2453635748), .lit (.int .u32 2870763221), .lit (.int .u32 3624381080), .lit (.int .u32 310598401), .lit (.int .u32 607225278), .lit (.int .u32 1426881987), .lit (.int .u32 1925078388), .lit (.int .u32 2162078206), .lit (.int .u32 2614888103), .lit (.int .u32 3248222580), .lit (.int .u32 3835390401), .lit (.int .u32 4022224774), .lit (.int .u32 264347078), .lit (.int .u32 604807628), .lit (.int .u32 770255983), .lit (.int .u32 1249150122), .lit (.int .u32 1555081692), .lit (.int .u32 1996064986), .lit (.int .u32 2554220882), .lit (.int .u32 2821834349), .lit (.int .u32 2952996808), .lit (.int .u32 3210313671), .lit (.int .u32 3336571891), .lit (.int .u32 3584528711), .lit (.int .u32 113926993), .lit (.int .u32 338241895), .lit (.int .u32 666307205), .lit (.int .u32 773529912), .lit (.int .u32 1294757372), .lit (.int .u32 1396182291), .lit (.int .u32 1695183700), .lit (.int .u32 1986661051), .lit (.int .u32 2177026350), .lit (.int .u32 2456956037), .lit (.int .u32 2730485921), .lit (.int .u32 2820302411), .lit (.int .u32 3259730800), .lit (.int .u32 3345764771), .lit (.int .u32 3516065817), .lit (.int .u32 3600352804), .lit (.int .u32 4094571909), .lit (.int .u32 275423344), .lit (.int .u32 430227734), .lit (.int .u32 506948616), .lit (.int .u32 659060556), .lit (.int .u32 883997877), .lit (.int .u32 958139571), .lit (.int .u32 1322822218), .lit (.int .u32 1537002063), .lit (.int .u32 1747873779), .lit (.int .u32 1955562222), .lit (.int .u32 2024104815), .lit (.int .u32 2227730452), .lit (.int .u32 2361852424), .lit (.int .u32 2428436474), .lit (.int .u32 2756734187), .lit (.int .u32 3204031479), .lit (.int .u32 3329325298)]
def laid_portcullis_portcullisref1_k512 {H : Type} : DataW H := .agg [.lit (.int .u64 4794697086780616226), .lit (.int .u64 8158064640168781261), .lit (.int .u64 13096744586834688815), .lit (.int .u64 16840607885511220156), .lit (.int .u64 4131703408338449720), .lit (.int .u64 6480981068601479193), .lit (.int .u64 10538285296894168987), .lit (.int .u64 12329834152419229976), .lit (.int .u64 15566598209576043074), .lit (.int .u64 1334009975649890238), .lit (.int .u64 2608012711638119052), .lit (.int .u64 6128411473006802146), .lit (.int .u64 8268148722764581231), .lit (.int .u64 9286055187155687089), .lit (.int .u64 11230858885718282805), .lit (.int .u64 13951009754708518548), .lit (.int .u64 16472876342353939154), .lit (.int .u64 17275323862435702243), .lit (.int .u64 1135362057144423861), .lit (.int .u64 2597628984639134821), .lit (.int .u64 3308224258029322869), .lit (.int .u64 5365058923640841347), .lit (.int .u64 6679025012923562964), .lit (.int .u64 8573033837759648693), .lit (.int .u64 10970295158949994411), .lit (.int .u64 12119686244451234320), .lit (.int .u64 12683024718118986047), .lit (.int .u64 13788192230050041572), .lit (.int .u64 14330467153632333762), .lit (.int .u64 15395433587784984357), .lit (.int .u64 489312712824947311), .lit (.int .u64 1452737877330783856), .lit (.int .u64 2861767655752347644), .lit (.int .u64 3322285676063803686), .lit (.int .u64 5560940570517711597), .lit (.int .u64 5996557281743188959), .lit (.int .u64 7280758554555802590), .lit (.int .u64 8532644243296465576), .lit (.int .u64 9350256976987008742), .lit (.int .u64 10552545826968843579), .lit (.int .u64 11727347734174303076), .lit (.int .u64 12113106623233404929), .lit (.int .u64 14000437183269869457), .lit (.int .u64 14369950271660146224), .lit (.int .u64 15101387698204529176), .lit (.int .u64 15463397548674623760), .lit (.int .u64 17586052441742319658), .lit (.int .u64 1182934255886127544), .lit (.int .u64 1847814050463011016), .lit (.int .u64 2177327727835720531), .lit (.int .u64 2830643537854262169), .lit (.int .u64 3796741975233480872), .lit (.int .u64 4115178125766777443), .lit (.int .u64 5681478168544905931), .lit (.int .u64 6601373596472566643), .lit (.int .u64 7507060721942968483), .lit (.int .u64 8399075790359081724), .lit (.int .u64 8693463985226723168), .lit (.int .u64 9568029438360202098), .lit (.int .u64 10144078919501101548), .lit (.int .u64 10430055236837252648), .lit (.int .u64 11840083180663258601), .lit (.int .u64 13761210420658862357), .lit (.int .u64 14299343276471374635), .lit (.int .u64 14566680578165727644), .lit (.int .u64 15097957966210449927), .lit (.int .u64 16922976911328602910), .lit (.int .u64 17689382322260857208), .lit (.int .u64 500013540394364858), .lit (.int .u64 748580250866718886), .lit (.int .u64 1242879168328830382), .lit (.int .u64 1977374033974150939), .lit (.int .u64 2944078676154940804), .lit (.int .u64 3659926193048069267), .lit (.int .u64 4368137639120453308), .lit (.int .u64 4836135668995329356), .lit (.int .u64 5532061633213252278), .lit (.int .u64 6448918945643986474), .lit (.int .u64 6902733635092675308), .lit (.int .u64 7801388544844847127)]
def laid_portcullis_portcullisref3_rootOfMinusOne {H : Type} : DataW H := .agg [.lit (.int .i64 41136), .lit (.int .i64 18958), .lit (.int .i64 6951), .lit (.int .i64 50414), .lit (.int .i64 58488), .lit (.int .i64 44335), .lit (.int .i64 6150), .lit (.int .i64 12099), .lit (.int .i64 55207), .lit (.int .i64 15867), .lit (.int .i64 153), .lit (.int .i64 11085), .lit (.int .i64 57099), .lit (.int .i64 20417), .lit (.int .i64 9344), .lit (.int .i64 11139)]
def laid_portcullis_portcullisref3_order {H : Type} : DataW H := .agg [.lit (.int .i64 237), .lit (.int .i64 211), .lit (.int .i64 245), .lit (.int .i64 92), .lit (.int .i64 26), .lit (.int .i64 99), .lit (.int .i64 18), .lit (.int .i64 88), .lit (.int .i64 214), .lit (.int .i64 156), .lit (.int .i64 247), .lit (.int .i64 162), .lit (.int .i64 222), .lit (.int .i64 249), .lit (.int .i64 222), .lit (.int .i64 20), .lit (.int .i64 0), .lit (.int .i64 0), .lit (.int .i64 0), .lit (.int .i64 0), .lit (.int .i64 0), .lit (.int .i64 0), .lit (.int .i64 0), .lit (.int .i64 0), .lit (.int .i64 0), .lit (.int .i64 0), .lit (.int .i64 0), .lit (.int .i64 0), .lit (.int .i64 0), .lit (.int .i64 0), .lit (.int .i64 0), .lit (.int .i64 16)]
def laid_portcullis_portcullisref3_d {H : Type} : DataW H := .agg [.lit (.int .i64 30883), .lit (.int .i64 4953), .lit (.int .i64 19914), .lit (.int .i64 30187), .lit (.int .i64 55467), .lit (.int .i64 16705), .lit (.int .i64 2637), .lit (.int .i64 112), .lit (.int .i64 59544), .lit (.int .i64 30585), .lit (.int .i64 16505), .lit (.int .i64 36039), .lit (.int .i64 65139), .lit (.int .i64 11119), .lit (.int .i64 27886), .lit (.int .i64 20995)]
def laid_portcullis_portcullisref3_baseX {H : Type} : DataW H := .agg [.lit (.int .i64 54554), .lit (.int .i64 36645), .lit (.int .i64 11616), .lit (.int .i64 51542), .lit (.int .i64 42930), .lit (.int .i64 38181), .lit (.int .i64 51040), .lit (.int .i64 26924), .lit (.int .i64 56412), .lit (.int .i64 64982), .lit (.int .i64 57905), .lit (.int .i64 49316), .lit (.int .i64 21502), .lit (.int .i64 52590), .lit (.int .i64 14035), .lit (.int .i64 8553)]
def laid_portcullis_portcullisref3_baseY {H : Type} : DataW H := .agg [.lit (.int .i64 26200), .lit (.int .i64 26214), .lit (.int .i64 26214), .lit (.int .i64 26214), .lit (.int .i64 26214), .lit (.int .i64 26214), .lit (.int .i64 26214), .lit (.int .i64 26214), .lit (.int .i64 26214), .lit (.int .i64 26214), .lit (.int .i64 26214), .lit (.int .i64 26214), .lit (.int .i64 26214), .lit (.int .i64 26214), .lit (.int .i64 26214), .lit (.int .i64 26214)]

/-- 'portcullislaw17.ManifestCuts': WHATEVER THE INPUT: true; the input reads as it did. -/
def manifestCutsSpec : ChangeSpec := { name := "manifestCuts", fn := fun _ => fun
  | [d1, d2, d3] => { results := [.lit (.bool true)], args := [d1, d2, d3] }
  | _ => none }
def manifestCutsRow : OpenClaim := { program := "ytgnfdonbholcdaadoor", sum := "50f603198819afb3ee908b0010d52285a097bbbeabd875d714d1ce4bdca776c9", func := "portcullis/portcullislaw17.ManifestCuts", spec := "manifestCuts", recurses := true, named := ["portcullis/portcullisref1.k256", "portcullis/portcullisref1.k512", "portcullis/portcullisref3.baseX", "portcullis/portcullisref3.baseY", "portcullis/portcullisref3.d", "portcullis/portcullisref3.rootOfMinusOne", "portcullis/portcullisref3.order"], apart := false, laid := [("portcullis/portcullisref1.k256", laid_portcullis_portcullisref1_k256), ("portcullis/portcullisref1.k512", laid_portcullis_portcullisref1_k512), ("portcullis/portcullisref3.rootOfMinusOne", laid_portcullis_portcullisref3_rootOfMinusOne), ("portcullis/portcullisref3.order", laid_portcullis_portcullisref3_order), ("portcullis/portcullisref3.d", laid_portcullis_portcullisref3_d), ("portcullis/portcullisref3.baseX", laid_portcullis_portcullisref3_baseX), ("portcullis/portcullisref3.baseY", laid_portcullis_portcullisref3_baseY)] }
def ManifestCutsSaid : Prop := manifestCutsRow.holds Tryd.pinned (OpenSpec.ofChange manifestCutsSpec)

/-- ITS FALSE NEIGHBOUR: 'it returns false'. Refute it at one input. -/
def manifestCutsWrong : ChangeSpec := { name := "manifestCuts", fn := fun _ => fun
  | [d1, d2, d3] => { results := [.lit (.bool false)], args := [d1, d2, d3] }
  | _ => none }
def ManifestCutsWrongFalsely : Prop := manifestCutsRow.holds Tryd.pinned (OpenSpec.ofChange manifestCutsWrong)

/- THE SECOND FORM. 'bulk': how many values and letters a reading holds, each counted each time it is reached (what is shared counts as often as it is met; a slice's spare places count too). A statement '..UptoSaid' is the law's where the arguments, and the package variables that the reading takes, are together of bulk at most 1048576: NARROWER than '..Said'. Prove '..Said' where nothing that the law and all that it calls make is longer than what came in: it says more and counts as full. Else prove '..UptoSaid'. A law counts once. -/
mutual
def uptoBulk {H : Type} : DataW H → Nat
  | .lit (.string bytes) => bytes.length + 1
  | .lit _ => 1
  | .nil => 1
  | .ptr d => uptoBulk d + 1
  | .slice elems spare => uptoBulkAll elems + uptoBulkAll spare + 1
  | .agg parts => uptoBulkAll parts + 1
  | .iface _ d => uptoBulk d + 1
  | .map entries => uptoBulkEntries entries + 1
  | .held _ => 1
def uptoBulkAll {H : Type} : List (DataW H) → Nat
  | [] => 0
  | d :: r => uptoBulk d + uptoBulkAll r
def uptoBulkEntries {H : Type} : List (Lit × DataW H) → Nat
  | [] => 0
  | x :: r => uptoBulkEntry x + uptoBulkEntries r
def uptoBulkEntry {H : Type} : Lit × DataW H → Nat
  | (.string bytes, d) => bytes.length + uptoBulk d + 1
  | (_, d) => uptoBulk d + 1
 end
def uptoSmall : (H : Type) → List (DataW H) → Bool := fun _ ds => decide (uptoBulkAll ds ≤ 1048576)
def OpenSpec.upto (s : _root_.Go.ChangeSpec) : _root_.Go.OpenSpec := { _root_.Go.OpenSpec.ofChange s with cond := some uptoSmall }

/-- 'portcullislaw17.ManifestCuts', WHERE WHAT IT READS IS OF BULK AT MOST 1048576: true; the input reads as it did. -/
def manifestCutsUptoRow : OpenClaim := { program := "ytgnfdonbholcdaadoor", sum := "50f603198819afb3ee908b0010d52285a097bbbeabd875d714d1ce4bdca776c9", func := "portcullis/portcullislaw17.ManifestCuts", spec := "manifestCuts", recurses := true, named := ["portcullis/portcullisref1.k256", "portcullis/portcullisref1.k512", "portcullis/portcullisref3.baseX", "portcullis/portcullisref3.baseY", "portcullis/portcullisref3.d", "portcullis/portcullisref3.rootOfMinusOne", "portcullis/portcullisref3.order"], apart := false, laid := [("portcullis/portcullisref1.k256", laid_portcullis_portcullisref1_k256), ("portcullis/portcullisref1.k512", laid_portcullis_portcullisref1_k512), ("portcullis/portcullisref3.rootOfMinusOne", laid_portcullis_portcullisref3_rootOfMinusOne), ("portcullis/portcullisref3.order", laid_portcullis_portcullisref3_order), ("portcullis/portcullisref3.d", laid_portcullis_portcullisref3_d), ("portcullis/portcullisref3.baseX", laid_portcullis_portcullisref3_baseX), ("portcullis/portcullisref3.baseY", laid_portcullis_portcullisref3_baseY)], narrowed := true }
def ManifestCutsUptoSaid : Prop := manifestCutsUptoRow.holds Tryd.pinned (OpenSpec.upto manifestCutsSpec)

end Rows
end Go.Proofs.YtgnfdonbholcdaaDoor
