/- The claim itself. -/
import Derived.Test.YtgnfdonbholcdaaGreatDoorRows
import Derived.Test.YtgnfdonbholcdaaGreatDoorCards
import Derived.Test.YtgnfdonbholcdaaGreatDoorTie
import Derived.Test.YtgnfdonbholcdaaGreatDoorQz01
import Derived.Test.YtgnfdonbholcdaaGreatDoorQz02
import Derived.Test.YtgnfdonbholcdaaGreatDoorQz03
import Derived.Test.YtgnfdonbholcdaaGreatDoorQz04
import Derived.Test.YtgnfdonbholcdaaGreatDoorQz05
import Derived.Test.YtgnfdonbholcdaaGreatDoorQz06
import Derived.Test.YtgnfdonbholcdaaGreatDoorQz07
import Derived.Test.YtgnfdonbholcdaaGreatDoorQz08
import Derived.Test.YtgnfdonbholcdaaGreatDoorQz09
import Derived.Test.YtgnfdonbholcdaaGreatDoorQz10
import Derived.Test.YtgnfdonbholcdaaGreatDoorQz11
import Derived.Test.YtgnfdonbholcdaaGreatDoorQz12
import Derived.Test.YtgnfdonbholcdaaGreatDoorQz13
import Derived.Test.YtgnfdonbholcdaaGreatDoorQz14
import Derived.Test.YtgnfdonbholcdaaGreatDoorQz15
import Derived.Test.YtgnfdonbholcdaaGreatDoorQz17
namespace Go.Proofs.YtgnfdonbholcdaaGreatDoor
open Go.ChangeShapes Go.WideShapes Go.ChangeAt Go.WideMaps Go.WideElems Go.RowKit
set_option linter.unusedVariables false
set_option maxRecDepth 100000
set_option maxHeartbeats 32000000

def manifestPacksLaid:List (String×DataW Unit):=[("portcullis/portcullisref1.k256",Rows.laid_portcullis_portcullisref1_k256),("portcullis/portcullisref1.k512",Rows.laid_portcullis_portcullisref1_k512),("portcullis/portcullisref3.rootOfMinusOne",Rows.laid_portcullis_portcullisref3_rootOfMinusOne),("portcullis/portcullisref3.order",Rows.laid_portcullis_portcullisref3_order),("portcullis/portcullisref3.d",Rows.laid_portcullis_portcullisref3_d),("portcullis/portcullisref3.baseX",Rows.laid_portcullis_portcullisref3_baseX),("portcullis/portcullisref3.baseY",Rows.laid_portcullis_portcullisref3_baseY),("portcullis/sha.roots",Rows.laid_portcullis_sha_roots)]
theorem manifestPacks_door(os:Os)(args:Array Value):laidMetH Tryz.prog manifestPacksLaid ((World.doorLaid Tryz.prog 400 os).forCall (fun _ _=>0) ⟨#[],args,[]⟩).memory:=
  laidMetH_of_parts3 (fuel:=8) (laidMet_of_run' 8 (by kernel_rfl) (by kernel_rfl)) (by kernel_rfl) (by kernel_rfl)
def manifestPacksGlob:World→Prop:=fun W=>GI W∧GlobR W
theorem manifestPacks_glob(W:World)(h:laidMetH Tryz.prog manifestPacksLaid W):manifestPacksGlob W:=⟨⟨globK_of (by kernel_rfl) h (by simp[manifestPacksLaid]),⟨⟨globK_ofQ (by kernel_rfl) h (by simp[manifestPacksLaid]),globO_of (by kernel_rfl) h (by simp[manifestPacksLaid]),globD_of (by kernel_rfl) h (by simp[manifestPacksLaid]),globX_of (by kernel_rfl) h (by simp[manifestPacksLaid]),globY_of (by kernel_rfl) h (by simp[manifestPacksLaid])⟩,globL_of (by kernel_rfl) h (by simp[manifestPacksLaid])⟩⟩,globR_of (by kernel_rfl) h (by simp[manifestPacksLaid])⟩
theorem manifestPacks_walk {H:Type}(enc:TypeId×Value→H):LawWalkG manifestPacksGlob enc Tryz.prog 3 Tryz.f3.params.toList:=by
  intro W base args j l a b i k h
  rw[Tryz.params3]at b a
  obtain⟨c,p,rfl,rfl,h0⟩:=trodAll_one b
  obtain⟨g,f,rfl,e,d,q,m,n⟩:=open_man (tc:=5) Tryz.underlying30 (by kernel_rfl) Tryz.underlying3 rfl (by kernel_rfl) Tryz.underlying3 rfl (by kernel_rfl) Tryz.underlying23 rfl (by kernel_rfl) Tryz.underlying24 rfl (by kernel_rfl) Tryz.underlying28 rfl (by kernel_rfl) Tryz.underlying26 rfl (by kernel_rfl) Tryz.underlying3 rfl (by kernel_rfl) Tryz.underlying23 rfl (by kernel_rfl) Tryz.underlying26 rfl (by kernel_rfl) Tryz.underlying5 (by kernel_rfl) (a 0 30 c rfl rfl) h0
  exact manPacks_any g f W e d h
theorem manifestPacks_lifted(os:Os)(a:os.Started)(H:Type)(enc:TypeId×Value→H):
    ReturnsInHanded {} Tryz.checked os 3 .any (fun w args=>(Rows.manifestPacksSpec.pre enc Tryz.prog Tryz.f3 [] false w args∧laidMetH Tryz.prog manifestPacksLaid w)∧sizedMet enc Tryz.prog Tryz.f3 (OpenSpec.ofChange Rows.manifestPacksSpec) false w args)
      (Rows.manifestPacksSpec.post enc Tryz.prog Tryz.f3 false true false false):=
  law_lift_tied (G:=manifestPacksGlob) (C:=Tryz.checked) (s:=Rows.manifestPacksSpec) manifestPacksLaid law_own law_laid a (by kernel_rfl) Tryz.func3 rfl (by kernel_rfl) (by kernel_rfl) Tryz.underlying4
    (fun b h=>by
      match b,h with
      |[_],_=>exact⟨rfl,rfl,rfl⟩)
    (ChangeSpec.witness_shaped (enc:=enc) (C:=Tryz.checked) (os:=os) (X:=fun w _=>laidMetH Tryz.prog manifestPacksLaid w) false (World.doorLaid Tryz.prog 400 os) #[.agg #[.int .i64 0,.int .i64 0,.int .u8 0,.int .u8 0,.int .u8 0,.int .u8 0,.int .u8 0,.int .u8 0,.int .u8 0,.int .u8 0,.int .u8 0,.int .u8 0,.int .u8 0,.int .u8 0,.int .u8 0,.int .u8 0,.int .u8 0,.int .u8 0,.int .u8 0,.int .u8 0,.int .u8 0,.int .u8 0,.int .u8 0,.int .u8 0,.int .u8 0,.int .u8 0,.int .u8 0,.int .u8 0,.int .u8 0,.int .u8 0,.int .u8 0,.int .u8 0,.int .u8 0,.int .u8 0,.slice none 0 0,.int .i64 0,.int .u8 0,.int .u8 0,.int .u8 0,.int .u8 0,.int .u8 0,.int .u8 0,.int .u8 0,.int .u8 0,.int .u8 0,.int .u8 0,.int .u8 0,.int .u8 0,.int .u8 0,.int .u8 0,.int .u8 0,.int .u8 0,.int .u8 0,.int .u8 0,.int .u8 0,.int .u8 0,.int .u8 0,.int .u8 0,.int .u8 0,.int .u8 0,.int .u8 0,.int .u8 0,.int .u8 0,.int .u8 0,.int .u8 0,.int .u8 0,.int .u8 0,.int .u8 0,.int .u8 0,.int .u8 0,.int .u8 0,.int .u8 0,.int .u8 0,.int .u8 0,.int .u8 0,.int .u8 0,.int .u8 0,.int .u8 0,.int .u8 0,.int .u8 0,.int .u8 0,.int .u8 0,.int .u8 0,.int .u8 0,.int .u8 0,.int .u8 0,.int .u8 0,.int .u8 0,.int .u8 0,.int .u8 0,.int .u8 0,.int .u8 0,.int .u8 0,.int .u8 0,.int .u8 0,.int .u8 0,.int .u8 0,.int .u8 0,.int .u8 0,.int .u8 0,.int .u8 0,.int .u8 0,.int .u8 0,.int .u8 0,.int .u8 0,.int .u8 0,.int .u8 0,.int .u8 0,.int .u8 0,.int .u8 0,.int .u8 0,.int .u8 0,.int .u8 0,.int .u8 0,.int .u8 0,.int .u8 0,.int .u8 0,.int .u8 0,.int .u8 0,.int .u8 0,.int .u8 0,.int .u8 0,.int .u8 0,.int .u8 0,.int .u8 0,.int .u8 0,.int .u8 0,.int .u8 0,.int .u8 0,.int .u8 0,.int .u8 0,.int .u8 0,.int .u8 0,.int .u8 0,.int .u8 0,.int .u8 0,.int .u8 0,.int .u8 0,.int .u8 0,.int .u8 0,.int .u8 0,.int .u8 0,.int .u8 0,.int .u8 0,.int .u8 0,.int .u8 0,.int .u8 0,.int .u8 0,.int .u8 0,.int .u8 0,.int .u8 0,.int .u8 0,.int .u8 0,.int .u8 0,.int .u8 0,.int .u8 0,.int .u8 0,.int .u8 0,.int .u8 0,.int .u8 0,.int .u8 0,.int .u8 0,.int .u8 0,.int .u8 0,.int .u8 0,.int .u8 0,.int .u8 0,.int .u8 0,.int .u8 0,.int .u8 0,.int .u8 0,.int .u8 0,.int .u8 0,.int .u8 0,.int .u8 0,.int .u8 0,.int .u8 0,.int .u8 0,.int .u8 0,.int .u8 0,.int .u8 0,.int .u8 0,.int .u8 0,.int .u8 0,.int .u8 0,.int .u8 0,.int .u8 0,.int .u8 0,.int .u8 0,.int .u8 0,.int .u8 0,.int .u8 0,.int .u8 0,.int .u8 0,.int .u8 0,.int .u8 0]] 8 rfl (World.shaped_of_RefB (by kernel_rfl) (by kernel_rfl)) (by kernel_rfl) (by kernel_rfl) (by kernel_rfl) (manifestPacks_door os _))
    manifestPacks_glob (manifestPacks_walk enc)
theorem manifestPacks_holds:Rows.ManifestPacksSaid:=
  OpenClaim.holds_of_wide 3 Tryz.f3 rfl rfl rfl rfl rfl rfl rfl ⟨rfl,rfl,rfl,rfl,rfl⟩ rfl rfl rfl rfl rfl (by kernel_rfl) Tryz.func3 (by kernel_rfl)
    (of_decide_eq_true (by kernel_rfl)) (by unfold Func.isWrapper;first|(rw[if_pos (by decide+kernel)];kernel_rfl)|(rw[if_neg (by decide+kernel)];exact⟨rfl,rfl⟩))
    (fun os a H enc _=>manifestPacks_lifted os a H enc)
theorem manifestPacks_card:Rows.ManifestPacksCardSaid:=
  Claim7.holds_tied_plain_at .later [] [.data,.data,.data,.data,.data,.data,.data,.data] true (true, "5c785f3ee5eda7a619249a4bff192eedfe75642ab8f42c579e76ea58aeac7fe8") false
    manifestPacks_holds (fun _ h=>by cases h) (by kernel_rfl) (fun _ h=>by cases h) manifestPacks_row_tie rfl ⟨rfl,rfl⟩ (by kernel_rfl) rfl
    (fun f a e b=>by
      obtain rfl:f=3:=Option.some.inj ((show Tryz.prog.funcNamed "portcullis/portcullislaw17.ManifestPacks"=some 3 by kernel_rfl).symm.trans e)|>.symm
      obtain rfl:a=Tryz.f3:=(Option.some.inj (Tryz.func3.symm.trans b)).symm
      exact⟨by kernel_rfl,fun j t ht=>by
        rw[Tryz.params3]at ht
        have c:t∈[30]:=by simpa using Array.mem_of_getElem? ht
        have d:([30].all fun u=>!Tryz.prog.wantsStandIn u)=true:=by kernel_rfl
        exact(show Tryz.prog.wantsStandIn t=false by simpa using List.all_eq_true.1 d t c)⟩)
    (by kernel_rfl)
end Go.Proofs.YtgnfdonbholcdaaGreatDoor


