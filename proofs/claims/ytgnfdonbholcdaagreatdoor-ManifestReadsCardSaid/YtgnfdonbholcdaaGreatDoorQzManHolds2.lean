/- The claim itself. -/
import Derived.Test.YtgnfdonbholcdaaGreatDoorRows
import Derived.Test.YtgnfdonbholcdaaGreatDoorCards
import Derived.Test.YtgnfdonbholcdaaGreatDoorTie
import Derived.Test.YtgnfdonbholcdaaGreatDoorQz01
import Derived.Test.YtgnfdonbholcdaaGreatDoorQz02
import Derived.Test.YtgnfdonbholcdaaGreatDoorQz03
import Derived.Test.YtgnfdonbholcdaaGreatDoorQz04
import Derived.Test.YtgnfdonbholcdaaGreatDoorQz05
import Derived.Test.YtgnfdonbholcdaaGreatDoorQz06
import Derived.Test.YtgnfdonbholcdaaGreatDoorQz07
import Derived.Test.YtgnfdonbholcdaaGreatDoorQz08
import Derived.Test.YtgnfdonbholcdaaGreatDoorQz09
import Derived.Test.YtgnfdonbholcdaaGreatDoorQz10
import Derived.Test.YtgnfdonbholcdaaGreatDoorQz11
import Derived.Test.YtgnfdonbholcdaaGreatDoorQz12
import Derived.Test.YtgnfdonbholcdaaGreatDoorQz13
import Derived.Test.YtgnfdonbholcdaaGreatDoorQz14
import Derived.Test.YtgnfdonbholcdaaGreatDoorQz15
import Derived.Test.YtgnfdonbholcdaaGreatDoorQz16
namespace Go.Proofs.YtgnfdonbholcdaaGreatDoor
open Go.ChangeShapes Go.WideShapes Go.ChangeAt Go.WideMaps Go.WideElems Go.RowKit
set_option linter.unusedVariables false
set_option maxRecDepth 100000
set_option maxHeartbeats 32000000

def manifestReadsLaid:List (String×DataW Unit):=[("portcullis/portcullisref1.k256",Rows.laid_portcullis_portcullisref1_k256),("portcullis/portcullisref1.k512",Rows.laid_portcullis_portcullisref1_k512),("portcullis/portcullisref3.rootOfMinusOne",Rows.laid_portcullis_portcullisref3_rootOfMinusOne),("portcullis/portcullisref3.order",Rows.laid_portcullis_portcullisref3_order),("portcullis/portcullisref3.d",Rows.laid_portcullis_portcullisref3_d),("portcullis/portcullisref3.baseX",Rows.laid_portcullis_portcullisref3_baseX),("portcullis/portcullisref3.baseY",Rows.laid_portcullis_portcullisref3_baseY),("portcullis/sha.roots",Rows.laid_portcullis_sha_roots)]
theorem manifestReads_door(os:Os)(args:Array Value):laidMetH Tryz.prog manifestReadsLaid ((World.doorLaid Tryz.prog 400 os).forCall (fun _ _=>0) ⟨#[],args,[]⟩).memory:=
  laidMetH_of_parts3 (fuel:=8) (laidMet_of_run' 8 (by kernel_rfl) (by kernel_rfl)) (by kernel_rfl) (by kernel_rfl)
def manifestReadsGlob:World→Prop:=fun W=>GI W∧GlobR W
theorem manifestReads_glob(W:World)(h:laidMetH Tryz.prog manifestReadsLaid W):manifestReadsGlob W:=⟨⟨globK_of (by kernel_rfl) h (by simp[manifestReadsLaid]),⟨⟨globK_ofQ (by kernel_rfl) h (by simp[manifestReadsLaid]),globO_of (by kernel_rfl) h (by simp[manifestReadsLaid]),globD_of (by kernel_rfl) h (by simp[manifestReadsLaid]),globX_of (by kernel_rfl) h (by simp[manifestReadsLaid]),globY_of (by kernel_rfl) h (by simp[manifestReadsLaid])⟩,globL_of (by kernel_rfl) h (by simp[manifestReadsLaid])⟩⟩,globR_of (by kernel_rfl) h (by simp[manifestReadsLaid])⟩
theorem manifestReads_walk {H:Type}(enc:TypeId×Value→H):LawWalkG manifestReadsGlob enc Tryz.prog 4 Tryz.f4.params.toList:=by
  intro W base args h j a c g i f
  rw[Tryz.params4]at c a
  obtain⟨b,k,rfl,rfl,h0⟩:=trodAll_one c
  obtain⟨e,d⟩:=open_bytes Tryz.underlying24 Tryz.underlying5 (by kernel_rfl) (a 0 24 b rfl rfl) h0
  exact manReads_any e b W d f
theorem manifestReads_lifted(os:Os)(a:os.Started)(H:Type)(enc:TypeId×Value→H):
    ReturnsInHanded {} Tryz.checked os 4 .any (fun w args=>(Rows.manifestReadsSpec.pre enc Tryz.prog Tryz.f4 [] false w args∧laidMetH Tryz.prog manifestReadsLaid w)∧sizedMet enc Tryz.prog Tryz.f4 (OpenSpec.ofChange Rows.manifestReadsSpec) false w args)
      (Rows.manifestReadsSpec.post enc Tryz.prog Tryz.f4 false true false false):=
  law_lift_tied (G:=manifestReadsGlob) (C:=Tryz.checked) (s:=Rows.manifestReadsSpec) manifestReadsLaid law_own law_laid a (by kernel_rfl) Tryz.func4 rfl (by kernel_rfl) (by kernel_rfl) Tryz.underlying4
    (fun b h=>by
      match b,h with
      |[_],_=>exact⟨rfl,rfl,rfl⟩)
    (ChangeSpec.witness_shaped (enc:=enc) (C:=Tryz.checked) (os:=os) (X:=fun w _=>laidMetH Tryz.prog manifestReadsLaid w) false (World.doorLaid Tryz.prog 400 os) #[.slice none 0 0] 8 rfl (World.shaped_of_RefB (by kernel_rfl) (by kernel_rfl)) (by kernel_rfl) (by kernel_rfl) (by kernel_rfl) (manifestReads_door os _))
    manifestReads_glob (manifestReads_walk enc)
theorem manifestReads_holds:Rows.ManifestReadsSaid:=
  OpenClaim.holds_of_wide 4 Tryz.f4 rfl rfl rfl rfl rfl rfl rfl ⟨rfl,rfl,rfl,rfl,rfl⟩ rfl rfl rfl rfl rfl (by kernel_rfl) Tryz.func4 (by kernel_rfl)
    (of_decide_eq_true (by kernel_rfl)) (by unfold Func.isWrapper;first|(rw[if_pos (by decide+kernel)];kernel_rfl)|(rw[if_neg (by decide+kernel)];exact⟨rfl,rfl⟩))
    (fun os a H enc _=>manifestReads_lifted os a H enc)
theorem manifestReads_card:Rows.ManifestReadsCardSaid:=
  Claim7.holds_tied_plain_at .later [] [.data,.data,.data,.data,.data,.data,.data,.data] true (true, "5c785f3ee5eda7a619249a4bff192eedfe75642ab8f42c579e76ea58aeac7fe8") false
    manifestReads_holds (fun _ h=>by cases h) (by kernel_rfl) (fun _ h=>by cases h) manifestReads_row_tie rfl ⟨rfl,rfl⟩ (by kernel_rfl) rfl
    (fun f a e b=>by
      obtain rfl:f=4:=Option.some.inj ((show Tryz.prog.funcNamed "portcullis/portcullislaw17.ManifestReads"=some 4 by kernel_rfl).symm.trans e)|>.symm
      obtain rfl:a=Tryz.f4:=(Option.some.inj (Tryz.func4.symm.trans b)).symm
      exact⟨by kernel_rfl,fun j t ht=>by
        rw[Tryz.params4]at ht
        have c:t∈[24]:=by simpa using Array.mem_of_getElem? ht
        have d:([24].all fun u=>!Tryz.prog.wantsStandIn u)=true:=by kernel_rfl
        exact(show Tryz.prog.wantsStandIn t=false by simpa using List.all_eq_true.1 d t c)⟩)
    (by kernel_rfl)
end Go.Proofs.YtgnfdonbholcdaaGreatDoor


