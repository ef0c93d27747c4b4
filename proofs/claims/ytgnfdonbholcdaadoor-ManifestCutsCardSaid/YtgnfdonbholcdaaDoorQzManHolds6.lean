/- The claim itself. -/
import Derived.Test.YtgnfdonbholcdaaDoorRows
import Derived.Test.YtgnfdonbholcdaaDoorCards
import Derived.Test.YtgnfdonbholcdaaDoorTie
import Derived.Test.YtgnfdonbholcdaaDoorQz01
import Derived.Test.YtgnfdonbholcdaaDoorQz02
import Derived.Test.YtgnfdonbholcdaaDoorQz03
import Derived.Test.YtgnfdonbholcdaaDoorQz04
import Derived.Test.YtgnfdonbholcdaaDoorQz05
import Derived.Test.YtgnfdonbholcdaaDoorQz06
import Derived.Test.YtgnfdonbholcdaaDoorQz07
import Derived.Test.YtgnfdonbholcdaaDoorQz08
import Derived.Test.YtgnfdonbholcdaaDoorQz09
import Derived.Test.YtgnfdonbholcdaaDoorQz10
import Derived.Test.YtgnfdonbholcdaaDoorQz11
import Derived.Test.YtgnfdonbholcdaaDoorQz12
import Derived.Test.YtgnfdonbholcdaaDoorQz13
namespace Go.Proofs.YtgnfdonbholcdaaDoor
open Go.ChangeShapes Go.WideShapes Go.ChangeAt Go.WideMaps Go.WideElems Go.RowKit
set_option linter.unusedVariables false
set_option maxRecDepth 100000
set_option maxHeartbeats 32000000

def manifestCutsLaid:List (String×DataW Unit):=[("portcullis/portcullisref1.k256",Rows.laid_portcullis_portcullisref1_k256),("portcullis/portcullisref1.k512",Rows.laid_portcullis_portcullisref1_k512),("portcullis/portcullisref3.rootOfMinusOne",Rows.laid_portcullis_portcullisref3_rootOfMinusOne),("portcullis/portcullisref3.order",Rows.laid_portcullis_portcullisref3_order),("portcullis/portcullisref3.d",Rows.laid_portcullis_portcullisref3_d),("portcullis/portcullisref3.baseX",Rows.laid_portcullis_portcullisref3_baseX),("portcullis/portcullisref3.baseY",Rows.laid_portcullis_portcullisref3_baseY)]
theorem manifestCuts_door(os:Os)(args:Array Value):laidMetH Tryd.prog manifestCutsLaid ((World.doorLaid Tryd.prog 400 os).forCall (fun _ _=>0) ⟨#[],args,[]⟩).memory:=
  laidMetH_of_parts3 (fuel:=8) (laidMet_of_run' 8 (by kernel_rfl) (by kernel_rfl)) (by kernel_rfl) (by kernel_rfl)
def manifestCutsGlob:World→Prop:=fun W=>GI W
theorem manifestCuts_glob(W:World)(h:laidMetH Tryd.prog manifestCutsLaid W):manifestCutsGlob W:=⟨globK_of (by kernel_rfl) h (by simp[manifestCutsLaid]),⟨⟨globK_ofQ (by kernel_rfl) h (by simp[manifestCutsLaid]),globO_of (by kernel_rfl) h (by simp[manifestCutsLaid]),globD_of (by kernel_rfl) h (by simp[manifestCutsLaid]),globX_of (by kernel_rfl) h (by simp[manifestCutsLaid]),globY_of (by kernel_rfl) h (by simp[manifestCutsLaid])⟩,globL_of (by kernel_rfl) h (by simp[manifestCutsLaid])⟩⟩
theorem manifestCuts_walk {H:Type}(enc:TypeId×Value→H):LawWalkG manifestCutsGlob enc Tryd.prog 3 Tryd.f3.params.toList:=by
  intro W base args A u a b q y k
  rw[Tryd.params3]at b a
  obtain⟨d,e,c,p,v,C,n,t,B,rfl,rfl,rfl,h0,h1,h2⟩:=trodAll_three b
  obtain⟨f,m,rfl,i,l,z,x,s⟩:=open_man (tc:=5) Tryd.underlying30 (by kernel_rfl) Tryd.underlying3 rfl (by kernel_rfl) Tryd.underlying3 rfl (by kernel_rfl) Tryd.underlying23 rfl (by kernel_rfl) Tryd.underlying24 rfl (by kernel_rfl) Tryd.underlying28 rfl (by kernel_rfl) Tryd.underlying26 rfl (by kernel_rfl) Tryd.underlying3 rfl (by kernel_rfl) Tryd.underlying23 rfl (by kernel_rfl) Tryd.underlying26 rfl (by kernel_rfl) Tryd.underlying5 (by kernel_rfl) (a 0 30 d rfl rfl) h0
  obtain⟨h,rfl,_,_,r⟩:=open_int Tryd.underlying3 (a 1 3 e rfl rfl) h1
  obtain⟨g,j⟩:=open_bytes Tryd.underlying24 Tryd.underlying5 (by kernel_rfl) (a 2 24 c rfl rfl) h2
  exact manCuts_any f m h g c W i l j k
theorem manifestCuts_lifted(os:Os)(b:os.Started)(H:Type)(enc:TypeId×Value→H):
    ReturnsInHanded {} Tryd.checked os 3 .any (fun w args=>(Rows.manifestCutsSpec.pre enc Tryd.prog Tryd.f3 [] false w args∧laidMetH Tryd.prog manifestCutsLaid w)∧sizedMet enc Tryd.prog Tryd.f3 (OpenSpec.ofChange Rows.manifestCutsSpec) false w args)
      (Rows.manifestCutsSpec.post enc Tryd.prog Tryd.f3 false true false false):=
  law_lift_tied (G:=manifestCutsGlob) (C:=Tryd.checked) (s:=Rows.manifestCutsSpec) manifestCutsLaid law_own law_laid b (by kernel_rfl) Tryd.func3 rfl (by kernel_rfl) (by kernel_rfl) Tryd.underlying4
    (fun a h=>by
      match a,h with
      |[_,_,_],_=>exact⟨rfl,rfl,rfl⟩)
    (ChangeSpec.witness_shaped (enc:=enc) (C:=Tryd.checked) (os:=os) (X:=fun w _=>laidMetH Tryd.prog manifestCutsLaid w) false (World.doorLaid Tryd.prog 400 os) #[.agg #[.int .i64 0,.int .i64 0,.int .u8 0,.int .u8 0,.int .u8 0,.int .u8 0,.int .u8 0,.int .u8 0,.int .u8 0,.int .u8 0,.int .u8 0,.int .u8 0,.int .u8 0,.int .u8 0,.int .u8 0,.int .u8 0,.int .u8 0,.int .u8 0,.int .u8 0,.int .u8 0,.int .u8 0,.int .u8 0,.int .u8 0,.int .u8 0,.int .u8 0,.int .u8 0,.int .u8 0,.int .u8 0,.int .u8 0,.int .u8 0,.int .u8 0,.int .u8 0,.int .u8 0,.int .u8 0,.slice none 0 0,.int .i64 0,.int .u8 0,.int .u8 0,.int .u8 0,.int .u8 0,.int .u8 0,.int .u8 0,.int .u8 0,.int .u8 0,.int .u8 0,.int .u8 0,.int .u8 0,.int .u8 0,.int .u8 0,.int .u8 0,.int .u8 0,.int .u8 0,.int .u8 0,.int .u8 0,.int .u8 0,.int .u8 0,.int .u8 0,.int .u8 0,.int .u8 0,.int .u8 0,.int .u8 0,.int .u8 0,.int .u8 0,.int .u8 0,.int .u8 0,.int .u8 0,.int .u8 0,.int .u8 0,.int .u8 0,.int .u8 0,.int .u8 0,.int .u8 0,.int .u8 0,.int .u8 0,.int .u8 0,.int .u8 0,.int .u8 0,.int .u8 0,.int .u8 0,.int .u8 0,.int .u8 0,.int .u8 0,.int .u8 0,.int .u8 0,.int .u8 0,.int .u8 0,.int .u8 0,.int .u8 0,.int .u8 0,.int .u8 0,.int .u8 0,.int .u8 0,.int .u8 0,.int .u8 0,.int .u8 0,.int .u8 0,.int .u8 0,.int .u8 0,.int .u8 0,.int .u8 0,.int .u8 0,.int .u8 0,.int .u8 0,.int .u8 0,.int .u8 0,.int .u8 0,.int .u8 0,.int .u8 0,.int .u8 0,.int .u8 0,.int .u8 0,.int .u8 0,.int .u8 0,.int .u8 0,.int .u8 0,.int .u8 0,.int .u8 0,.int .u8 0,.int .u8 0,.int .u8 0,.int .u8 0,.int .u8 0,.int .u8 0,.int .u8 0,.int .u8 0,.int .u8 0,.int .u8 0,.int .u8 0,.int .u8 0,.int .u8 0,.int .u8 0,.int .u8 0,.int .u8 0,.int .u8 0,.int .u8 0,.int .u8 0,.int .u8 0,.int .u8 0,.int .u8 0,.int .u8 0,.int .u8 0,.int .u8 0,.int .u8 0,.int .u8 0,.int .u8 0,.int .u8 0,.int .u8 0,.int .u8 0,.int .u8 0,.int .u8 0,.int .u8 0,.int .u8 0,.int .u8 0,.int .u8 0,.int .u8 0,.int .u8 0,.int .u8 0,.int .u8 0,.int .u8 0,.int .u8 0,.int .u8 0,.int .u8 0,.int .u8 0,.int .u8 0,.int .u8 0,.int .u8 0,.int .u8 0,.int .u8 0,.int .u8 0,.int .u8 0,.int .u8 0,.int .u8 0,.int .u8 0,.int .u8 0,.int .u8 0,.int .u8 0,.int .u8 0,.int .u8 0,.int .u8 0,.int .u8 0,.int .u8 0,.int .u8 0,.int .u8 0,.int .u8 0,.int .u8 0,.int .u8 0,.int .u8 0,.int .u8 0,.int .u8 0,.int .u8 0,.int .u8 0,.int .u8 0,.int .u8 0,.int .u8 0,.int .u8 0,.int .u8 0],.int .i64 0,.slice none 0 0] 8 rfl (World.shaped_of_RefB (by kernel_rfl) (by kernel_rfl)) (by kernel_rfl) (by kernel_rfl) (by kernel_rfl) (manifestCuts_door os _))
    manifestCuts_glob (manifestCuts_walk enc)
theorem manifestCuts_holds:Rows.ManifestCutsSaid:=
  OpenClaim.holds_of_wide 3 Tryd.f3 rfl rfl rfl rfl rfl rfl rfl ⟨rfl,rfl,rfl,rfl,rfl⟩ rfl rfl rfl rfl rfl (by kernel_rfl) Tryd.func3 (by kernel_rfl)
    (of_decide_eq_true (by kernel_rfl)) (by unfold Func.isWrapper;first|(rw[if_pos (by decide+kernel)];kernel_rfl)|(rw[if_neg (by decide+kernel)];exact⟨rfl,rfl⟩))
    (fun os a H enc _=>manifestCuts_lifted os a H enc)
theorem manifestCuts_card:Rows.ManifestCutsCardSaid:=
  Claim7.holds_tied_plain_at .later [] [.data,.data,.data,.data,.data,.data,.data] true (true, "0ed5311c956bdbea7a8a15a3cd91dd8784b01b2cd50c98f93355e5b70adf766b") false
    manifestCuts_holds (fun _ h=>by cases h) (by kernel_rfl) (fun _ h=>by cases h) manifestCuts_row_tie rfl ⟨rfl,rfl⟩ (by kernel_rfl) rfl
    (fun f e c b=>by
      obtain rfl:f=3:=Option.some.inj ((show Tryd.prog.funcNamed "portcullis/portcullislaw17.ManifestCuts"=some 3 by kernel_rfl).symm.trans c)|>.symm
      obtain rfl:e=Tryd.f3:=(Option.some.inj (Tryd.func3.symm.trans b)).symm
      exact⟨by kernel_rfl,fun j t ht=>by
        rw[Tryd.params3]at ht
        have a:t∈[30,3,24]:=by simpa using Array.mem_of_getElem? ht
        have d:([30,3,24].all fun u=>!Tryd.prog.wantsStandIn u)=true:=by kernel_rfl
        exact(show Tryd.prog.wantsStandIn t=false by simpa using List.all_eq_true.1 d t a)⟩)
    (by kernel_rfl)
end Go.Proofs.YtgnfdonbholcdaaDoor


