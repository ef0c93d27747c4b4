/- Lemmas. -/
import Derived.Test.YtgnfdonbholcdaaGreatDoorQz02
namespace Go.Proofs.YtgnfdonbholcdaaGreatDoor
set_option linter.unusedVariables false
set_option maxRecDepth 100000
set_option maxHeartbeats 32000000
set_option linter.unusedSimpArgs false
open Go.RowKit
theorem padded_any(v:Value)(b:List UInt8)(w:World)(L:Row1 w v (b.map bval))(hb:b.length≤1099511627776):
  Calls Tryz.prog 36 #[v,.int .i64 64,.int .i64 8] w fun e w'=>∃x,e=.returned x∧Row1 w' x ((padded b).map bval)∧Below w.heap.size w w':=by
 obtain⟨t,W,O,Q,Y⟩:=info_parts Tryz.info5
 have aa:=jh L
 obtain⟨a,ak,a5,r1,r2,r3,r4⟩:=id L
 rw[q100]at a5 r1
 unfold maxLen at r2
 subst a5
 obtain⟨z,C,B,y⟩:=jq4 W O Q Y
 have r:Hid ((b.map bval).length=b.length):=jh (q100 _)
 have a4:Hid (w.ownsRow w.heap.size 5 1 (.slice none 0 0) 0 []):=jh (World.ownsRow_nil _ _ _ _)
 clear L r3 r4 W O Q Y
 go_enter Tryz.func36,Tryz.ntmps36
 go_wp2_with (first|(at_builtin;refine zad rfl _ _ 24 rfl w.heap.size 5 t (.int .u8 0) 1 q104 z.o C.o B.o y.o rfl _ 0 [] rfl a4.o rfl aa.o (zac _) (by rw[r.o];unfold maxLen;omega) (by rw[r.o];omega) (q101 _) ?_;intro v1 w1 a3 N;have J:=jh a3;have U:=jh (zbf (Ext.refl w) a4.o (q101 _) N);have a1:=jh N.size;clear a3 N)|(at_builtin;refine zad rfl _ _ 24 rfl w.heap.size 5 t (.int .u8 0) 1 q104 z.o C.o B.o y.o rfl _ (0+(b.map bval).length) _ rfl (J.o.alloc _) rfl (Row1.made _ #[.int .u8 128] _ _ 1 ([128].map bval) rfl rfl rfl (by unfold maxLen;omega)) (zac _) (by rw[r.o];unfold maxLen;simp;omega) (by rw[r.o];simp;omega) (by simp;have:=a1.o;omega) ?_;intro v2 w2 a0 a7))
 have X:=jh (zbf (U.o.trans (Ext.alloc w1 (.cells #[.int .u8 128] 5))) (J.o.alloc _) (q101 _) a7)
 have m:Hid (w2.ownsRow w.heap.size 5 1 v2 (padA b 0).length ((padA b 0).map bval)):=jh (by
  have h:=a0
  rw[q115,←q110]at h
  have e:0+(b.map bval).length+([128].map bval).length=(padA b 0).length:=by simp[padA]
  rw[e]at h
  simpa[padA]using h)
 clear a0 a7 J U a1
 go_loopw [7] (fun x wr=>∃(k:Nat),k≤padN b.length∧wr.ownsRow w.heap.size 5 1 x (padA b k).length ((padA b k).map bval)∧Ext w wr) (fun x _=>b.length+1+padN b.length - lenOf x)
 case atStart=>exact⟨0,by omega,m.o,X.o⟩
 case round=>
  clear m X
  obtain⟨k,p,f,g⟩:=hrel
  obtain⟨a2,a8,rfl,Z,S,s3,s4⟩:=id (Row1.of_own f)
  have M:=padA_length b k
  have ht:=pad_test b.length k p
  have ae:padN b.length<64:=by unfold padN;omega
  obtain⟨d,l⟩:=jq2 f g
  rw[q100,M]at Z d⊢
  unfold maxLen at S
  clear f g s3 s4
  by_cases a6:k=padN b.length
  ·subst a6
   have hd:(((b.length+1+padN b.length:Nat):Int)%64 !=56)=false:=by simp;omega
   have m:Hid (wr.ownsRow w.heap.size 5 1 (.slice a2 (b.length+1+padN b.length) a8) (padB b 0).length ((padB b 0).map bval)):=jh (zcp d.o (by simp[padB,padA];omega) (by simp[padB]))
   clear d ht M Z S
   generalize b.length+1+padN b.length=n at*
   go_wp2_with fail
   obtain⟨wo,rfl⟩:=nxq wr
   go_loopw [7,9] (fun x i wr=>∃(j:Nat),j≤8∧i=.int .i64 (7 - (j:Int))∧wr.ownsRow w.heap.size 5 1 x (padB b j).length ((padB b j).map bval)∧Ext w wr) (fun _ i _=>(intOf i+1).toNat)
   case atStart=>exact⟨0,by omega,rfl,m.o,l.o⟩
   case round=>
    clear m l
    obtain⟨j,R,rfl,f,g⟩:=hrel
    obtain⟨d,l,I⟩:=jq3 f g g.size
    have a9:(padB b j).length≤1099511627900:=by simp[padB,padA];omega
    by_cases G:j<8
    ·have K:=jh (padB_succ b j G)
     obtain⟨k,p⟩:=nxq (7 - j)
     have P:(7:Int) - (j:Int)=(k:Int):=by omega
     rw[P]
     have E:Hid (j+k=7):=jh (by omega)
     rw[←p]at K
     clear f g p P R G
     have k0:(0:Int)≤(k:Int):=Int.natCast_nonneg _
     have k8:(k:Int)<8:=by have:=E.o;omega
     obtain⟨s,hs⟩:=nxq (8*k)
     have ag:8*(k:Int)=(s:Int):=by omega
     have aj:(s:Int)<64:=by omega
     have e1:(2:Int)^s=((256^k:Nat):Int):=by rw[hs,Int.pow_mul];simp
     have ah:8*(b.length:Int) / 2^s=((8*b.length / 256^k:Nat):Int):=by
      have e2:8*(b.length:Int)=((8*b.length:Nat):Int):=by omega
      rw[e1,e2,←Int.natCast_ediv]
     have ai:8*b.length / 256^k≤8*b.length:=Nat.div_le_self _ _
     have F:((UInt8.ofNat (8*b.length / 256^k%256)).toNat:Int)=((8*b.length / 256^k:Nat):Int)%256:=by rw[UInt8.toNat_ofNat'];omega
     have HQ:=jh F
     generalize UInt8.ofNat (8*b.length / 256^k%256)=c at*
     generalize 8*b.length / 256^k=q at*
     have hm:=zct (q:Int) (by omega) (by omega)
     have ad:Hid (bval c=.int .u8 ((q:Int)%256)):=jh (by unfold bval;rw[F])
     clear hs F e1
     go_wp2_with (at_builtin;refine zad rfl _ _ 24 rfl w.heap.size 5 t (.int .u8 0) 1 q104 z.o C.o B.o y.o rfl _ (padB b j).length _ rfl (d.o.alloc _) rfl (Row1.made _ #[.int .u8 ((q:Int)%256)] _ _ 1 [.int .u8 ((q:Int)%256)] rfl rfl rfl (by unfold maxLen;omega)) (by intro u V;simp at V;subst V;rfl) (by unfold maxLen;simp;omega) (by simp;omega) (by simp;have:=I.o;omega) ?_;intro v3 w3 A H)
     go_roundw
     case rel=>
      refine⟨j+1,by have:=E.o;omega,?_,zcp A (by rw[K.o];simp) (by rw[K.o,q110,q139,q135,ad.o]),zbf (l.o.trans (Ext.alloc wr _)) (d.o.alloc _) (q101 _) H⟩
      have:=E.o
      rw[show (k:Int) - 1=7 - ((j+1:Nat):Int)from by omega]
     case measure=>simp[intOf]
    have ac:j=8:=by omega
    subst ac
    have ab:(7:Int) - ((8:Nat):Int)=-1:=rfl
    rw[ab]
    have D:=Row1.of_own f
    rw[padB_full]at D
    have HR:=jh D
    clear D
    clear f g R G d a9
    go_wp2_with fail
    go_ret
    exact⟨_,rfl,HR.o,l.o⟩
  have hd:(((b.length+1+k:Nat):Int)%64 !=56)=true:=by simp;omega
  have hL:((b.length+1+k:Nat):Int)=(b.length:Int)+1+(k:Int):=by omega
  have I:=jh l.o.size
  have HK:Hid (k<padN b.length):=jh (by omega)
  clear ht hL
  generalize T:b.length+1+k=n at*
  have HN:=jh T
  have af:n≤1099511627900:=by omega
  clear T M a6 p
  go_wp2_with (at_builtin;refine zad rfl _ _ 24 rfl w.heap.size 5 t (.int .u8 0) 1 q104 z.o C.o B.o y.o rfl _ n _ rfl (d.o.alloc _) rfl (Row1.made _ #[.int .u8 0] _ _ 1 ([0].map bval) rfl rfl rfl (by unfold maxLen;omega)) (zac _) (by unfold maxLen;simp;omega) (by simp;omega) (by simp;have:=I.o;omega) ?_;intro v3 w3 A H)
  go_roundw
  case rel=>
   refine⟨k+1,HK.o,zcp A (by rw[padA_length,←HN.o];simp;omega) (by rw[padA_succ,q110]),zbf (l.o.trans (Ext.alloc wr (.cells #[.int .u8 0] 5))) (d.o.alloc _) (q101 _) H⟩
  case measure=>
   rw[ownRow_len A]
   have:=HN.o
   have:=HK.o
   simp[lenOf]
   omega
def padC(b:List UInt8)(k:Nat):List UInt8:=padA b (padQ b.length)++(beB 16 (8*b.length)).take k
theorem padC_full(b:List UInt8):padC b 16=paddedQ b:=by
 unfold padC paddedQ padA
 rw[q108 (by rw[zdz];exact q101 _)]
theorem padC_succ(b:List UInt8)(k:Nat)(a:k<16):padC b (k+1)=padC b k++[UInt8.ofNat (8*b.length / 256^(15 - k)%256)]:=by
 unfold padC
 have c:k<(beB 16 (8*b.length)).length:=by rw[zdz];exact a
 rw[q143 c,q109]
 congr 2
 have h1:=beB_get (8*b.length) 16 k a
 rw[List.getElem?_eq_getElem c]at h1
 simpa using h1
theorem padQ_test(n k:Nat)(a:k≤padQ n):((n+1+k)%128=112↔k=padQ n):=by
 unfold padQ at*
 omega
theorem paddedQ_any(v:Value)(b:List UInt8)(w:World)(M:Row1 w v (b.map bval))(hb:b.length≤1099511627776):
  Calls Tryz.prog 36 #[v,.int .i64 128,.int .i64 16] w fun e w'=>∃x,e=.returned x∧Row1 w' x ((paddedQ b).map bval)∧Below w.heap.size w w':=by
 obtain⟨t,hi,Q,S,Z⟩:=info_parts Tryz.info5
 have ab:=jh M
 obtain⟨a,al,a6,r1,r2,r3,r4⟩:=id M
 rw[q100]at a6 r1
 unfold maxLen at r2
 subst a6
 obtain⟨C,G,E,z⟩:=jq4 hi Q S Z
 have H:Hid ((b.map bval).length=b.length):=jh (q100 _)
 have a5:Hid (w.ownsRow w.heap.size 5 1 (.slice none 0 0) 0 []):=jh (World.ownsRow_nil _ _ _ _)
 clear M r3 r4 hi Q S Z
 go_enter Tryz.func36,Tryz.ntmps36
 go_wp2_with (first|(at_builtin;refine zad rfl _ _ 24 rfl w.heap.size 5 t (.int .u8 0) 1 q104 C.o G.o E.o z.o rfl _ 0 [] rfl a5.o rfl ab.o (zac _) (by rw[H.o];unfold maxLen;omega) (by rw[H.o];omega) (q101 _) ?_;intro v1 w1 a3 P;have L:=jh a3;have X:=jh (zbf (Ext.refl w) a5.o (q101 _) P);have a1:=jh P.size;clear a3 P)|(at_builtin;refine zad rfl _ _ 24 rfl w.heap.size 5 t (.int .u8 0) 1 q104 C.o G.o E.o z.o rfl _ (0+(b.map bval).length) _ rfl (L.o.alloc _) rfl (Row1.made _ #[.int .u8 128] _ _ 1 ([128].map bval) rfl rfl rfl (by unfold maxLen;omega)) (zac _) (by rw[H.o];unfold maxLen;simp;omega) (by rw[H.o];simp;omega) (by simp;have:=a1.o;omega) ?_;intro v2 w2 a0 a8))
 have Y:=jh (zbf (X.o.trans (Ext.alloc w1 (.cells #[.int .u8 128] 5))) (L.o.alloc _) (q101 _) a8)
 have A:Hid (w2.ownsRow w.heap.size 5 1 v2 (padA b 0).length ((padA b 0).map bval)):=jh (by
  have h:=a0
  rw[q115,←q110]at h
  have e:0+(b.map bval).length+([128].map bval).length=(padA b 0).length:=by simp[padA]
  rw[e]at h
  simpa[padA]using h)
 clear a0 a8 L X a1
 go_loopw [7] (fun x wr=>∃(k:Nat),k≤padQ b.length∧wr.ownsRow w.heap.size 5 1 x (padA b k).length ((padA b k).map bval)∧Ext w wr) (fun x _=>b.length+1+padQ b.length - lenOf x)
 case atStart=>exact⟨0,by omega,A.o,Y.o⟩
 case round=>
  clear A Y
  obtain⟨k,F,f,l⟩:=hrel
  obtain⟨a2,a9,rfl,W,U,s3,s4⟩:=id (Row1.of_own f)
  have O:=padA_length b k
  have ht:=padQ_test b.length k F
  have ae:padQ b.length<128:=by unfold padQ;omega
  obtain⟨d,g⟩:=jq2 f l
  rw[q100,O]at W d⊢
  unfold maxLen at U
  clear f l s3 s4
  by_cases a7:k=padQ b.length
  ·subst a7
   have hd:(((b.length+1+padQ b.length:Nat):Int)%128 !=112)=false:=by simp;omega
   have A:Hid (wr.ownsRow w.heap.size 5 1 (.slice a2 (b.length+1+padQ b.length) a9) (padC b 0).length ((padC b 0).map bval)):=jh (zcp d.o (by simp[padC,padA];omega) (by simp[padC]))
   clear d ht O W U
   generalize b.length+1+padQ b.length=n at*
   go_wp2_with fail
   obtain⟨wo,rfl⟩:=nxq wr
   go_loopw [7,9] (fun x i wr=>∃(j:Nat),j≤16∧i=.int .i64 (15 - (j:Int))∧wr.ownsRow w.heap.size 5 1 x (padC b j).length ((padC b j).map bval)∧Ext w wr) (fun _ i _=>(intOf i+1).toNat)
   case atStart=>exact⟨0,by omega,rfl,A.o,g.o⟩
   case round=>
    clear A g
    obtain⟨j,T,rfl,f,l⟩:=hrel
    obtain⟨d,g,I⟩:=jq3 f l l.size
    have aa:(padC b j).length≤1099511628200:=by simp[padC,padA];omega
    by_cases K:j<16
    ·have D:=jh (padC_succ b j K)
     obtain⟨k,F⟩:=nxq (15 - j)
     have R:(15:Int) - (j:Int)=(k:Int):=by omega
     rw[R]
     have r:Hid (j+k=15):=jh (by omega)
     rw[←F]at D
     clear f l F R T K
     have k0:(0:Int)≤(k:Int):=Int.natCast_nonneg _
     by_cases a4:k<8
     ·have k8:(k:Int)<8:=by omega
      clear a4
      obtain⟨s,hs⟩:=nxq (8*k)
      have ah:8*(k:Int)=(s:Int):=by omega
      have ak:(s:Int)<64:=by omega
      have e1:(2:Int)^s=((256^k:Nat):Int):=by rw[hs,Int.pow_mul];simp
      have ai:8*(b.length:Int) / 2^s=((8*b.length / 256^k:Nat):Int):=by
       have e2:8*(b.length:Int)=((8*b.length:Nat):Int):=by omega
       rw[e1,e2,←Int.natCast_ediv]
      have aj:8*b.length / 256^k≤8*b.length:=Nat.div_le_self _ _
      have m:((UInt8.ofNat (8*b.length / 256^k%256)).toNat:Int)=((8*b.length / 256^k:Nat):Int)%256:=by rw[UInt8.toNat_ofNat'];omega
      have HQ:=jh m
      generalize UInt8.ofNat (8*b.length / 256^k%256)=c at*
      generalize 8*b.length / 256^k=q at*
      have hm:=zct (q:Int) (by omega) (by omega)
      have N:Hid (bval c=.int .u8 ((q:Int)%256)):=jh (by unfold bval;rw[m])
      clear hs m e1
      go_wp2_with (at_builtin;refine zad rfl _ _ 24 rfl w.heap.size 5 t (.int .u8 0) 1 q104 C.o G.o E.o z.o rfl _ (padC b j).length _ rfl (d.o.alloc _) rfl (Row1.made _ #[.int .u8 ((q:Int)%256)] _ _ 1 [.int .u8 ((q:Int)%256)] rfl rfl rfl (by unfold maxLen;omega)) (by intro u y;simp at y;subst y;rfl) (by unfold maxLen;simp;omega) (by simp;omega) (by simp;have:=I.o;omega) ?_;intro v3 w3 p B)
      go_roundw
      case rel=>
       refine⟨j+1,by have:=r.o;omega,?_,zcp p (by rw[D.o];simp) (by rw[D.o,q110,q139,q135,N.o]),zbf (g.o.trans (Ext.alloc wr _)) (d.o.alloc _) (q101 _) B⟩
       have:=r.o
       rw[show (k:Int) - 1=15 - ((j+1:Nat):Int)from by omega]
      case measure=>simp[intOf]
     have k8:8≤(k:Int):=by omega
     have af:(k:Int)≤15:=by have:=r.o;omega
     have m:((UInt8.ofNat (8*b.length / 256^k%256)).toNat:Int)=0:=by
      have h1:8*b.length / 256^k=0:=by
       apply q160
       have h2:(256:Nat)^8≤256^k:=Nat.pow_le_pow_right (by omega) (by omega)
       have h3:(256:Nat)^8=18446744073709551616:=rfl
       omega
      rw[h1]
      rfl
     generalize UInt8.ofNat (8*b.length / 256^k%256)=c at*
     have N:Hid (bval c=.int .u8 0):=jh (by unfold bval;rw[m])
     clear m a4
     go_wp2_with (at_builtin;refine zad rfl _ _ 24 rfl w.heap.size 5 t (.int .u8 0) 1 q104 C.o G.o E.o z.o rfl _ (padC b j).length _ rfl (d.o.alloc _) rfl (Row1.made _ #[.int .u8 0] _ _ 1 [.int .u8 0] rfl rfl rfl (by unfold maxLen;omega)) (by intro u y;simp at y;subst y;rfl) (by unfold maxLen;simp;omega) (by simp;omega) (by simp;have:=I.o;omega) ?_;intro v3 w3 p B)
     go_roundw
     case rel=>
      refine⟨j+1,by have:=r.o;omega,?_,zcp p (by rw[D.o];simp) (by rw[D.o,q110,q139,q135,N.o]),zbf (g.o.trans (Ext.alloc wr _)) (d.o.alloc _) (q101 _) B⟩
      have:=r.o
      rw[show (k:Int) - 1=15 - ((j+1:Nat):Int)from by omega]
     case measure=>simp[intOf]
    have ad:j=16:=by omega
    subst ad
    have ac:(15:Int) - ((16:Nat):Int)=-1:=rfl
    rw[ac]
    have J:=Row1.of_own f
    rw[padC_full]at J
    have HR:=jh J
    clear J
    clear f l T K d aa
    go_wp2_with fail
    go_ret
    exact⟨_,rfl,HR.o,g.o⟩
  have hd:(((b.length+1+k:Nat):Int)%128 !=112)=true:=by simp;omega
  have hL:((b.length+1+k:Nat):Int)=(b.length:Int)+1+(k:Int):=by omega
  have I:=jh g.o.size
  have HK:Hid (k<padQ b.length):=jh (by omega)
  clear ht hL
  generalize V:b.length+1+k=n at*
  have HN:=jh V
  have ag:n≤1099511628200:=by omega
  clear V O a7 F
  go_wp2_with (at_builtin;refine zad rfl _ _ 24 rfl w.heap.size 5 t (.int .u8 0) 1 q104 C.o G.o E.o z.o rfl _ n _ rfl (d.o.alloc _) rfl (Row1.made _ #[.int .u8 0] _ _ 1 ([0].map bval) rfl rfl rfl (by unfold maxLen;omega)) (zac _) (by unfold maxLen;simp;omega) (by simp;omega) (by simp;have:=I.o;omega) ?_;intro v3 w3 p B)
  go_roundw
  case rel=>
   refine⟨k+1,HK.o,zcp p (by rw[padA_length,←HN.o];simp;omega) (by rw[padA_succ,q110]),zbf (g.o.trans (Ext.alloc wr (.cells #[.int .u8 0] 5))) (d.o.alloc _) (q101 _) B⟩
  case measure=>
   rw[ownRow_len p]
   have:=HN.o
   have:=HK.o
   simp[lenOf]
   omega
theorem Tryz.arr26:(Tryz.prog.info? 26).map (·.size)=some 64:=by kernel_rfl
theorem sig_guard:Tryz.prog.eqGuardType Tryz.prog.depth 26=false:=by kernel_rfl
theorem zep {l:List UInt8}(h:l.length=64):(Tryz.prog.info? 26).map (·.size)=some (l.map bval).length:=by rw[q100,h];exact Tryz.arr26
def MsgAt(B0 c off:Nat)(m:List UInt8)(w:World):Prop:=c<B0∧B0≤w.heap.size∧∀j,j<m.length→w.cell? ⟨c,off+j,none⟩=some (.int .u8 ((m.getD j 0).toNat:Int))
theorem MsgAt.ext {b c off:Nat} {m:List UInt8} {w a:World}(h:MsgAt b c off m w)(d:Ext w a):MsgAt b c off m a:=
 ⟨h.1,q119 h.2.1 d.size,fun j e=>by rw[←h.2.2 j e];exact d.cell (p:=⟨c,off+j,none⟩) (q116 h.1 h.2.1)⟩
theorem MsgAt.drew {a c off:Nat} {m:List UInt8} {w:World}(h:MsgAt a c off m w):MsgAt a c off m w.drew:=h
theorem MsgAt.far {b c off:Nat} {m:List UInt8} {w:World}(h:MsgAt b c off m w) {a:Addr}(d:a.block≠c)(v:Value):MsgAt b c off m (w.setCell a v):=
 ⟨h.1,by simpa[World.setCell]using h.2.1,fun j e=>by rw[←h.2.2 j e];exact World.cell?_setCell_other _ _ _ _ (by rintro rfl;exact d rfl)⟩
theorem MsgAt.grown {b c off:Nat} {m:List UInt8} {w a:World} {r:Option Nat}(h:MsgAt b c off m w)(d:w.grownBy a r)(g:r≠some c):MsgAt b c off m a:=
 ⟨h.1,q119 h.2.1 d.size,fun j f=>by
  rw[←h.2.2 j f]
  have:=d.block c (q116 h.1 h.2.1) (fun e=>g e.symm)
  simp[World.cell?,this]⟩
theorem not_bytes {K:IntKind}(a:K≠ .u8) {zs:List Int} {i:Nat} {z:Int}:(ints K zs)[i]? ≠some (.int .u8 z):=by
 unfold ints
 rw[List.getElem?_map]
 cases zs[i]? <;>simp[a]
theorem Tryz.arr185:(Tryz.prog.info? 185).map (·.size)=some 8:=by kernel_rfl
end Go.Proofs.YtgnfdonbholcdaaGreatDoor


