/- Lemmas. -/
import Derived.Test.YtgnfdonbholcdaaGreatDoorQz07
namespace Go.Proofs.YtgnfdonbholcdaaGreatDoor
set_option linter.unusedVariables false
set_option maxRecDepth 100000
set_option maxHeartbeats 32000000
set_option linter.unusedSimpArgs false
open Go.RowKit
theorem fars_glob {c b:Nat} {w e a:World} {v:Value} {d:List Value}(h:w.rangeAt b 0 (v::d))(f:Ext w e)(g:w.heap.size≤c)(i:Far c e a):a.rangeAt b 0 (v::d):=by
 obtain⟨j,h1,h2⟩:=i
 rcases h2 with h2|h2
 ·rw[h2]
  exact glob_ext h (f.trans h1)
 exact glob_ext h (zab (f.trans h1) h2 g)
theorem es_zero:(⟨0,fp 1,fp 1,0⟩:ES)=esZero:=by rw[fp_one];rfl
theorem es_base:(⟨fp bX,fp bY,fp 1,fp bX*fp bY⟩:ES)=bP.es:=by rw[fp_one];rfl
theorem z16_el:ElL (List.replicate 16 0) 0:=⟨by simp,el_zero⟩
theorem rnought_f(w:World):Calls Tryz.prog 125 #[] w fun e m=>∃r,e=.returned r∧PtV r esZero∧Below w.heap.size w m:=by
 have h:=jh (boxes_one w (ints .i64 (List.replicate 64 0)) 126)
 go_enter Tryz.func125,Tryz.ntmps125
 go_upto_region 1 with(fail)
 obtain⟨g,b⟩:=h.o
 change Code.wp _ _ _ _ (w.alloc (.cells (ints .i64 (List.replicate 64 0)).toArray 126))
 generalize w.alloc (.cells (ints .i64 (List.replicate 64 0)).toArray 126)=j at*
 obtain⟨A,k⟩:=nxq w.heap.size
 have q:Hid (w.heap.size≤A):=jh (by omega)
 rw[←k]at g⊢
 have d:=jh g
 have b:Hid (Ext w j):=jh b
 clear k h g
 go_wp2_with fail
 refine(rone_f 1 j (by omega) (by omega)).mono ?_
 rintro e n ⟨r,rfl,f,a⟩
 obtain⟨z1,rfl,l⟩:=f.toL
 have b:=xxt b a
 have d:=xxb d a
 have v:=jh l
 clear a f l
 go_wp2_with fail
 refine(rone_f 1 n (by omega) (by omega)).mono ?_
 rintro e wc ⟨r,rfl,f,a⟩
 obtain⟨z2,rfl,i⟩:=f.toL
 have b:=xxt b a
 have d:=xxb d a
 have t:=jh i
 clear a f i
 have c:Hid (PtZ (List.replicate 16 0) z1 z2 (List.replicate 16 0) ⟨0,fp 1,fp 1,0⟩):=jh ⟨z16_el,v.o,t.o,z16_el⟩
 have p:Hid ((ptC (List.replicate 16 0) z1 z2 (List.replicate 16 0)).length=(ints .i64 (List.replicate 64 0)).length):=jh (by rw[zbq c.o,zaa];rfl)
 go_wp2_with (first|(refine zch rfl 126 #[(0,_),(1,_),(2,_),(3,_)] rfl #[(0,.agg (ints .i64 (List.replicate 16 0)).toArray),(1,.agg (ints .i64 z1).toArray),(2,.agg (ints .i64 z2).toArray),(3,.agg (ints .i64 (List.replicate 16 0)).toArray)] (by simp[Act.eval];try rfl) _ (build_pt c.o _) ?_)|(refine ssb A (ptC (List.replicate 16 0) z1 z2 (List.replicate 16 0)) d.o p.o (zcm c.o) (zef _ _ _ _) ?_;intro x s u))
 refine bodyPost_ret (result_pt rfl _ A _ _ rfl s q137 (zcm c.o)) rfl ?_
 exact⟨_,rfl,⟨_,_,_,_,rfl,by rw[←es_zero];exact c.o⟩,zab b.o u q.o⟩
theorem rbase_f(w:World)(t:GlobX w)(q:GlobY w):Calls Tryz.prog 80 #[] w fun e n=>∃r,e=.returned r∧PtV r bP.es∧Below w.heap.size w n:=by
 obtain⟨u,z,B⟩:=jq3 (boxes_one w (ints .i64 (List.replicate 64 0)) 126) t q
 clear t q
 go_enter Tryz.func80,Tryz.ntmps80
 go_upto_region 1 with(fail)
 obtain⟨p,c⟩:=u.o
 change Code.wp _ _ _ _ (w.alloc (.cells (ints .i64 (List.replicate 64 0)).toArray 126))
 generalize w.alloc (.cells (ints .i64 (List.replicate 64 0)).toArray 126)=f at*
 obtain⟨A,y⟩:=nxq w.heap.size
 have j:Hid (w.heap.size≤A):=jh (by omega)
 have N:Hid (∀g,g<w.heap.size→A≠g):=jh (fun g O=>by omega)
 rw[←y]at p⊢
 have I:=jh p
 have c:Hid (Ext w f):=jh c
 clear y u p
 have s:Ext f f.drew:=Ext.drew _
 refine wp_region_held_drew (S:=fun n=>Far (A) f n) (by kernel_rfl) (zap s) (fun a=>?_)
 refine tke 0 (.agg (ints .i64 bxL).toArray) rfl (sld 2 0 (fun w h=>fars_glob (z.o) c.o j.o h) q103 (zag bx_el.len)) a ?_
 simp only[nm]
 refine tke 1 (.agg (ints .i64 byL).toArray) rfl (sld 3 0 (fun w h=>fars_glob (B.o) c.o j.o h) q103 (zag by_el.len)) a ?_
 simp only[nm]
 refine tke 3 (.agg (ints .i64 bxL).toArray) rfl (sld 2 0 (fun w h=>fars_glob (z.o) c.o j.o h) q103 (zag bx_el.len)) a ?_
 simp only[nm]
 refine tke 4 (.agg (ints .i64 byL).toArray) rfl (sld 3 0 (fun w h=>fars_glob (B.o) c.o j.o h) q103 (zag by_el.len)) a ?_
 simp only[nm]
 refine rdy 2 rfl fun K b=>?_
 go_simp
 refine(rone_f 1 _ (by omega) (by omega)).mono ?_
 rintro e F ⟨L,rfl,i,J⟩
 obtain⟨z1,E,k⟩:=i.form
 subst E
 have v:Ext f F:=s.trans J
 refine b.o _ _ (zap v) (fun a=>?_)
 clear b K
 try simp only[nm]
 refine rdy 5 rfl fun K b=>?_
 go_simp
 refine(zcu _ bx_el.el by_el.el).mono ?_
 rintro e D ⟨M,rfl,d,C⟩
 obtain⟨z2,G,l⟩:=d.form
 subst G
 have m:Ext f D:=v.trans C
 refine b.o _ _ (zap m) (fun a=>?_)
 clear b K
 try simp only[nm]
 refine tke 6 (.agg (ptC bxL byL z1 z2).toArray) rfl (yi_build _ _ _ _ (build_pt (⟨⟨bx_el.len,bx_el.el⟩,⟨by_el.len,by_el.el⟩,⟨k,i⟩,⟨l,d⟩⟩:PtZ bxL byL z1 z2 ⟨fp bX,fp bY,fp 1,fp bX*fp bY⟩)) (by rfl) rfl (by simp[Act.eval])) a ?_
 simp only[nm]
 refine rdy 7 rfl fun K b=>?_
 refine zan (by rfl) ?_
 refine zar _ _ _ rfl (A) (ptC bxL byL z1 z2) rfl rfl _ _ (zak I.o m) (by rw[zbq ((⟨⟨bx_el.len,bx_el.el⟩,⟨by_el.len,by_el.el⟩,⟨k,i⟩,⟨l,d⟩⟩:PtZ bxL byL z1 z2 ⟨fp bX,fp bY,fp 1,fp bX*fp bY⟩)),zaa];rfl) (zcm ((⟨⟨bx_el.len,bx_el.el⟩,⟨by_el.len,by_el.el⟩,⟨k,i⟩,⟨l,d⟩⟩:PtZ bxL byL z1 z2 ⟨fp bX,fp bY,fp 1,fp bX*fp bY⟩))) (zef _ _ _ _) ?_
 intro P H x
 refine b.o _ _ (zby m x) (fun a=>?_)
 clear b K
 try simp only[nm]
 refine dne ?_
 go_wp2_with fail
 refine bodyPost_ret (result_pt rfl _ A _ _ rfl H q137 (zcm (⟨⟨bx_el.len,bx_el.el⟩,⟨by_el.len,by_el.el⟩,⟨k,i⟩,⟨l,d⟩⟩:PtZ bxL byL z1 z2 ⟨fp bX,fp bY,fp 1,fp bX*fp bY⟩))) rfl ?_
 exact⟨_,rfl,⟨_,_,_,_,rfl,by rw[←es_base];exact(⟨⟨bx_el.len,bx_el.el⟩,⟨by_el.len,by_el.el⟩,⟨k,i⟩,⟨l,d⟩⟩:PtZ bxL byL z1 z2 ⟨fp bX,fp bY,fp 1,fp bX*fp bY⟩)⟩,zab (c.o.trans m) x j.o⟩
theorem rmany_f(v:Value)(s:ES)(nb:List UInt8)(w:World)(hv:PtV v s)(hn:nb.length=32)(hG:GlobD w):Calls Tryz.prog 79 #[v,.agg (nb.map bval).toArray] w fun e w'=>∃r,e=.returned r∧PtV r (erun 256 s (leN nb) 256)∧Below w.heap.size w w':=by
 obtain⟨C,E,G,I,rfl,hp⟩:=hv
 obtain⟨q,a6,a1,HB⟩:=jq4 hp hn hG (boxes3 w (ptC C E G I) (nb.map bval) (ints .i64 (List.replicate 64 0)) 126 23 126)
 clear hp hn hG
 go_enter Tryz.func79,Tryz.ntmps79
 go_upto_region 1 with(fail)
 obtain⟨H1,N,V,a⟩:=HB.o
 change Code.wp _ _ _ _ (((w.alloc (.cells (ptC C E G I).toArray 126)).alloc (.cells (nb.map bval).toArray 23)).alloc (.cells (ints .i64 (List.replicate 64 0)).toArray 126))
 generalize ((w.alloc (.cells (ptC C E G I).toArray 126)).alloc (.cells (nb.map bval).toArray 23)).alloc (.cells (ints .i64 (List.replicate 64 0)).toArray 126)=P at*
 obtain⟨A,hA⟩:=nxq w.heap.size
 have j:Hid (w.heap.size≤A):=jh (by omega)
 rw[←hA]at H1 N V⊢
 have d:Hid (PtB P A s):=jh ⟨_,_,_,_,H1,q.o⟩
 obtain⟨f,b⟩:=jq2 N V
 have a:Hid (Ext w P):=jh a
 clear hA HB H1 N V q
 go_wp2_with fail
 refine(rnought_f P).mono ?_
 rintro e H ⟨r,rfl,z,c⟩
 obtain⟨ra,rb,rc,rd,rfl,n⟩:=z
 have d:=jh (d.o.ext c)
 obtain⟨f,b⟩:=xq2 f b c
 have a:=xxt a c
 have F:=jh n
 clear c n
 obtain⟨HZ,a4⟩:=jq2 (Blk.made H (ints .i64 (List.replicate 64 0)) 126) (Ext.alloc H (.cells (ints .i64 (List.replicate 64 0)).toArray 126))
 have m:Hid ((ptC ra rb rc rd).length=(ints .i64 (List.replicate 64 0)).length):=jh (by rw[zbq F.o,zaa];rfl)
 go_upto_region 2 with(refine ssb H.heap.size (ptC ra rb rc rd) HZ.o m.o (zcm F.o) (zef _ _ _ _) ?_;intro wc p h)
 have B:=jh (zab a4.o h (q101 _))
 obtain⟨T,R⟩:=nxq H.heap.size
 rw[←R]at p⊢
 have j:Hid (w.heap.size≤A∧A+1+1<T):=jh ⟨j.o,by rw[R];exact b.o.lt⟩
 have d:=jh (d.o.ext B.o)
 obtain⟨f,b⟩:=xq2 f b B.o
 have a:=xxt a B.o
 have g:Hid (PtB wc T (erun 256 s (leN nb) 0)):=jh ⟨_,_,_,_,p,F.o⟩
 clear p h HZ a4 B R m F
 go_wp2_with fail
 go_loopw [6] (fun i wr=>∃k:Nat,k≤256∧i=.int .i64 (255 - (k:Int))∧PtB wr T (erun 256 s (leN nb) k)∧PtB wr A s∧Blk wr (A+1) (nb.map bval) 23∧Blk wr (A+1+1) (ints .i64 (List.replicate 64 0)) 126∧Ext w wr) (fun i _=>(intOf i+1).toNat)
 case atStart=>exact⟨0,by omega,rfl,g.o,d.o,f.o,b.o,a.o⟩
 case round=>
  clear g d f b a
  obtain⟨k,hk,rfl,q1,q2,q3,q4,q5⟩:=hrel
  have aa:(0:Int)≤(k:Int):=Int.natCast_nonneg _
  obtain⟨t,ht⟩:=nxq (erun 256 s (leN nb) k)
  rw[←ht]at q1
  have a3:=jh ht
  obtain⟨Q,S,tc,Y,tB,tZ⟩:=q1
  obtain⟨g,l,d,f,b,a⟩:=jq6 tB tZ q2 q3 q4 q5
  clear q2 q3 q4 q5 tB tZ ht
  by_cases ab:k<256
  ·have i1:(0:Int)≤255 - (k:Int):=by omega
   have i2:(k:Int)≤255:=by omega
   go_wp2_with (first|(refine wpList_load_mid rfl _ _ rfl T 0 rfl _ _ g.o.range q137 rfl (zcm l.o) ?_))
   refine(rsum_f _ _ t t wr ⟨_,_,_,_,rfl,l.o⟩ ⟨_,_,_,_,rfl,l.o⟩ (a1.o.ext a.o)).mono ?_
   rintro e w1 ⟨r,rfl,z,c⟩
   obtain⟨W,U,X,M,rfl,n⟩:=z
   have g:=xxb g c
   have d:=jh (d.o.ext c)
   obtain⟨f,b⟩:=xq2 f b c
   have a:=xxt a c
   have u:=jh n
   clear c n
   have m:Hid ((ptC W U X M).length=(ptC Q S tc Y).length):=jh (by rw[zbq u.o,zbq l.o])
   go_upto_region 6 with(refine ssb T (ptC W U X M) g.o m.o (zcm u.o) (zef _ _ _ _) ?_;intro w2 p h)
   have d:=jh (d.o.grown h (by have:=j.o;simp;omega))
   have f:=jh (f.o.grown h (by have:=j.o;simp;omega))
   have b:=jh (b.o.grown h (by have:=j.o;simp;omega))
   have a:=jh (zab a.o h (by have:=j.o;omega))
   have g:=jh p
   clear p h m l
   have e1:=f.o.cell ((255 - k) / 8)
   rw[zbg (by have:=a6.o;omega)]at e1
   generalize a0:(nb.getD ((255 - k) / 8) 0).toNat=K at*
   have s1:((255 - (k:Int)) / 8).toNat=(255 - k) / 8:=by omega
   have s2:(0:Int)≤(255 - (k:Int)) / 8:=by omega
   have s3:(255 - (k:Int)) / 8<32:=by omega
   have s4:(0:Int)≤(255 - (k:Int))%8:=by omega
   have s5:(255 - (k:Int))%8<8:=by omega
   have s6:((255 - (k:Int))%8).toNat=(255 - k)%8:=by omega
   have x:=leN_bit nb (255 - k) (by have:=a6.o;omega)
   rw[a0]at x
   have J:(K:Int) / 2^((255 - k)%8)=((K / 2^((255 - k)%8):Nat):Int):=by
    rw[Int.natCast_ediv,Int.natCast_pow]
    rfl
   have Z:(leN nb).testBit (255 - k)=decide (leN nb / 2^(255 - k)%2=1):=Nat.testBit_eq_decide_div_mod_eq
   have D:Hid (erun 256 s (leN nb) (k+1)=if decide (leN nb / 2^(255 - k)%2=1)=true then(t.sum t).sum s else t.sum t):=jh (by rw[erun,a3.o,←Z])
   by_cases y:leN nb / 2^(255 - k)%2=1
   ·have hq:bits .and .u8 ((K:Int) / 2^((255 - k)%8)) 1=1:=by
     rw[J,andU1,←x,y]
     rfl
    have L:Hid (erun 256 s (leN nb) (k+1)=(t.sum t).sum s):=jh (by rw[D.o,if_pos (decide_eq_true y)])
    clear x J Z a0 y D
    go_upto_region 7 with(fail)
    clear hq e1 s1 s2 s3 s4 s5 s6
    obtain⟨C,E,G,I,pB,pZ⟩:=d.o
    obtain⟨a2,q⟩:=jq2 pB pZ
    clear pB pZ
    go_wp2_with (first|(refine wpList_load_mid rfl _ _ rfl T 0 rfl _ _ g.o.range q137 rfl (zcm u.o) ?_)|(refine wpList_load_mid rfl _ _ rfl A 0 rfl _ _ a2.o.range q137 rfl (zcm q.o) ?_))
    refine(rsum_f _ _ (t.sum t) s w2 ⟨_,_,_,_,rfl,u.o⟩ ⟨_,_,_,_,rfl,q.o⟩ (a1.o.ext a.o)).mono ?_
    rintro e w3 ⟨r,rfl,z,c⟩
    obtain⟨xa,xb,xc,xd,rfl,n⟩:=z
    have g:=xxb g c
    have d:=jh (d.o.ext c)
    obtain⟨f,b⟩:=xq2 f b c
    have a:=xxt a c
    have O:=jh n
    clear c n a2 q
    have m:Hid ((ptC xa xb xc xd).length=(ptC W U X M).length):=jh (by rw[zbq u.o,zbq O.o])
    go_wp2_with (refine ssb T (ptC xa xb xc xd) g.o m.o (zcm O.o) (zef _ _ _ _) ?_;intro w4 p h)
    go_roundw
    case rel=>exact⟨k+1,by omega,by go_num,by rw[L.o];exact⟨_,_,_,_,p,O.o⟩,d.o.grown h (by have:=j.o;simp;omega),f.o.grown h (by have:=j.o;simp;omega),b.o.grown h (by have:=j.o;simp;omega),zab a.o h (by have:=j.o;omega)⟩
    case measure=>simp[intOf];omega
   have a5:leN nb / 2^(255 - k)%2=0:=by omega
   have hq:bits .and .u8 ((K:Int) / 2^((255 - k)%8)) 1=0:=by
    rw[J,andU1,←x,a5]
    rfl
   have L:Hid (erun 256 s (leN nb) (k+1)=t.sum t):=jh (by rw[D.o,if_neg (by rw[decide_eq_false y];decide)])
   clear x J Z a0 y a5 D
   go_wp2_with fail
   go_roundw
   case rel=>exact⟨k+1,by omega,by go_num,by rw[L.o];exact⟨_,_,_,_,g.o,u.o⟩,d.o,f.o,b.o,a.o⟩
   case measure=>simp[intOf];omega
  have a9:k=256:=by omega
  subst a9
  have m:Hid ((ptC Q S tc Y).length=(ints .i64 (List.replicate 64 0)).length):=jh (by rw[zbq l.o,zaa];rfl)
  go_wp2_with (first|(refine wpList_load_mid rfl _ _ rfl T 0 rfl _ _ g.o.range q137 rfl (zcm l.o) ?_)|(refine ssb (A+1+1) (ptC Q S tc Y) b.o m.o (zcm l.o) (zef _ _ _ _) ?_;intro w4 a7 a8))
  refine bodyPost_ret (result_pt rfl _ (A+1+1) _ _ rfl a7 q137 (zcm l.o)) rfl ?_
  exact⟨_,rfl,⟨_,_,_,_,rfl,by rw[←a3.o];exact l.o⟩,zab a.o a8 (by have:=j.o;omega)⟩
theorem u8_and(a b:UInt8):bits .and .u8 (a.toNat:Int) (b.toNat:Int)=((a &&& b).toNat:Int):=by
 have h1:=a.toNat_lt
 have h2:=b.toNat_lt
 have key:(BitVec.ofInt 8 (a.toNat:Int) &&& BitVec.ofInt 8 (b.toNat:Int)).toNat=a.toNat &&& b.toNat:=by
  rw[BitVec.toNat_and,BitVec.toNat_ofInt,BitVec.toNat_ofInt]
  congr 1<;>omega
 show IntKind.u8.wrap ((BitVec.ofInt 8 (a.toNat:Int) &&& BitVec.ofInt 8 (b.toNat:Int)).toNat:Nat)=_
 rw[key,UInt8.toNat_and,IntKind.wrap_u8]
 have:a.toNat &&& b.toNat≤a.toNat:=Nat.and_le_left
 omega
theorem u8_or(a b:UInt8):bits .or .u8 (a.toNat:Int) (b.toNat:Int)=((a|||b).toNat:Int):=by
 have h1:=a.toNat_lt
 have h2:=b.toNat_lt
 have key:(BitVec.ofInt 8 (a.toNat:Int)|||BitVec.ofInt 8 (b.toNat:Int)).toNat=a.toNat|||b.toNat:=by
  rw[BitVec.toNat_or,BitVec.toNat_ofInt,BitVec.toNat_ofInt]
  congr 1<;>omega
 show IntKind.u8.wrap ((BitVec.ofInt 8 (a.toNat:Int)|||BitVec.ofInt 8 (b.toNat:Int)).toNat:Nat)=_
 rw[key,←UInt8.toNat_or,IntKind.wrap_u8]
 have:=(a|||b).toNat_lt
 omega
theorem u8_set(l:List UInt8)(i:Nat)(z:UInt8):(l.map bval).set i (.int .u8 (z.toNat:Int))=(l.set i z).map bval:=by
 rw[q141]
 rfl
theorem rwritten_f(v:Value)(s:ES)(P:Pt)(w:World)(hv:PtV v s)(hs:s.is P):Calls Tryz.prog 78 #[v] w fun e w'=>e=.returned (.agg ((encB P).map bval).toArray)∧Below w.heap.size w w':=by
 obtain⟨Z,pb,pc,pd,rfl,hp⟩:=hv
 obtain⟨z1,z2,z3,z4⟩:=id hp
 obtain⟨T,V,a8,ai,a9⟩:=jq5 z1 z2 z3 z4 hs
 clear z1 z2 z3 z4 hp hs
 have HB:=jh (boxes2 w (ptC Z pb pc pd) (ints .u8 (List.replicate 32 0)) 126 23)
 go_enter Tryz.func78,Tryz.ntmps78
 go_upto_region 1 with(fail)
 obtain⟨H1,Y,b⟩:=HB.o
 change Code.wp _ _ _ _ ((w.alloc (.cells (ptC Z pb pc pd).toArray 126)).alloc (.cells (ints .u8 (List.replicate 32 0)).toArray 23))
 generalize (w.alloc (.cells (ptC Z pb pc pd).toArray 126)).alloc (.cells (ints .u8 (List.replicate 32 0)).toArray 23)=wa at*
 obtain⟨A,hA⟩:=nxq w.heap.size
 have j:Hid (w.heap.size≤A):=jh (by omega)
 rw[←hA]at H1 Y⊢
 obtain⟨f,d⟩:=jq2 H1 Y
 have b:Hid (Ext w wa):=jh b
 clear hA HB H1 Y
 go_wp2_with (refine wpList_load_mid rfl _ _ rfl A 32 rfl _ _ (rng_z (f.o) T.o.len V.o.len) q103 rfl (zag a8.o.len) ?_)
 refine(rinv_f wa a8.o.el).mono ?_
 rintro e S ⟨r,rfl,i,c⟩
 obtain⟨z,I,lz⟩:=i.form
 subst I
 obtain⟨f,d⟩:=xq2 f d c
 have b:=xxt b c
 clear c
 obtain⟨u,B,HI⟩:=jq3 (Blk.made S (ints .i64 (List.replicate 16 0)) 124) (Ext.alloc S (.cells (ints .i64 (List.replicate 16 0)).toArray 124)) (zag lz)
 have k:Hid ((ints .i64 z).length=(ints .i64 (List.replicate 16 0)).length):=jh (by rw[zaa,lz];rfl)
 go_upto_region 2 with(refine ssb S.heap.size (ints .i64 z) u.o k.o HI.o (zah _ _) ?_;intro a6 a0 a7)
 have h:=jh (zab B.o a7 (q101 _))
 obtain⟨L,l⟩:=nxq S.heap.size
 have af:Hid (A+1<L):=jh (by rw[l];exact d.o.lt)
 rw[←l]at a0⊢
 obtain⟨f,d⟩:=xq2 f d h.o
 have b:=xxt b h.o
 have g:Hid (ElB a6 L (fi s.z)):=jh ⟨z,lz,a0,i⟩
 have j:=jh (And.intro j.o af.o)
 clear a0 a7 u B h l i HI k lz
 obtain⟨ah,D,H,G⟩:=g.o
 obtain⟨a3,a4,aa,a1⟩:=jq4 H G D (zag D)
 clear H G D
 go_wp2_with (first|(refine wpList_load_mid rfl _ _ rfl A 0 rfl _ _ (rng_x (f.o)) q103 rfl (zag T.o.len) ?_)|(refine slb L a3.o q103 a1.o ?_))
 refine(zcu a6 T.o.el a4.o).mono ?_
 rintro e ag ⟨r,rfl,i,c⟩
 obtain⟨z,I,lz⟩:=i.form
 subst I
 rw[is_x a9.o]at i
 have g:=jh (g.o.ext c)
 obtain⟨f,d⟩:=xq2 f d c
 have b:=xxt b c
 clear c
 have F:=jh i
 clear i
 go_wp2_with fail
 refine(rout_f ag F.o).mono ?_
 rintro e Q ⟨rfl,c⟩
 have g:=jh (g.o.ext c)
 obtain⟨f,d⟩:=xq2 f d c
 have b:=xxt b c
 clear c F lz
 obtain⟨u,B⟩:=jq2 (Blk.made Q (ints .u8 (List.replicate 32 0)) 23) (Ext.alloc Q (.cells (ints .u8 (List.replicate 32 0)).toArray 23))
 have k:Hid (((nbF P.x).map bval).length=(ints .u8 (List.replicate 32 0)).length):=jh (by rw[q100,zca,zaa];rfl)
 go_upto_region 3 with(refine ssb Q.heap.size ((nbF P.x).map bval) u.o k.o (zaf (zca _)) (zac _) ?_;intro ab E K)
 have h:=jh (zab B.o K (q101 _))
 obtain⟨Xn,l⟩:=nxq Q.heap.size
 have ae:Hid (L<Xn):=jh (by rw[l];exact g.o.lt)
 rw[←l]at E⊢
 have g:=jh (g.o.ext h.o)
 obtain⟨f,d⟩:=xq2 f d h.o
 have b:=xxt b h.o
 obtain⟨t,j⟩:=jq2 E (And.intro j.o ae.o)
 clear E K u B h l k
 obtain⟨ah,D,H,G⟩:=g.o
 obtain⟨a3,a4,aa,a1⟩:=jq4 H G D (zag D)
 clear H G D
 go_wp2_with (first|(refine wpList_load_mid rfl _ _ rfl A 16 rfl _ _ (rng_y (f.o) T.o.len) q103 rfl (zag V.o.len) ?_)|(refine slb L a3.o q103 a1.o ?_))
 refine(zcu ab V.o.el a4.o).mono ?_
 rintro e ac ⟨r,rfl,i,c⟩
 obtain⟨z,I,lz⟩:=i.form
 subst I
 rw[is_y a9.o]at i
 have g:=jh (g.o.ext c)
 obtain⟨f,d⟩:=xq2 f d c
 have b:=xxt b c
 have t:=xxb t c
 clear c
 have F:=jh i
 clear i
 go_wp2_with fail
 refine(rout_f ac F.o).mono ?_
 rintro e R ⟨rfl,c⟩
 have g:=jh (g.o.ext c)
 obtain⟨f,d⟩:=xq2 f d c
 have b:=xxt b c
 have t:=xxb t c
 clear c F lz
 obtain⟨u,B⟩:=jq2 (Blk.made R (ints .u8 (List.replicate 32 0)) 23) (Ext.alloc R (.cells (ints .u8 (List.replicate 32 0)).toArray 23))
 have k:Hid (((nbF P.y).map bval).length=(ints .u8 (List.replicate 32 0)).length):=jh (by rw[q100,zca,zaa];rfl)
 go_upto_region 4 with(refine ssb R.heap.size ((nbF P.y).map bval) u.o k.o (zaf (zca _)) (zac _) ?_;intro a5 E K)
 have h:=jh (zab B.o K (q101 _))
 obtain⟨q,l⟩:=nxq R.heap.size
 have ad:Hid (Xn<q):=jh (by rw[l];exact t.o.lt)
 rw[←l]at E⊢
 have g:=jh (g.o.ext h.o)
 obtain⟨f,d⟩:=xq2 f d h.o
 have b:=xxt b h.o
 have t:=xxb t h.o
 obtain⟨O,j⟩:=jq2 E (And.intro j.o ad.o)
 clear E K u B h l k
 have N:=nbF_odd P.x
 have W:=t.o.cell 0
 rw[zbg (by rw[zca];omega)]at W
 have c1:=O.o.cell 31
 rw[zbg (by rw[zca];omega)]at c1
 have f1:=O.o.free 31
 have C:=jh (encB_length P)
 have m:P.x.val%2=1∨P.x.val%2=0:=by omega
 rcases m with m|m
 ·have hq:bits .and .u8 (((nbF P.x).getD 0 0).toNat:Int) 1=1:=by
   rw[andU1,N,m]
   rfl
  have J:Hid (((nbF P.y).map bval).set 31 (.int .u8 (bits .or .u8 (((nbF P.y).getD 31 0).toNat:Int) 128))=(encB P).map bval):=jh (by
   have e1:=u8_or ((nbF P.y).getD 31 0) 128
   rw[show (128:Int)=((128:UInt8).toNat:Int)from rfl,e1,u8_set,enc_odd m])
  clear N m
  generalize (((nbF P.x).getD 0 0).toNat:Int)=q0 at*
  generalize (((nbF P.y).getD 31 0).toNat:Int)=n at*
  have aj:(1:Int)*2^7=128:=by decide
  go_upto_region 5 with(fail)
  have M:=jh (O.o.set 31 (.int .u8 (bits .or .u8 n 128)))
  rw[J.o]at M
  have d:=jh (d.o.far (a:=⟨q,31,none⟩) (by have:=j.o;simp;omega) (.int .u8 (bits .or .u8 n 128)))
  have b:=jh (Below.setCell b.o (p:=⟨q,31,none⟩) (by have:=j.o;simp;omega) (.int .u8 (bits .or .u8 n 128)))
  generalize bits .or .u8 n 128=X at*
  generalize a5.setCell ⟨q,31,none⟩ (.int .u8 X)=wz at*
  have b:Hid (Ext w wz):=jh b.o
  clear W c1 f1 J
  have k:Hid (((encB P).map bval).length=(ints .u8 (List.replicate 32 0)).length):=jh (by rw[q100,C.o,zaa];rfl)
  go_wp2_with (first|(refine slb q M.o q102 (zaf C.o) ?_)|(refine ssb (A+1) ((encB P).map bval) d.o k.o (zaf C.o) (zac _) ?_;intro w9 U a2))
  refine bodyPost_ret (zam rfl _ (A+1) _ _ _ _ rfl U q102 (zaf C.o)) rfl ?_
  exact⟨rfl,zab b.o a2 (by have:=j.o;omega)⟩
 have hq:bits .and .u8 (((nbF P.x).getD 0 0).toNat:Int) 1=0:=by
  rw[andU1,N,m]
  rfl
 have J:Hid (((nbF P.y).map bval).set 31 (.int .u8 (bits .or .u8 (((nbF P.y).getD 31 0).toNat:Int) 0))=(encB P).map bval):=jh (by
  have e1:=u8_or ((nbF P.y).getD 31 0) 0
  rw[show (0:Int)=((0:UInt8).toNat:Int)from rfl,e1,u8_set,enc_even m])
 clear N m
 generalize (((nbF P.x).getD 0 0).toNat:Int)=q0 at*
 generalize (((nbF P.y).getD 31 0).toNat:Int)=n at*
 go_upto_region 5 with(fail)
 have M:=jh (O.o.set 31 (.int .u8 (bits .or .u8 n 0)))
 rw[J.o]at M
 have d:=jh (d.o.far (a:=⟨q,31,none⟩) (by have:=j.o;simp;omega) (.int .u8 (bits .or .u8 n 0)))
 have b:=jh (Below.setCell b.o (p:=⟨q,31,none⟩) (by have:=j.o;simp;omega) (.int .u8 (bits .or .u8 n 0)))
 generalize bits .or .u8 n 0=X at*
 generalize a5.setCell ⟨q,31,none⟩ (.int .u8 X)=wz at*
 have b:Hid (Ext w wz):=jh b.o
 clear W c1 f1 J
 have k:Hid (((encB P).map bval).length=(ints .u8 (List.replicate 32 0)).length):=jh (by rw[q100,C.o,zaa];rfl)
 go_wp2_with (first|(refine slb q M.o q102 (zaf C.o) ?_)|(refine ssb (A+1) ((encB P).map bval) d.o k.o (zaf C.o) (zac _) ?_;intro w9 U a2))
 refine bodyPost_ret (zam rfl _ (A+1) _ _ _ _ rfl U q102 (zaf C.o)) rfl ?_
 exact⟨rfl,zab b.o a2 (by have:=j.o;omega)⟩
theorem rclamped_any(b:List UInt8)(w:World)(C:b.length=32):Calls Tryz.prog 119 #[.agg (b.map bval).toArray] w fun e H=>e=.returned (.agg ((clampB b).map bval).toArray)∧Below w.heap.size w H:=by
 obtain⟨y,v⟩:=jq2 (boxes2 w (b.map bval) (ints .u8 (List.replicate 32 0)) 23 23) C
 clear C
 go_enter Tryz.func119,Tryz.ntmps119
 go_upto_region 1 with(fail)
 obtain⟨g,d,c⟩:=y.o
 change Code.wp _ _ _ _ ((w.alloc (.cells (b.map bval).toArray 23)).alloc (.cells (ints .u8 (List.replicate 32 0)).toArray 23))
 generalize (w.alloc (.cells (b.map bval).toArray 23)).alloc (.cells (ints .u8 (List.replicate 32 0)).toArray 23)=z at*
 obtain⟨A,B⟩:=nxq w.heap.size
 have l:Hid (w.heap.size≤A):=jh (by omega)
 rw[←B]at g d⊢
 obtain⟨g,d⟩:=jq2 g d
 have c:Hid (Ext w z):=jh c
 clear B y
 obtain⟨f,k⟩:=nxq (b.set 0 (b.getD 0 0 &&& 248))
 have x:Hid ((b.map bval).set 0 (.int .u8 (bits .and .u8 ((b.getD 0 0).toNat:Int) 248))=f.map bval):=jh (by
  have t:=u8_and (b.getD 0 0) 248
  rw[show (248:Int)=((248:UInt8).toNat:Int)from rfl,t,u8_set,k])
 have L:Hid (f.length=32):=jh (by rw[k,q125,v.o])
 have r:Hid ((f.map bval).set 31 (.int .u8 (bits .or .u8 (bits .and .u8 ((f.getD 31 0).toNat:Int) 127) 64))=(clampB b).map bval):=jh (by
  have t:=u8_and (f.getD 31 0) 127
  have K:=u8_or (f.getD 31 0 &&& 127) 64
  rw[show (127:Int)=((127:UInt8).toNat:Int)from rfl,show (64:Int)=((64:UInt8).toNat:Int)from rfl,t,K,u8_set,k]
  rfl)
 have n:=jh (zcy v.o)
 obtain⟨u,q⟩:=nxq (clampB b)
 rw[←q]at n r
 have F:=jh q
 clear q
 clear k
 have c1:=g.o.cell 0
 rw[zbg (by rw[v.o];omega)]at c1
 have s:=g.o.free 0
 generalize ((b.getD 0 0).toNat:Int)=j at*
 go_upto_region 2 with(fail)
 have h:=jh (g.o.set 0 (.int .u8 (bits .and .u8 j 248)))
 rw[x.o]at h
 have d:=jh (d.o.far (a:=⟨A,0,none⟩) (by simp) (.int .u8 (bits .and .u8 j 248)))
 have c:=jh (Below.setCell c.o (p:=⟨A,0,none⟩) (by have:=l.o;simp;omega) (.int .u8 (bits .and .u8 j 248)))
 generalize bits .and .u8 j 248=I at*
 generalize z.setCell ⟨A,0,none⟩ (.int .u8 I)=G at*
 clear c1 s x g
 have c1:=h.o.cell 31
 rw[zbg (by rw[L.o];omega)]at c1
 have s:=h.o.free 31
 generalize ((f.getD 31 0).toNat:Int)=i at*
 go_upto_region 3 with(fail)
 have D:=jh (h.o.set 31 (.int .u8 (bits .or .u8 (bits .and .u8 i 127) 64)))
 rw[r.o]at D
 have d:=jh (d.o.far (a:=⟨A,31,none⟩) (by simp) (.int .u8 (bits .or .u8 (bits .and .u8 i 127) 64)))
 have c:=jh (Below.setCell c.o (p:=⟨A,31,none⟩) (by have:=l.o;simp;omega) (.int .u8 (bits .or .u8 (bits .and .u8 i 127) 64)))
 generalize bits .or .u8 (bits .and .u8 i 127) 64=J at*
 generalize G.setCell ⟨A,31,none⟩ (.int .u8 J)=wc at*
 clear c1 s r h
 have c:Hid (Ext w wc):=jh c.o
 have m:Hid ((Tryz.prog.info? 23).map (·.size)=some (u.map bval).length):=jh (zaf n.o)
 have N:Hid ((u.map bval).length=(ints .u8 (List.replicate 32 0)).length):=jh (by rw[q100,n.o,zaa,q112])
 go_wp2_with (first|(refine slb A D.o q102 m.o ?_)|(refine ssb (A+1) (u.map bval) d.o N.o m.o (zac _) ?_;intro O E M))
 refine bodyPost_ret (zam rfl _ (A+1) _ _ _ _ rfl E q102 m.o) rfl ?_
 exact⟨by rw[F.o],zab c.o M (by have:=l.o;omega)⟩
theorem Blk.row {w:World} {c:Nat} {a:List Value} {t:TypeId} {n:Nat}(h:Blk w c a t)(b:a.length=n)(d:n≤maxLen):Row1 w (.slice (some ⟨c,0,none⟩) n n) a:=by
 subst b
 refine⟨_,_,rfl,q101 _,d,(fun e=>by cases e),fun _=>⟨c,0,rfl,h.lt,fun i f=>?_⟩⟩
 rw[q117,h.cell i]
theorem Row1.head {w:World} {a:Option Addr} {n d:Nat} {c:List Value}(h:Row1 w (.slice a n d) c)(k:Nat)(s:k≤c.length):Row1 w (.slice a k d) (c.take k):=by
 obtain⟨a',t,e,h1,h2,l,r⟩:=h
 cases e
 have f:(c.take k).length=k:=by simp;omega
 refine⟨a,d,by rw[f],by rw[f];omega,h2,l,fun q=>?_⟩
 have m:c≠[]:=by intro e;subst e;simp at q
 obtain⟨b,off,e,j,p⟩:=r m
 refine⟨b,off,e,j,fun i g=>?_⟩
 rw[f]at g
 rw[p i (by omega),List.getElem?_take,if_pos g]
theorem rReduce_num(v:Value)(l:List UInt8)(w:World)(hv:Row1 w v (l.map bval))(hG:GlobO w):
  Calls Tryz.prog 121 #[v] w fun e w'=>e=.returned (.agg ((nq (leN (l.take 64):Nat)).map bval).toArray)∧Below w.heap.size w w':=by
 have HV:=jh hv
 obtain⟨a,R,rfl,r1,r2,r3,r4⟩:=hv
 have HG:=jh hG
 have O:Hid ((l.map bval).length=l.length):=jh (q100 _)
 clear hG r4 r3
 rw[O.o]at r1⊢
 unfold maxLen at r2
 obtain⟨HB,b0⟩:=jq2 (boxes2 w (ints .u8 (List.replicate 32 0)) (ints .i64 (List.replicate 33 0)) 23 208) (Ext.alloc w (.cells (ints .u8 (List.replicate 32 0)).toArray 23))
 go_enter Tryz.func121,Tryz.ntmps121
 go_upto_if 12 with(fail)
 change Code.wp _ _ _ _ (w.alloc (.cells (ints .u8 (List.replicate 32 0)).toArray 23))
 go_cut [0]from 13 to 14 (fun v wc=>∃n:Nat,v=.slice a n R∧n=(l.take 64).length∧Row1 w (.slice a n R) ((l.take 64).map bval)∧wc=w.alloc (.cells (ints .u8 (List.replicate 32 0)).toArray 23))
 case first=>
  by_cases af:l.length≤64
  ·have bf:(l.length:Int)≤64:=by omega
   have W:Hid (Row1 w (.slice a l.length R) ((l.take 64).map bval)):=jh (by rw[q108 af];have:=HV.o;rwa [O.o]at this)
   go_wp2_with fail
   go_meet
   exact⟨_,rfl,by rw[q108 af],W.o,rfl⟩
  have bf:(64:Int)<(l.length:Int):=by omega
  have W:Hid (Row1 w (.slice a 64 R) ((l.take 64).map bval)):=jh (by rw[List.map_take];exact HV.o.head 64 (by rw[O.o];omega))
  go_wp2_with fail
  go_meet
  exact⟨_,rfl,by rw[q107];omega,W.o,rfl⟩
 case rest=>
  obtain⟨n,rfl,hn,a1,rfl⟩:=hcut
  have U:(l.take 64).length≤64:=by simp;omega
  obtain⟨L,hL⟩:=nxq (l.take 64)
  rw[←hL]at hn a1 U
  have bd:=jh hL
  clear hL
  subst hn
  obtain⟨a',bk,ah,ax,b8,ar,a4⟩:=id a1
  rw[q100]at ah
  cases ah
  unfold maxLen at b8
  have HR:=jh a4
  have ad:Hid ((L.map bval).length=L.length):=jh (q100 _)
  have av:=jh U
  rw[ad.o]at ax
  clear r1 r2 HV O a1 ar a4
  go_wp2_with fail
  change Code.wp _ _ _ _ ((w.alloc (.cells (ints .u8 (List.replicate 32 0)).toArray 23)).alloc (.cells (ints .i64 (List.replicate 33 0)).toArray 208))
  generalize (w.alloc (.cells (ints .u8 (List.replicate 32 0)).toArray 23)).alloc (.cells (ints .i64 (List.replicate 33 0)).toArray 208)=w0 at*
  obtain⟨b1,Z,b4⟩:=HB.o
  obtain⟨A,hA⟩:=nxq w.heap.size
  rw[←hA]at b1 Z⊢
  have bo:w.heap.size≤A:=by omega
  obtain⟨q,g⟩:=jq2 b1 Z
  have f:Hid (Ext w w0):=jh b4
  clear b1 Z b4 hA HB b0 U
  have bj:=av.o
  go_loopw [4] (fun i wr=>∃(j:Nat),j≤8*L.length∧i=.int .i64 ((j:Int) - 1)∧Blk wr (A+1) (ints .i64 (dig 33 (upQ (leN L) j))) 208∧Blk wr A (ints .u8 (List.replicate 32 0)) 23∧Ext w wr) (fun i _=>(intOf i+1).toNat)
  case atStart=>exact⟨8*L.length,q101 _,by congr 1,by rw[upQ_start];exact g.o,q.o,f.o⟩
  case round=>
   clear q g f
   obtain⟨j,hj,rfl,m,t,r⟩:=hrel
   by_cases bm:1≤j
   ·obtain⟨i,rfl⟩:∃i,j=i+1:=⟨j - 1,by omega⟩
    have C:((i+1:Nat):Int) - 1=(i:Int):=by omega
    rw[C]
    have i0:(0:Int)≤(i:Int):=Int.natCast_nonneg _
    have i1:(i:Int)<8*(L.length:Int):=by omega
    have J:i / 8<L.length:=by omega
    obtain⟨b,off,rfl,ay,a6⟩:=HR.o (by intro e;rw[List.map_eq_nil_iff]at e;rw[e]at J;exact absurd J (by simp))
    have hc:=a6 (i / 8) (by rw[ad.o];exact J)
    rw[zbg J]at hc
    have a7:wr.cell? ⟨b,off+i / 8,none⟩=some (.int .u8 ((L.getD (i / 8) 0).toNat:Int)):=by rw[←hc];exact r.cell (p:=⟨b,off+i / 8,none⟩) ay
    have M:=leN_bit L i (by omega)
    have b7:=UInt8.toNat_lt (L.getD (i / 8) 0)
    obtain⟨p,hp⟩:=nxq (i / 8)
    obtain⟨s,hs⟩:=nxq (i%8)
    rw[←hp]at a7 b7 M J
    rw[←hs]at M
    have bg:(i:Int) / 8=(p:Int):=by omega
    have bh:(i:Int)%8=(s:Int):=by omega
    have pL:(p:Int)<(L.length:Int):=by omega
    have s8:(s:Int)<8:=by omega
    have b6:bits .and .i64 (((L.getD p 0).toNat:Int) / 2^s) 1=((leN L / 2^i%2:Nat):Int):=by
     have e:(((L.getD p 0).toNat:Int) / 2^s)=(((L.getD p 0).toNat / 2^s:Nat):Int):=by simp
     have h3:(L.getD p 0).toNat / 2^s≤(L.getD p 0).toNat:=Nat.div_le_self _ _
     rw[e,M]
     generalize (L.getD p 0).toNat / 2^s=z at*
     rw[and_i64_1 _ (by omega) (by omega)]
     omega
    obtain⟨an,T⟩:=jq2 (upQ_step (leN L) i) (upQ_lt (leN L) (i+1))
    have Y:Hid (leN L / 2^i%2=0∨leN L / 2^i%2=1):=jh (by omega)
    generalize leN L / 2^i%2=B at*
    generalize upQ (leN L) (i+1)=x at*
    generalize (L.getD p 0).toNat=c at*
    obtain⟨q,g,f⟩:=jq3 m t r
    clear m t r a6 hc M hp hs C
    go_wp2_with fail
    have al:Hid (x<256^33):=jh (by have h1:=T.o;have h2:zcn<256^33:=(by decide+kernel);omega)
    have a5:Hid (2*x+B<256^33):=jh (by have h1:=T.o;have h0:=Y.o;have h2:2*zcn+1<256^33:=(by decide+kernel);omega)
    obtain⟨P,a3⟩:=jq2 (zcr 33 x) (dig_digits 33 x)
    have aj:Hid (∀z c,DB (dig 33 x) z (B:Int) c 33→z=dig 33 (2*x+B)):=jh (fun z c h=>h.done al.o a5.o)
    have ak:Hid (DB (dig 33 x) (dig 33 x) (B:Int) (B:Int) 0):=jh (DB.start P.o (by have:=Y.o;omega))
    generalize dig 33 x=d at*
    obtain⟨wo,rfl⟩:=nxq wr
    go_loopw [5,6] (fun cv kv wr=>∃(k:Nat) (c:Int) (z:List Int),k≤33∧kv=.int .i64 (k:Int)∧cv=.int .i64 c∧DB d z (B:Int) c k∧Blk wr (A+1) (ints .i64 z) 208∧Blk wr A (ints .u8 (List.replicate 32 0)) 23∧Ext w wr) (fun _ kv _=>33 - (intOf kv).toNat)
    case atStart=>exact⟨0,_,d,by omega,rfl,rfl,ak.o,q.o,g.o,f.o⟩
    case round=>
     clear q g f a7
     obtain⟨k,cc,z,K,rfl,rfl,E,m,t,r⟩:=hrel
     have k0:(0:Int)≤(k:Int):=Int.natCast_nonneg _
     have ap:=E.car
     by_cases H:k<33
     ·have k1:(k:Int)<33:=by omega
      have b9:=E.len
      have e1:=m.cell k
      rw[zas (by omega)]at e1
      have f1:=m.free k
      have q1:=a3.o k H
      rw[←E.far k (q101 _)]at q1
      have ag:=E.step H P.o (a3.o k H)
      have hm:=zct (2*z.getD k 0+cc) (by omega) (by omega)
      have S:=jh ag
      generalize z.getD k 0=u at*
      obtain⟨q,g,f⟩:=jq3 m t r
      clear ag m t r E b9
      go_wp2_with fail
      go_roundw
      case rel=>exact⟨k+1,_,_,by omega,by go_num,rfl,S.o,q.o.seti k _,g.o.far (by simp<;>omega) _,Below.setCell f.o (by simp<;>omega) _⟩
      case measure=>simp[intOf];omega
     have be:k=33:=by omega
     subst be
     have Q:=aj.o z cc E
     subst Q
     have a0:=jh (fun w hw=>scl_rsub_any (2*x+B) w a5.o hw)
     have HF:Hid ((if 2*x+B<zcn then 2*x+B else 2*x+B - zcn)=upQ (leN L) i):=jh (by rw[sub_once _ (by have:=T.o;have:=Y.o;omega),an.o])
     have C:Hid ((Tryz.prog.info? 208).map (·.size)=some (ints .i64 (dig 33 (2*x+B))).length):=jh (by rw[zaa,zcr];exact Tryz.arr208)
     have ac:Hid ((Tryz.prog.info? 208).map (·.size)=some (ints .i64 (dig 33 (upQ (leN L) i))).length):=jh (by rw[zaa,zcr];exact Tryz.arr208)
     have ae:Hid ((ints .i64 (dig 33 (upQ (leN L) i))).length=(ints .i64 (dig 33 (2*x+B))).length):=jh (by rw[zaa,zaa,zcr,zcr])
     rw[HF.o]at a0
     obtain⟨q,g,f⟩:=jq3 m t r
     clear m t r E ap b6
     generalize 2*x+B=y at*
     obtain⟨x2,X⟩:=nxq (upQ (leN L) i)
     rw[←X]at a0 ac ae
     have au:=jh X
     clear X HF
     go_wp2_with (refine slb (A+1) q.o Tryz.underlying208 C.o ?_)
     refine(a0.o _ (HG.o.ext f.o)).mono ?_
     rintro e w5 ⟨rfl,a2⟩
     obtain⟨q,g⟩:=xq2 q g a2
     have f:=xxt f a2
     clear a2
     go_wp2_with (refine zal rfl _ _ _ rfl (A+1) _ rfl rfl _ _ q.o ae.o ac.o (zah _ _) ?_;intro w6 ab ai)
     go_roundw
     case rel=>
      rw[au.o]at ab
      exact⟨i,by omega,rfl,ab,g.o.grown ai (by simp),zab f.o ai (by omega)⟩
     case measure=>simp[intOf]
   have ao:j=0:=by omega
   subst ao
   have aq:((0:Nat):Int) - 1=-1:=rfl
   rw[aq]
   have aa:Hid (nq (leN L:Nat)=bytesN 32 (upQ (leN L) 0)):=jh (by rw[nq_nat];unfold upQ;rw[Nat.pow_zero,Nat.div_one])
   have b5:Hid (∀k,k<33→(dig 33 (upQ (leN L) 0)).getD k 0=((upQ (leN L) 0 / 256^k%256:Nat):Int)):=jh (fun k K=>dig_cut 33 _ k K)
   have G:=jh (nq_length (leN L:Nat))
   generalize upQ (leN L) 0=x at*
   have a9:Hid (∀k,k<32→((nq (leN L:Nat)).getD k 0).toNat=x / 256^k%256):=jh (fun k K=>by rw[aa.o,zdl 32 x k K])
   obtain⟨N,V⟩:=nxq (nq (leN L:Nat))
   rw[←V]at a9 G
   have aw:Hid (N=nq (leN (l.take 64):Nat)):=jh (by rw[V,bd.o])
   clear V
   have P:=jh (zcr 33 x)
   generalize dig 33 x=d at*
   obtain⟨I,q,g,f⟩:=jq4 (Blk.made wr (ints .u8 (List.replicate 32 0)) 23) (m.alloc (.cells (ints .u8 (List.replicate 32 0)).toArray 23)) (t.alloc (.cells (ints .u8 (List.replicate 32 0)).toArray 23)) (Ext.trans r (Ext.alloc wr (.cells (ints .u8 (List.replicate 32 0)).toArray 23)))
   have bl:A+1<wr.heap.size:=m.lt
   clear m t r aa
   go_wp2_with fail
   change Code.wp _ _ _ _ (wr.alloc (.cells (ints .u8 (List.replicate 32 0)).toArray 23))
   generalize wr.alloc (.cells (ints .u8 (List.replicate 32 0)).toArray 23)=w3 at*
   generalize wr.heap.size=D at*
   go_loopw [9] (fun iv wr=>∃(k:Nat),k≤32∧iv=.int .i64 (k:Int)∧Blk wr D ((fill 32 N k).map bval) 23∧Blk wr (A+1) (ints .i64 d) 208∧Blk wr A (ints .u8 (List.replicate 32 0)) 23∧Ext w wr) (fun iv _=>32 - (intOf iv).toNat)
   case atStart=>exact⟨0,by omega,rfl,by rw[fill_start];exact I.o,q.o,g.o,f.o⟩
   case round=>
    clear I q g f
    obtain⟨k,K,rfl,F,m,t,r⟩:=hrel
    have k0:(0:Int)≤(k:Int):=Int.natCast_nonneg _
    by_cases H:k<32
    ·have k1:(k:Int)<32:=by omega
     have k2:(k:Int)<33:=by omega
     have b3:=P.o
     have e1:=m.cell k
     rw[zas (by omega),b5.o k (by omega)]at e1
     have bc:((fill 32 N k).map bval).length=32:=by rw[q100,zeh G.o (by omega)]
     have e3:=F.cell k
     rw[List.getElem?_eq_getElem (by omega)]at e3
     have f3:=F.free k
     generalize ((fill 32 N k).map bval)[k]'(by omega)=c3 at e3
     have Q:((x / 256^k%256:Nat):Int)%256=((N.getD k 0).toNat:Int):=by rw[a9.o k H];omega
     have S:=jh (zdg G.o H Q)
     have bi:x / 256^k%256<256:=Nat.mod_lt _ (by omega)
     have a8:((x / 256^k%256:Nat):Int)%256=((x / 256^k%256:Nat):Int):=by omega
     rw[a8]at S
     clear Q a8
     generalize x / 256^k%256=y at*
     obtain⟨q,g,I,f⟩:=jq4 m t F r
     clear m t F r b3 bc
     go_wp2_with fail
     go_roundw
     case rel=>
      refine⟨k+1,by omega,by go_num,?_,q.o.far (by simp<;>omega) _,g.o.far (by simp<;>omega) _,Below.setCell f.o (by simp<;>omega) _⟩
      rw[←S.o]
      exact I.o.set k _
     case measure=>simp[intOf];omega
    have bb:k=32:=by omega
    subst bb
    rw[fill_full G.o]at F
    obtain⟨g,I,f⟩:=jq3 t F r
    clear m t F r
    have C:Hid ((Tryz.prog.info? 23).map (·.size)=some (N.map bval).length):=jh (zaf G.o)
    have am:Hid ((N.map bval).length=(ints .u8 (List.replicate 32 0)).length):=jh (by rw[q100,G.o];rfl)
    go_wp2_with (first|(refine slb D I.o q102 C.o ?_)|(refine zal rfl _ _ _ rfl A _ rfl rfl _ _ g.o am.o C.o (zac _) ?_;intro w7 az ba))
    exact bodyPost_ret (v:=.agg (N.map bval).toArray) (result_row (by rfl) _ A _ _ _ (by rfl) az q102 rfl C.o) rfl ⟨by rw[aw.o],zab f.o ba (by omega)⟩
theorem flat_succ(a:List (List UInt8))(k:Nat)(l:List UInt8)(h:a[k]? =some l):(a.take (k+1)).flatten=(a.take k).flatten++l:=by
 have c:k<a.length:=by
  rcases q114 k a.length with b|b
  ·exact b
  rw[List.getElem?_eq_none b]at h;cases h
 rw[q143 c,List.flatten_append]
 rw[List.getElem?_eq_getElem c]at h
 cases h
 simp
theorem flat_part(a:List (List UInt8))(k:Nat):(a.take k).flatten.length≤a.flatten.length:=by
 have h:a.flatten=(a.take k).flatten++(a.drop k).flatten:=by rw[←List.flatten_append,q130]
 rw[h,q105]
 omega
theorem join_any(v:Value)(b:List (List UInt8))(w:World)(hv:RowB w v b)(z:b.flatten.length≤1099511627776):
  Calls Tryz.prog 120 #[v] w fun e t=>∃x,e=.returned x∧Row1 t x (b.flatten.map bval)∧Below w.heap.size w t:=by
 obtain⟨i0,K,y,E,J⟩:=info_parts Tryz.info5
 obtain⟨a1,M,m,F⟩:=hv
 obtain⟨a,a4,rfl,T,r2,P,D⟩:=id M
 unfold maxLen at r2
 rw[m]at T⊢
 obtain⟨V,O,a2,X,Y,Q⟩:=jq6 K y E J F D
 obtain⟨r,U⟩:=jq2 m z
 have B:Hid (w.ownsRow w.heap.size 5 1 (.slice none 0 0) 0 []):=jh (World.ownsRow_nil _ _ _ _)
 clear M F P D z m K y E J
 go_enter Tryz.func120,Tryz.ntmps120
 go_wp2_with fail
 go_loopw [3,4] (fun x s wr=>∃(k:Nat),k≤b.length∧s=.int .i64 (k:Int)∧wr.ownsRow w.heap.size 5 1 x (b.take k).flatten.length ((b.take k).flatten.map bval)∧Ext w wr) (fun _ s _=>b.length - (intOf s).toNat)
 case atStart=>exact⟨0,by omega,rfl,B.o,Ext.refl w⟩
 case round=>
  clear B
  obtain⟨k,hk,rfl,u,g⟩:=hrel
  have k0:(0:Int)≤(k:Int):=Int.natCast_nonneg _
  obtain⟨c,d,W⟩:=jq3 u g g.size
  clear u g
  by_cases q:k<b.length
  ·have k1:(k:Int)<(b.length:Int):=by omega
   obtain⟨A,off,rfl,a0,N⟩:=Q.o (by intro e;have h:=congrArg List.length e;rw[r.o]at h;simp only[q121]at h;omega)
   obtain⟨G,f⟩:∃x,a1[k]? =some x:=⟨_,List.getElem?_eq_getElem (by rw[r.o];exact q)⟩
   obtain⟨j,l⟩:∃x,b[k]? =some x:=⟨_,List.getElem?_eq_getElem q⟩
   have S:=jh ((Y.o k G j f l).below d.o)
   have i:=flat_succ b k j l
   have I:=flat_part b (k+1)
   rw[i,q105]at I
   have Z:=jh i
   have c0:wr.cell? ⟨A,off+k,none⟩=some G:=by
    have h:=N k (by rw[r.o];exact q)
    rw[f]at h
    rw[←h]
    exact d.o.cell (p:=⟨A,off+k,none⟩) a0
   have L:Hid ((b.take k).flatten.length+(j.map bval).length≤1099511627776):=jh (by rw[q100];have:=U.o;omega)
   clear N f l i I
   go_wp2_with (at_builtin;refine zad rfl _ _ 24 rfl w.heap.size 5 i0 (.int .u8 0) 1 q104 V.o O.o a2.o X.o rfl _ _ _ rfl c.o rfl S.o (zac _) (by have:=L.o;unfold maxLen;omega) (by have:=L.o;omega) W.o ?_;intro v3 w3 H R)
   go_roundw
   case rel=>
    refine⟨k+1,by omega,by go_num,?_,zbf d.o c.o (q101 _) R⟩
    rw[Z.o,q110,q105]
    rw[q100]at H
    exact H
   case measure=>simp[intOf];omega
  have a3:(b.length:Int)≤(k:Int):=by omega
  have C:k=b.length:=by omega
  have n:=Row1.of_own c.o
  rw[C,q133]at n
  have HR:=jh n
  clear n
  clear c C
  go_wp2_with fail
  go_ret
  exact⟨_,rfl,HR.o,d.o⟩
theorem sha512_take(m:List UInt8):(sha512 m).take 64=sha512 m:=q108 (by rw[zdw];exact q101 _)
theorem rwide_f(v:Value)(b:List (List UInt8))(w:World)(F:RowB w v b)(y:b.flatten.length≤1099511627776)(E:GlobK5 w)(r:GlobO w):Calls Tryz.prog 77 #[v] w fun e G=>e=.returned (.agg ((wideB b.flatten).map bval).toArray)∧Below w.heap.size w G:=by
 obtain⟨M,p,N,J,m⟩:=jq5 F y E r (boxes_one w (ints .u8 (List.replicate 32 0)) 23)
 clear F y E r
 go_enter Tryz.func77,Tryz.ntmps77
 go_upto_region 1 with(fail)
 obtain⟨i,a⟩:=m.o
 change Code.wp _ _ _ _ (w.alloc (.cells (ints .u8 (List.replicate 32 0)).toArray 23))
 generalize w.alloc (.cells (ints .u8 (List.replicate 32 0)).toArray 23)=D at*
 obtain⟨A,C⟩:=nxq w.heap.size
 have K:Hid (w.heap.size≤A):=jh (by omega)
 rw[←C]at i⊢
 have d:=jh i
 have a:Hid (Ext w D):=jh a
 clear C m i
 go_wp2_with fail
 refine(join_any v b D (M.o.below a.o) p.o).mono ?_
 rintro e H ⟨x,rfl,q,c⟩
 have u:=jh q
 have d:=xxb d c
 have a:=xxt a c
 clear q c
 go_wp2_with fail
 refine(rShb_any x b.flatten H u.o p.o (N.o.ext a.o)).mono ?_
 rintro e wc ⟨rfl,c⟩
 have d:=xxb d c
 have a:=xxt a c
 clear c u
 have k:=jh (zdw b.flatten)
 have L:Hid (wideB b.flatten=nq (leN ((sha512 b.flatten).take 64):Nat)):=jh (by rw[sha512_take];rfl)
 generalize sha512 b.flatten=h at*
 obtain⟨z,B⟩:=jq2 (Blk.made wc (ints .u8 (List.replicate 64 0)) 26) (Ext.alloc wc (.cells (ints .u8 (List.replicate 64 0)).toArray 26))
 have f:Hid ((h.map bval).length=(ints .u8 (List.replicate 64 0)).length):=jh (by rw[q100,k.o,zaa];rfl)
 go_upto_region 2 with(refine ssb wc.heap.size (h.map bval) z.o f.o (zep k.o) (zac _) ?_;intro O s t)
 have j:=jh (zab B.o t (q101 _))
 have d:=xxb d j.o
 have a:=xxt a j.o
 generalize wc.heap.size=S at*
 have l:=jh (zbz (n:=64) s (by rw[q100,k.o]) (by unfold maxLen;omega))
 clear s t z B j f
 go_wp2_with fail
 refine(rReduce_num _ h O l.o (J.o.ext a.o)).mono ?_
 rintro e Q ⟨rfl,c⟩
 have d:=xxb d c
 have a:=xxt a c
 clear c l
 rw[←L.o]
 have g:=jh (wideB_length b.flatten)
 have f:Hid (((wideB b.flatten).map bval).length=(ints .u8 (List.replicate 32 0)).length):=jh (by rw[q100,g.o,zaa];rfl)
 go_wp2_with (refine ssb A ((wideB b.flatten).map bval) d.o f.o (zaf g.o) (zac _) ?_;intro R I P)
 refine bodyPost_ret (zam rfl _ A _ _ _ _ rfl I q102 (zaf g.o)) rfl ⟨rfl,zab a.o P K.o⟩
theorem nbc_cong {x y:Int}(h:Cong x y):nb x=nb y:=by unfold nb;rw[cong_iff.1 h]
theorem leN_nbc(x:Int):((leN (nb x):Nat):Int)=x%pP:=by
 unfold nb
 have h0:0≤x%pP:=Int.emod_nonneg x (by decide+kernel)
 have h1:x%pP<pP:=Int.emod_lt_of_pos x (by decide+kernel)
 have h2:pP<((256^32:Nat):Int):=by decide+kernel
 rw[zem,q123 (by omega)]
 omega
theorem nbc_iff {x y:Int}:nb x=nb y↔Cong x y:=by
 constructor
 ·intro h
  have h1:=leN_nbc x
  have h2:=leN_nbc y
  rw[h]at h1
  exact cong_iff.2 (h1.symm.trans h2)
 exact nbc_cong
theorem rtc_iff {x:Int}(h:¬pP∣x):rootB x=true↔Cong (x^pM) 1:=by
 rw[←root_found h]
 unfold rootB rootR
 by_cases h1:nb (x^pE*x^pE)=nb x
 ·rw[if_pos h1,decide_eq_true_iff]
  exact⟨fun _=>Or.inl (nbc_iff.1 h1),fun _=>h1⟩
 rw[if_neg h1,decide_eq_true_iff]
 constructor
 ·intro h2
  exact Or.inr (nbc_iff.1 h2)
 rintro(h2|h2)
 ·exact absurd (nbc_iff.2 h2) h1
 exact nbc_iff.2 h2
theorem rtc_sq {x:Int}(h:rootB x=true):Cong (rootR x*rootR x) x:=nbc_iff.1 (of_decide_eq_true h)
theorem rtc_of {x y:Int}(h:Cong y (x*x)):rootB y=true:=by
 by_cases a:pP∣y
 ·have d:=cong_zero.2 a
  have b:Cong (y^pE) 0:=by
   have e:(0:Int)^pE=0:=Int.zero_pow (by decide+kernel)
   have:=d.pow pE
   rw[e]at this
   exact this
  have c:nb (y^pE*y^pE)=nb y:=nbc_cong (((b.mul b).trans (by rw[Int.zero_mul];exact Cong.refl _)).trans d.symm)
  exact rootB_true (by unfold rootR;rw[if_pos c];exact c)
 exact(rtc_iff a).2 (half_of_square a h.symm)
noncomputable def rtB(a:Fp):Bool:=@decide (∃x:Fp,x*x=a) (Classical.propDecidable _)
theorem rtB_true {a:Fp}(h:∃x:Fp,x*x=a):rtB a=true:=@decide_eq_true _ (Classical.propDecidable _) h
theorem rtB_false {a:Fp}(h:¬∃x:Fp,x*x=a):rtB a=false:=@decide_eq_false _ (Classical.propDecidable _) h
theorem rt_is(x:Int):rootB x=rtB (fp x):=by
 cases hb:rootB x with
 |true=>exact(rtB_true ⟨fp (rootR x),by rw[←fp_mul,fp_eq];exact rtc_sq hb⟩).symm
 |false=>
  refine(rtB_false ?_).symm
  rintro⟨f,a⟩
  have e:fp (f.val*f.val:Int)=fp x:=by rw[fp_mul,fp_self,a]
  rw[rtc_of (x:=f.val) (fp_eq.1 e).symm]at hb
  cases hb
theorem rad_eq(y:Fp):(y*y - fp 1)*fi (dF*(y*y)+fp 1)=rad y:=by
 unfold rad
 rw[fp_one]
theorem read_is {n:List UInt8}(h:n.length=32)(g:leN (yB n)<pN) {f:Fp}(a:f*f=rad (fp ((leN (yB n):Nat):Int)))(h0:¬(f=0∧bitN n=1)) {x:Fp}(c:x=pickX f (bitN n)):
  edMay n∧∀P,encB P=n→(⟨x,fp ((leN (yB n):Nat):Int),fp 1,x*fp ((leN (yB n):Nat):Int)⟩:ES).is P:=by
 have b:=read_enc h g a h0
 refine⟨⟨_,b⟩,fun P d=>?_⟩
 have e:P=readP f (fp ((leN (yB n):Nat):Int)) (bitN n) a:=encB_inj (d.trans b.symm)
 rw[e,c,fp_one]
 exact Pt.es_is _
theorem nbc_self {l:List UInt8}(h:l.length=32)(a:leN l<pN):nb ((leN l:Nat):Int)=l:=by
 have e:pP=((pN:Nat):Int):=by decide+kernel
 unfold nb
 rw[e,←Int.natCast_emod,Int.toNat_natCast,q123 a]
 have:=bytesN_leN l
 rwa [h]at this
theorem nbc_not {l:List UInt8}(a:pN≤leN l):nb ((leN l:Nat):Int)≠l:=by
 intro h
 have h1:=leN_nbc ((leN l:Nat):Int)
 rw[h]at h1
 have e:pP=((pN:Nat):Int):=by decide+kernel
 have h2:((leN l:Nat):Int)%pP<pP:=Int.emod_lt_of_pos _ (by decide+kernel)
 rw[e]at h1 h2
 omega
theorem may_no_f {n:List UInt8}(h:n.length=32)(d:leN (yB n)<pN) {f:Fp}(a:f*f=rad (fp ((leN (yB n):Nat):Int)))(b:f=0)(c:bitN n=1):¬edMay n:=by
 refine may_no_bit h d c ?_
 rw[←a,b,Fin.zero_mul]
theorem rroot_f {u:Value} {a:Fp}(w:World)(i:ElF u a)(j:Glob w):Calls Tryz.prog 134 #[u] w fun e b=>∃r f,e=.returned (.tuple #[r,.bool (rtB a)])∧ElF r f∧(rtB a=true→f*f=a)∧Below w.heap.size w b:=by
 obtain⟨x,g,rfl⟩:=i
 refine(rroot_any u x w g j).mono ?_
 rintro e b ⟨⟨r,rfl,d⟩,c⟩
 refine⟨r,fp (rootR x),by rw[rt_is],⟨_,d,rfl⟩,fun h=>?_,c⟩
 rw[←fp_mul,fp_eq]
 exact rtc_sq (by rw[rt_is];exact h)
theorem rCanon_num(l:List UInt8)(w:World)(a:l.length=32):
  Calls Tryz.prog 132 #[.agg (l.map bval).toArray] w fun e p=>e=.returned (numP (leN l))∧Below w.heap.size w p:=by
 obtain⟨E,c⟩:=jq2 a (boxes2 w (l.map bval) (ints .u8 (List.replicate 32 0)) 23 23)
 have D:Hid ((Tryz.prog.info? 23).map (·.size)=some (l.map bval).length):=jh (by rw[q100,a];exact Tryz.arr23)
 have m:Hid ((Tryz.prog.info? 23).map (·.size)=some ((bytesN 32 ((leN l:Int)%pP).toNat).map bval).length):=jh (by rw[q100,zaq];exact Tryz.arr23)
 have q:=jh (rin_el l ((w.alloc (.cells (l.map bval).toArray 23)).alloc (.cells (ints .u8 (List.replicate 32 0)).toArray 23)) a)
 clear a
 go_enter Tryz.func132,Tryz.ntmps132
 go_wp2_with (refine slb w.heap.size c.o.1 q102 D.o ?_)
 change Calls _ _ _ ((w.alloc (.cells (l.map bval).toArray 23)).alloc (.cells (ints .u8 (List.replicate 32 0)).toArray 23)) _
 generalize (w.alloc (.cells (l.map bval).toArray 23)).alloc (.cells (ints .u8 (List.replicate 32 0)).toArray 23)=F at*
 obtain⟨h1,h2,j⟩:=c.o
 obtain⟨A,h⟩:=nxq w.heap.size
 rw[←h]at h1 h2⊢
 have I:w.heap.size≤A:=by omega
 obtain⟨u,b⟩:=jq2 h2 j
 clear h1 h2 j c h
 refine q.o.mono ?_
 rintro e y ⟨t,rfl,i,k⟩
 have s:=jh (rout_any t _ y i)
 have g:=jh k
 clear k i
 go_wp2_with fail
 refine s.o.mono ?_
 rintro e H ⟨rfl,f⟩
 have d:=jh (g.o.trans (f.mono g.o.size))
 have x:=jh (bl_blk u.o d.o)
 have C:Hid (((bytesN 32 ((leN l:Int)%pP).toNat).map bval).length=(ints .u8 (List.replicate 32 0)).length):=jh (by rw[q100,zaq];rfl)
 clear f
 go_wp2_with (refine zal rfl _ _ _ rfl (A+1) _ rfl rfl _ _ x.o C.o m.o (zac _) ?_;intro G n z)
 exact bodyPost_ret (v:=numP (leN l)) (zam (by rfl) _ (A+1) _ _ _ _ (by rfl) n q102 m.o) rfl ⟨rfl,(b.o.trans (d.o.mono b.o.size)).grown z (q119 b.o.size d.o.size) (fun r B=>by cases B;omega)⟩
end Go.Proofs.YtgnfdonbholcdaaGreatDoor


