/- Lemmas. -/
import Derived.Test.YtgnfdonbholcdaaDoorQz06
namespace Go.Proofs.YtgnfdonbholcdaaDoor
set_option linter.unusedVariables false
set_option maxRecDepth 100000
set_option maxHeartbeats 32000000
set_option linter.unusedSimpArgs false
open Go.RowKit
theorem fars_glob {c b:Nat} {w e a:World} {v:Value} {f:List Value}(h:w.rangeAt b 0 (v::f))(d:Ext w e)(i:w.heap.size≤c)(g:Far c e a):a.rangeAt b 0 (v::f):=by
 obtain⟨j,h1,h2⟩:=g
 rcases h2 with h2|h2
 ·rw[h2]
  exact glob_ext h (d.trans h1)
 exact glob_ext h (zab (d.trans h1) h2 i)
theorem es_zero:(⟨0,fp 1,fp 1,0⟩:ES)=esZero:=by rw[fp_one];rfl
theorem es_base:(⟨fp bX,fp bY,fp 1,fp bX*fp bY⟩:ES)=bP.es:=by rw[fp_one];rfl
theorem z16_el:ElL (List.replicate 16 0) 0:=⟨by simp,el_zero⟩
theorem rnought_f(w:World):Calls Tryd.prog 58 #[] w fun e v=>∃r,e=.returned r∧PtV r esZero∧Below w.heap.size w v:=by
 have j:=jh (boxes_one w (ints .i64 (List.replicate 64 0)) 89)
 go_enter Tryd.func58,Tryd.ntmps58
 go_upto_region 1 with(fail)
 obtain⟨g,a⟩:=j.o
 change Code.wp _ _ _ _ (w.alloc (.cells (ints .i64 (List.replicate 64 0)).toArray 89))
 generalize w.alloc (.cells (ints .i64 (List.replicate 64 0)).toArray 89)=i at*
 obtain⟨A,h⟩:=nxq w.heap.size
 have s:Hid (w.heap.size≤A):=jh (by omega)
 rw[←h]at g⊢
 have c:=jh g
 have a:Hid (Ext w i):=jh a
 clear h j g
 go_wp2_with fail
 refine(rone_f 1 i (by omega) (by omega)).mono ?_
 rintro e t ⟨r,rfl,f,b⟩
 obtain⟨z1,rfl,k⟩:=f.toL
 have a:=xxt a b
 have c:=xxb c b
 have n:=jh k
 clear b f k
 go_wp2_with fail
 refine(rone_f 1 t (by omega) (by omega)).mono ?_
 rintro e wc ⟨r,rfl,f,b⟩
 obtain⟨z2,rfl,l⟩:=f.toL
 have a:=xxt a b
 have c:=xxb c b
 have m:=jh l
 clear b f l
 have d:Hid (PtZ (List.replicate 16 0) z1 z2 (List.replicate 16 0) ⟨0,fp 1,fp 1,0⟩):=jh ⟨z16_el,n.o,m.o,z16_el⟩
 have q:Hid ((ptC (List.replicate 16 0) z1 z2 (List.replicate 16 0)).length=(ints .i64 (List.replicate 64 0)).length):=jh (by rw[zbl d.o,zaa];rfl)
 go_wp2_with (first|(refine zcu rfl 89 #[(0,_),(1,_),(2,_),(3,_)] rfl #[(0,.agg (ints .i64 (List.replicate 16 0)).toArray),(1,.agg (ints .i64 z1).toArray),(2,.agg (ints .i64 z2).toArray),(3,.agg (ints .i64 (List.replicate 16 0)).toArray)] (by simp[Act.eval];try rfl) _ (build_pt d.o _) ?_)|(refine ssb A (ptC (List.replicate 16 0) z1 z2 (List.replicate 16 0)) c.o q.o (zcg d.o) (zdp _ _ _ _) ?_;intro x p u))
 refine bodyPost_ret (result_pt rfl _ A _ _ rfl p Tryd.underlying89 (zcg d.o)) rfl ?_
 exact⟨_,rfl,⟨_,_,_,_,rfl,by rw[←es_zero];exact d.o⟩,zab a.o u s.o⟩
theorem rbase_f(w:World)(B:GlobX w)(z:GlobY w):Calls Tryd.prog 42 #[] w fun e p=>∃r,e=.returned r∧PtV r bP.es∧Below w.heap.size w p:=by
 obtain⟨x,s,t⟩:=jq3 (boxes_one w (ints .i64 (List.replicate 64 0)) 89) B z
 clear B z
 go_enter Tryd.func42,Tryd.ntmps42
 go_upto_region 1 with(fail)
 obtain⟨n,c⟩:=x.o
 change Code.wp _ _ _ _ (w.alloc (.cells (ints .i64 (List.replicate 64 0)).toArray 89))
 generalize w.alloc (.cells (ints .i64 (List.replicate 64 0)).toArray 89)=d at*
 obtain⟨A,q⟩:=nxq w.heap.size
 have l:Hid (w.heap.size≤A):=jh (by omega)
 have P:Hid (∀g,g<w.heap.size→A≠g):=jh (fun g O=>by omega)
 rw[←q]at n⊢
 have F:=jh n
 have c:Hid (Ext w d):=jh c
 clear q x n
 have u:Ext d d.drew:=Ext.drew _
 refine wp_region_held_drew (S:=fun p=>Far (A) d p) (by kernel_rfl) (zao u) (fun a=>?_)
 refine tke 0 (.agg (ints .i64 bxL).toArray) rfl (sld 1 0 (fun w h=>fars_glob (s.o) c.o l.o h) Tryd.underlying87 (zaf bx_el.len)) a ?_
 simp only[nm]
 refine tke 1 (.agg (ints .i64 byL).toArray) rfl (sld 2 0 (fun w h=>fars_glob (t.o) c.o l.o h) Tryd.underlying87 (zaf by_el.len)) a ?_
 simp only[nm]
 refine tke 3 (.agg (ints .i64 bxL).toArray) rfl (sld 1 0 (fun w h=>fars_glob (s.o) c.o l.o h) Tryd.underlying87 (zaf bx_el.len)) a ?_
 simp only[nm]
 refine tke 4 (.agg (ints .i64 byL).toArray) rfl (sld 2 0 (fun w h=>fars_glob (t.o) c.o l.o h) Tryd.underlying87 (zaf by_el.len)) a ?_
 simp only[nm]
 refine rdy 2 rfl fun K b=>?_
 go_simp
 refine(rone_f 1 _ (by omega) (by omega)).mono ?_
 rintro e C ⟨L,rfl,f,E⟩
 obtain⟨z1,H,k⟩:=f.form
 subst H
 have v:Ext d C:=u.trans E
 refine b.o _ _ (zao v) (fun a=>?_)
 clear b K
 try simp only[nm]
 refine rdy 5 rfl fun K b=>?_
 go_simp
 refine(zcm _ bx_el.el by_el.el).mono ?_
 rintro e G ⟨M,rfl,i,D⟩
 obtain⟨z2,I,j⟩:=i.form
 subst I
 have m:Ext d G:=v.trans D
 refine b.o _ _ (zao m) (fun a=>?_)
 clear b K
 try simp only[nm]
 refine tke 6 (.agg (ptC bxL byL z1 z2).toArray) rfl (yi_build _ _ _ _ (build_pt (⟨⟨bx_el.len,bx_el.el⟩,⟨by_el.len,by_el.el⟩,⟨k,f⟩,⟨j,i⟩⟩:PtZ bxL byL z1 z2 ⟨fp bX,fp bY,fp 1,fp bX*fp bY⟩)) (by rfl) rfl (by simp[Act.eval])) a ?_
 simp only[nm]
 refine rdy 7 rfl fun K b=>?_
 refine zan (by rfl) ?_
 refine zaq _ _ _ rfl (A) (ptC bxL byL z1 z2) rfl rfl _ _ (zal F.o m) (by rw[zbl ((⟨⟨bx_el.len,bx_el.el⟩,⟨by_el.len,by_el.el⟩,⟨k,f⟩,⟨j,i⟩⟩:PtZ bxL byL z1 z2 ⟨fp bX,fp bY,fp 1,fp bX*fp bY⟩)),zaa];rfl) (zcg ((⟨⟨bx_el.len,bx_el.el⟩,⟨by_el.len,by_el.el⟩,⟨k,f⟩,⟨j,i⟩⟩:PtZ bxL byL z1 z2 ⟨fp bX,fp bY,fp 1,fp bX*fp bY⟩))) (zdp _ _ _ _) ?_
 intro N J y
 refine b.o _ _ (zbt m y) (fun a=>?_)
 clear b K
 try simp only[nm]
 refine dne ?_
 go_wp2_with fail
 refine bodyPost_ret (result_pt rfl _ A _ _ rfl J Tryd.underlying89 (zcg (⟨⟨bx_el.len,bx_el.el⟩,⟨by_el.len,by_el.el⟩,⟨k,f⟩,⟨j,i⟩⟩:PtZ bxL byL z1 z2 ⟨fp bX,fp bY,fp 1,fp bX*fp bY⟩))) rfl ?_
 exact⟨_,rfl,⟨_,_,_,_,rfl,by rw[←es_base];exact(⟨⟨bx_el.len,bx_el.el⟩,⟨by_el.len,by_el.el⟩,⟨k,f⟩,⟨j,i⟩⟩:PtZ bxL byL z1 z2 ⟨fp bX,fp bY,fp 1,fp bX*fp bY⟩)⟩,zab (c.o.trans m) y l.o⟩
theorem rmany_f(v:Value)(s:ES)(nb:List UInt8)(w:World)(hv:PtV v s)(hn:nb.length=32)(hG:GlobD w):Calls Tryd.prog 41 #[v,.agg (nb.map bval).toArray] w fun e w'=>∃r,e=.returned r∧PtV r (erun 256 s (leN nb) 256)∧Below w.heap.size w w':=by
 obtain⟨F,H,D,C,rfl,hp⟩:=hv
 obtain⟨u,a5,a3,HB⟩:=jq4 hp hn hG (boxes3 w (ptC F H D C) (nb.map bval) (ints .i64 (List.replicate 64 0)) 89 23 89)
 clear hp hn hG
 go_enter Tryd.func41,Tryd.ntmps41
 go_upto_region 1 with(fail)
 obtain⟨Q,X,Y,a⟩:=HB.o
 change Code.wp _ _ _ _ (((w.alloc (.cells (ptC F H D C).toArray 89)).alloc (.cells (nb.map bval).toArray 23)).alloc (.cells (ints .i64 (List.replicate 64 0)).toArray 89))
 generalize ((w.alloc (.cells (ptC F H D C).toArray 89)).alloc (.cells (nb.map bval).toArray 23)).alloc (.cells (ints .i64 (List.replicate 64 0)).toArray 89)=M at*
 obtain⟨A,hA⟩:=nxq w.heap.size
 have j:Hid (w.heap.size≤A):=jh (by omega)
 rw[←hA]at Q X Y⊢
 have d:Hid (PtB M A s):=jh ⟨_,_,_,_,Q,u.o⟩
 obtain⟨c,b⟩:=jq2 X Y
 have a:Hid (Ext w M):=jh a
 clear hA HB Q X Y u
 go_wp2_with fail
 refine(rnought_f M).mono ?_
 rintro e J ⟨r,rfl,y,f⟩
 obtain⟨ra,rb,rc,rd,rfl,p⟩:=y
 have d:=jh (d.o.ext f)
 obtain⟨c,b⟩:=xq2 c b f
 have a:=xxt a f
 have I:=jh p
 clear f p
 obtain⟨HZ,a0⟩:=jq2 (Blk.made J (ints .i64 (List.replicate 64 0)) 89) (Ext.alloc J (.cells (ints .i64 (List.replicate 64 0)).toArray 89))
 have m:Hid ((ptC ra rb rc rd).length=(ints .i64 (List.replicate 64 0)).length):=jh (by rw[zbl I.o,zaa];rfl)
 go_upto_region 2 with(refine ssb J.heap.size (ptC ra rb rc rd) HZ.o m.o (zcg I.o) (zdp _ _ _ _) ?_;intro wc n h)
 have G:=jh (zab a0.o h (q101 _))
 obtain⟨T,hT⟩:=nxq J.heap.size
 rw[←hT]at n⊢
 have j:Hid (w.heap.size≤A∧A+1+1<T):=jh ⟨j.o,by rw[hT];exact b.o.lt⟩
 have d:=jh (d.o.ext G.o)
 obtain⟨c,b⟩:=xq2 c b G.o
 have a:=xxt a G.o
 have g:Hid (PtB wc T (erun 256 s (leN nb) 0)):=jh ⟨_,_,_,_,n,I.o⟩
 clear n h HZ a0 G hT m I
 go_wp2_with fail
 go_loopw [6] (fun i wr=>∃k:Nat,k≤256∧i=.int .i64 (255 - (k:Int))∧PtB wr T (erun 256 s (leN nb) k)∧PtB wr A s∧Blk wr (A+1) (nb.map bval) 23∧Blk wr (A+1+1) (ints .i64 (List.replicate 64 0)) 89∧Ext w wr) (fun i _=>(intOf i+1).toNat)
 case atStart=>exact⟨0,by omega,rfl,g.o,d.o,c.o,b.o,a.o⟩
 case round=>
  clear g d c b a
  obtain⟨k,hk,rfl,q1,q2,q3,q4,q5⟩:=hrel
  have a9:(0:Int)≤(k:Int):=Int.natCast_nonneg _
  obtain⟨t,ht⟩:=nxq (erun 256 s (leN nb) k)
  rw[←ht]at q1
  have a4:=jh ht
  obtain⟨U,tb,tc,P,tB,tZ⟩:=q1
  obtain⟨g,l,d,c,b,a⟩:=jq6 tB tZ q2 q3 q4 q5
  clear q2 q3 q4 q5 tB tZ ht
  by_cases aa:k<256
  ·have i1:(0:Int)≤255 - (k:Int):=by omega
   have i2:(k:Int)≤255:=by omega
   go_wp2_with (first|(refine wpList_load_mid rfl _ _ rfl T 0 rfl _ _ g.o.range Tryd.underlying89 rfl (zcg l.o) ?_))
   refine(rsum_f _ _ t t wr ⟨_,_,_,_,rfl,l.o⟩ ⟨_,_,_,_,rfl,l.o⟩ (a3.o.ext a.o)).mono ?_
   rintro e w1 ⟨r,rfl,y,f⟩
   obtain⟨W,S,N,Z,rfl,p⟩:=y
   have g:=xxb g f
   have d:=jh (d.o.ext f)
   obtain⟨c,b⟩:=xq2 c b f
   have a:=xxt a f
   have q:=jh p
   clear f p
   have m:Hid ((ptC W S N Z).length=(ptC U tb tc P).length):=jh (by rw[zbl q.o,zbl l.o])
   go_upto_region 6 with(refine ssb T (ptC W S N Z) g.o m.o (zcg q.o) (zdp _ _ _ _) ?_;intro w2 n h)
   have d:=jh (d.o.grown h (by have:=j.o;simp;omega))
   have c:=jh (c.o.grown h (by have:=j.o;simp;omega))
   have b:=jh (b.o.grown h (by have:=j.o;simp;omega))
   have a:=jh (zab a.o h (by have:=j.o;omega))
   have g:=jh n
   clear n h m l
   have e1:=c.o.cell ((255 - k) / 8)
   rw[zbf (by have:=a5.o;omega)]at e1
   generalize V:(nb.getD ((255 - k) / 8) 0).toNat=E at*
   have s1:((255 - (k:Int)) / 8).toNat=(255 - k) / 8:=by omega
   have s2:(0:Int)≤(255 - (k:Int)) / 8:=by omega
   have s3:(255 - (k:Int)) / 8<32:=by omega
   have s4:(0:Int)≤(255 - (k:Int))%8:=by omega
   have s5:(255 - (k:Int))%8<8:=by omega
   have s6:((255 - (k:Int))%8).toNat=(255 - k)%8:=by omega
   have z:=leN_bit nb (255 - k) (by have:=a5.o;omega)
   rw[V]at z
   have B:(E:Int) / 2^((255 - k)%8)=((E / 2^((255 - k)%8):Nat):Int):=by
    rw[Int.natCast_ediv,Int.natCast_pow]
    rfl
   have O:(leN nb).testBit (255 - k)=decide (leN nb / 2^(255 - k)%2=1):=Nat.testBit_eq_decide_div_mod_eq
   have K:Hid (erun 256 s (leN nb) (k+1)=if decide (leN nb / 2^(255 - k)%2=1)=true then(t.sum t).sum s else t.sum t):=jh (by rw[erun,a4.o,←O])
   by_cases x:leN nb / 2^(255 - k)%2=1
   ·have hq:bits .and .u8 ((E:Int) / 2^((255 - k)%8)) 1=1:=by
     rw[B,andU1,←z,x]
     rfl
    have L:Hid (erun 256 s (leN nb) (k+1)=(t.sum t).sum s):=jh (by rw[K.o,if_pos (decide_eq_true x)])
    clear z B O V x K
    go_upto_region 7 with(fail)
    clear hq e1 s1 s2 s3 s4 s5 s6
    obtain⟨F,H,D,C,pB,pZ⟩:=d.o
    obtain⟨a2,u⟩:=jq2 pB pZ
    clear pB pZ
    go_wp2_with (first|(refine wpList_load_mid rfl _ _ rfl T 0 rfl _ _ g.o.range Tryd.underlying89 rfl (zcg q.o) ?_)|(refine wpList_load_mid rfl _ _ rfl A 0 rfl _ _ a2.o.range Tryd.underlying89 rfl (zcg u.o) ?_))
    refine(rsum_f _ _ (t.sum t) s w2 ⟨_,_,_,_,rfl,q.o⟩ ⟨_,_,_,_,rfl,u.o⟩ (a3.o.ext a.o)).mono ?_
    rintro e w3 ⟨r,rfl,y,f⟩
    obtain⟨xa,xb,xc,xd,rfl,p⟩:=y
    have g:=xxb g f
    have d:=jh (d.o.ext f)
    obtain⟨c,b⟩:=xq2 c b f
    have a:=xxt a f
    have R:=jh p
    clear f p a2 u
    have m:Hid ((ptC xa xb xc xd).length=(ptC W S N Z).length):=jh (by rw[zbl q.o,zbl R.o])
    go_wp2_with (refine ssb T (ptC xa xb xc xd) g.o m.o (zcg R.o) (zdp _ _ _ _) ?_;intro w4 n h)
    go_roundw
    case rel=>exact⟨k+1,by omega,by go_num,by rw[L.o];exact⟨_,_,_,_,n,R.o⟩,d.o.grown h (by have:=j.o;simp;omega),c.o.grown h (by have:=j.o;simp;omega),b.o.grown h (by have:=j.o;simp;omega),zab a.o h (by have:=j.o;omega)⟩
    case measure=>simp[intOf];omega
   have a1:leN nb / 2^(255 - k)%2=0:=by omega
   have hq:bits .and .u8 ((E:Int) / 2^((255 - k)%8)) 1=0:=by
    rw[B,andU1,←z,a1]
    rfl
   have L:Hid (erun 256 s (leN nb) (k+1)=t.sum t):=jh (by rw[K.o,if_neg (by rw[decide_eq_false x];decide)])
   clear z B O V x a1 K
   go_wp2_with fail
   go_roundw
   case rel=>exact⟨k+1,by omega,by go_num,by rw[L.o];exact⟨_,_,_,_,g.o,q.o⟩,d.o,c.o,b.o,a.o⟩
   case measure=>simp[intOf];omega
  have a8:k=256:=by omega
  subst a8
  have m:Hid ((ptC U tb tc P).length=(ints .i64 (List.replicate 64 0)).length):=jh (by rw[zbl l.o,zaa];rfl)
  go_wp2_with (first|(refine wpList_load_mid rfl _ _ rfl T 0 rfl _ _ g.o.range Tryd.underlying89 rfl (zcg l.o) ?_)|(refine ssb (A+1+1) (ptC U tb tc P) b.o m.o (zcg l.o) (zdp _ _ _ _) ?_;intro w4 a7 a6))
  refine bodyPost_ret (result_pt rfl _ (A+1+1) _ _ rfl a7 Tryd.underlying89 (zcg l.o)) rfl ?_
  exact⟨_,rfl,⟨_,_,_,_,rfl,by rw[←a4.o];exact l.o⟩,zab a.o a6 (by have:=j.o;omega)⟩
theorem is_x {s:ES} {P:Pt}(h:s.is P):s.x*fi s.z=P.x:=by
 obtain⟨h0,h1,h2,a⟩:=h
 rw[h1,Fin.mul_assoc,f_inv h0,Fin.mul_one]
theorem is_y {s:ES} {P:Pt}(h:s.is P):s.y*fi s.z=P.y:=by
 obtain⟨h0,h1,h2,a⟩:=h
 rw[h2,Fin.mul_assoc,f_inv h0,Fin.mul_one]
theorem leN_set:∀(l:List UInt8) (i:Nat) (z:UInt8),i<l.length→leN (l.set i z)+256^i*(l.getD i 0).toNat=leN l+256^i*z.toNat
 |[],i,z,h=>by simp at h
 |a::l,0,z,h=>by
  simp only[List.set_cons_zero,leN,List.getD_cons_zero,Nat.pow_zero,Nat.one_mul]
  omega
 |a::l,i+1,z,h=>by
  have d:=leN_set l i z (by simpa using h)
  simp only[List.set_cons_succ,leN,List.getD_cons_succ,q119]
  have c:256^i*256*(l.getD i 0).toNat=256*(256^i*(l.getD i 0).toNat):=by rw[q120 (256^i) 256,Nat.mul_assoc]
  have b:256^i*256*z.toNat=256*(256^i*z.toNat):=by rw[q120 (256^i) 256,Nat.mul_assoc]
  rw[c,b]
  omega
theorem u8_or128(b:UInt8)(h:b.toNat<128):(b|||128).toNat=b.toNat+128:=by
 have a:∀n:Fin 128,((UInt8.ofNat n.val)|||128).toNat=n.val+128:=by decide+kernel
 have:=a ⟨b.toNat,h⟩
 simpa using this
theorem set_high {f:Fp}:(nbF f).set 31 ((nbF f).getD 31 0|||128)=bytesN 32 (f.val+2^255):=by
 have c:=zbw f
 have h1:=leN_set (nbF f) 31 ((nbF f).getD 31 0|||128) (by omega)
 rw[u8_or128 _ (nbF_top f)]at h1
 have h2:leN (nbF f)=f.val:=by
  unfold nbF
  rw[zdw,q112 (Nat.lt_trans f.isLt (by decide+kernel))]
 have e:(256:Nat)^31*128=2^255:=by decide+kernel
 rw[Nat.mul_add,e,h2]at h1
 have b:leN ((nbF f).set 31 ((nbF f).getD 31 0|||128))=f.val+2^255:=by omega
 have a:=bytesN_leN ((nbF f).set 31 ((nbF f).getD 31 0|||128))
 rw[b,q117,c]at a
 exact a.symm
theorem nbF_odd(f:Fp):((nbF f).getD 0 0).toNat%2=f.val%2:=by
 unfold nbF
 rw[zcz 32 f.val 0 (by omega)]
 omega
theorem enc_odd {P:Pt}(h:P.x.val%2=1):(nbF P.y).set 31 ((nbF P.y).getD 31 0|||128)=encB P:=by
 rw[set_high]
 unfold encB enc
 rw[h,Nat.mul_one]
theorem enc_even {P:Pt}(h:P.x.val%2=0):(nbF P.y).set 31 ((nbF P.y).getD 31 0|||0)=encB P:=by
 rw[UInt8.or_zero]
 have e:(nbF P.y).set 31 ((nbF P.y).getD 31 0)=nbF P.y:=by
  have:=mask_id (zbw P.y) (nbF_top P.y)
  unfold maskB at this
  rwa [u8_mask _ (nbF_top P.y)]at this
 rw[e]
 unfold encB enc
 rw[h,Nat.mul_zero,Nat.add_zero]
 rfl
def yB(n:List UInt8):List UInt8:=maskB n
def bitN(n:List UInt8):Nat:=(n.getD 31 0).toNat / 128
theorem bitN_lt(n:List UInt8):bitN n<2:=by
 have:=(n.getD 31 0).toNat_lt
 unfold bitN
 omega
theorem u8_and127(b:UInt8):(b &&& 127).toNat+128*(b.toNat / 128)=b.toNat:=by
 have a:∀n:Fin 256,((UInt8.ofNat n.val) &&& 127).toNat+128*(n.val / 128)=n.val:=by decide+kernel
 have:=a ⟨b.toNat,b.toNat_lt⟩
 simpa using this
theorem leN_y {n:List UInt8}(h:n.length=32):leN n=leN (yB n)+2^255*bitN n:=by
 have h1:=leN_set n 31 (n.getD 31 0 &&& 127) (by omega)
 have h2:=u8_and127 (n.getD 31 0)
 have e:(256:Nat)^31*128=2^255:=by decide+kernel
 unfold yB maskB bitN
 rw[←e,Nat.mul_assoc]
 rw[←h2,Nat.mul_add]at h1
 omega
theorem leN_yB_lt {n:List UInt8}(h:n.length=32):leN (yB n)<2^255:=by
 refine leN_top (maskB_length h) ?_
 unfold yB maskB
 rw[getD_set_self _ 31 _ (by omega)]
 have a:∀m:Fin 256,((UInt8.ofNat m.val) &&& 127).toNat<128:=by decide+kernel
 have:=a ⟨(n.getD 31 0).toNat,(n.getD 31 0).toNat_lt⟩
 simpa using this
theorem may_no_y {n:List UInt8}(h:n.length=32)(a:pN≤leN (yB n)):¬edMay n:=by
 refine may_above ?_
 rw[leN_y h,Nat.add_mul_mod_self_left,q112 (leN_yB_lt h)]
 exact a
theorem fp_y {n:List UInt8}(a:leN (yB n)<pN):(fp ((leN (yB n):Nat):Int)).val=leN (yB n):=by
 rw[fp_val]
 have e:pP=((pN:Nat):Int):=by decide+kernel
 rw[e,←Int.natCast_emod,Int.toNat_natCast,q112 a]
theorem may_no_root {n:List UInt8}(h:n.length=32)(a:leN (yB n)<pN)(c:∀x:Fp,x*x≠rad (fp ((leN (yB n):Nat):Int))):¬edMay n:=by
 rintro⟨P,rfl⟩
 refine no_point (y:=fp ((leN (yB (encB P)):Nat):Int)) (bitN_lt (encB P)) (fun x b=>absurd b (c x)) P ?_
 rw[fp_y a,←leN_y h,leN_encB]
theorem may_no_bit {n:List UInt8}(h:n.length=32)(b:leN (yB n)<pN)(c:bitN n=1)(d:rad (fp ((leN (yB n):Nat):Int))=0):¬edMay n:=by
 rintro⟨P,rfl⟩
 refine no_point (y:=fp ((leN (yB (encB P)):Nat):Int)) (bitN_lt (encB P)) (fun x a=>⟨?_,c⟩) P ?_
 ·rw[d]at a
  rcases f_dom a with h|h<;>exact h
 rw[fp_y b,←leN_y h,leN_encB]
theorem read_enc {n:List UInt8}(h:n.length=32)(b:leN (yB n)<pN) {x:Fp}(a:x*x=rad (fp ((leN (yB n):Nat):Int)))(h0:¬(x=0∧bitN n=1)):encB (readP x (fp ((leN (yB n):Nat):Int)) (bitN n) a)=n:=by
 unfold encB
 rw[readP_enc a (bitN_lt n) h0,fp_y b,←leN_y h]
 have:=bytesN_leN n
 rwa [h]at this
theorem u8_and(a b:UInt8):bits .and .u8 (a.toNat:Int) (b.toNat:Int)=((a &&& b).toNat:Int):=by
 have h1:=a.toNat_lt
 have h2:=b.toNat_lt
 have key:(BitVec.ofInt 8 (a.toNat:Int) &&& BitVec.ofInt 8 (b.toNat:Int)).toNat=a.toNat &&& b.toNat:=by
  rw[BitVec.toNat_and,BitVec.toNat_ofInt,BitVec.toNat_ofInt]
  congr 1<;>omega
 show IntKind.u8.wrap ((BitVec.ofInt 8 (a.toNat:Int) &&& BitVec.ofInt 8 (b.toNat:Int)).toNat:Nat)=_
 rw[key,UInt8.toNat_and,IntKind.wrap_u8]
 have:a.toNat &&& b.toNat≤a.toNat:=Nat.and_le_left
 omega
theorem u8_or(a b:UInt8):bits .or .u8 (a.toNat:Int) (b.toNat:Int)=((a|||b).toNat:Int):=by
 have h1:=a.toNat_lt
 have h2:=b.toNat_lt
 have key:(BitVec.ofInt 8 (a.toNat:Int)|||BitVec.ofInt 8 (b.toNat:Int)).toNat=a.toNat|||b.toNat:=by
  rw[BitVec.toNat_or,BitVec.toNat_ofInt,BitVec.toNat_ofInt]
  congr 1<;>omega
 show IntKind.u8.wrap ((BitVec.ofInt 8 (a.toNat:Int)|||BitVec.ofInt 8 (b.toNat:Int)).toNat:Nat)=_
 rw[key,←UInt8.toNat_or,IntKind.wrap_u8]
 have:=(a|||b).toNat_lt
 omega
theorem u8_set(l:List UInt8)(i:Nat)(z:UInt8):(l.map bval).set i (.int .u8 (z.toNat:Int))=(l.set i z).map bval:=by
 rw[List.map_set]
 rfl
theorem rwritten_f(v:Value)(s:ES)(P:Pt)(w:World)(hv:PtV v s)(hs:s.is P):Calls Tryd.prog 40 #[v] w fun e w'=>e=.returned (.agg ((encB P).map bval).toArray)∧Below w.heap.size w w':=by
 obtain⟨X,pb,V,U,rfl,hp⟩:=hv
 obtain⟨z1,z2,z3,z4⟩:=id hp
 obtain⟨S,Z,a9,ai,a8⟩:=jq5 z1 z2 z3 z4 hs
 clear z1 z2 z3 z4 hp hs
 have HB:=jh (boxes2 w (ptC X pb V U) (ints .u8 (List.replicate 32 0)) 89 23)
 go_enter Tryd.func40,Tryd.ntmps40
 go_upto_region 1 with(fail)
 obtain⟨H1,H2,b⟩:=HB.o
 change Code.wp _ _ _ _ ((w.alloc (.cells (ptC X pb V U).toArray 89)).alloc (.cells (ints .u8 (List.replicate 32 0)).toArray 23))
 generalize (w.alloc (.cells (ptC X pb V U).toArray 89)).alloc (.cells (ints .u8 (List.replicate 32 0)).toArray 23)=wa at*
 obtain⟨A,hA⟩:=nxq w.heap.size
 have k:Hid (w.heap.size≤A):=jh (by omega)
 rw[←hA]at H1 H2⊢
 obtain⟨f,d⟩:=jq2 H1 H2
 have b:Hid (Ext w wa):=jh b
 clear hA HB H1 H2
 go_wp2_with (refine wpList_load_mid rfl _ _ rfl A 32 rfl _ _ (rng_z (f.o) S.o.len Z.o.len) Tryd.underlying87 rfl (zaf a9.o.len) ?_)
 refine(rinv_f wa a9.o.el).mono ?_
 rintro e Q ⟨r,rfl,i,c⟩
 obtain⟨z,K,lz⟩:=i.form
 subst K
 obtain⟨f,d⟩:=xq2 f d c
 have b:=xxt b c
 clear c
 obtain⟨C,t,HI⟩:=jq3 (Blk.made Q (ints .i64 (List.replicate 16 0)) 87) (Ext.alloc Q (.cells (ints .i64 (List.replicate 16 0)).toArray 87)) (zaf lz)
 have j:Hid ((ints .i64 z).length=(ints .i64 (List.replicate 16 0)).length):=jh (by rw[zaa,lz];rfl)
 go_upto_region 2 with(refine ssb Q.heap.size (ints .i64 z) C.o j.o HI.o (zai _ _) ?_;intro a6 Y a5)
 have h:=jh (zab t.o a5 (q101 _))
 obtain⟨F,l⟩:=nxq Q.heap.size
 have ah:Hid (A+1<F):=jh (by rw[l];exact d.o.lt)
 rw[←l]at Y⊢
 obtain⟨f,d⟩:=xq2 f d h.o
 have b:=xxt b h.o
 have g:Hid (ElB a6 F (fi s.z)):=jh ⟨z,lz,Y,i⟩
 have k:=jh (And.intro k.o ah.o)
 clear Y a5 C t h l i HI j lz
 obtain⟨ac,D,M,H⟩:=g.o
 obtain⟨a0,a2,ab,a1⟩:=jq4 M H D (zaf D)
 clear M H D
 go_wp2_with (first|(refine wpList_load_mid rfl _ _ rfl A 0 rfl _ _ (rng_x (f.o)) Tryd.underlying87 rfl (zaf S.o.len) ?_)|(refine slb F a0.o Tryd.underlying87 a1.o ?_))
 refine(zcm a6 S.o.el a2.o).mono ?_
 rintro e ae ⟨r,rfl,i,c⟩
 obtain⟨z,K,lz⟩:=i.form
 subst K
 rw[is_x a8.o]at i
 have g:=jh (g.o.ext c)
 obtain⟨f,d⟩:=xq2 f d c
 have b:=xxt b c
 clear c
 have J:=jh i
 clear i
 go_wp2_with fail
 refine(rout_f ae J.o).mono ?_
 rintro e O ⟨rfl,c⟩
 have g:=jh (g.o.ext c)
 obtain⟨f,d⟩:=xq2 f d c
 have b:=xxt b c
 clear c J lz
 obtain⟨C,t⟩:=jq2 (Blk.made O (ints .u8 (List.replicate 32 0)) 23) (Ext.alloc O (.cells (ints .u8 (List.replicate 32 0)).toArray 23))
 have j:Hid (((nbF P.x).map bval).length=(ints .u8 (List.replicate 32 0)).length):=jh (by rw[q100,zbw,zaa];rfl)
 go_upto_region 3 with(refine ssb O.heap.size ((nbF P.x).map bval) C.o j.o (zag (zbw _)) (zac _) ?_;intro ad E I)
 have h:=jh (zab t.o I (q101 _))
 obtain⟨Xn,l⟩:=nxq O.heap.size
 have aa:Hid (F<Xn):=jh (by rw[l];exact g.o.lt)
 rw[←l]at E⊢
 have g:=jh (g.o.ext h.o)
 obtain⟨f,d⟩:=xq2 f d h.o
 have b:=xxt b h.o
 obtain⟨u,k⟩:=jq2 E (And.intro k.o aa.o)
 clear E I C t h l j
 obtain⟨ac,D,M,H⟩:=g.o
 obtain⟨a0,a2,ab,a1⟩:=jq4 M H D (zaf D)
 clear M H D
 go_wp2_with (first|(refine wpList_load_mid rfl _ _ rfl A 16 rfl _ _ (rng_y (f.o) S.o.len) Tryd.underlying87 rfl (zaf Z.o.len) ?_)|(refine slb F a0.o Tryd.underlying87 a1.o ?_))
 refine(zcm ad Z.o.el a2.o).mono ?_
 rintro e af ⟨r,rfl,i,c⟩
 obtain⟨z,K,lz⟩:=i.form
 subst K
 rw[is_y a8.o]at i
 have g:=jh (g.o.ext c)
 obtain⟨f,d⟩:=xq2 f d c
 have b:=xxt b c
 have u:=xxb u c
 clear c
 have J:=jh i
 clear i
 go_wp2_with fail
 refine(rout_f af J.o).mono ?_
 rintro e R ⟨rfl,c⟩
 have g:=jh (g.o.ext c)
 obtain⟨f,d⟩:=xq2 f d c
 have b:=xxt b c
 have u:=xxb u c
 clear c J lz
 obtain⟨C,t⟩:=jq2 (Blk.made R (ints .u8 (List.replicate 32 0)) 23) (Ext.alloc R (.cells (ints .u8 (List.replicate 32 0)).toArray 23))
 have j:Hid (((nbF P.y).map bval).length=(ints .u8 (List.replicate 32 0)).length):=jh (by rw[q100,zbw,zaa];rfl)
 go_upto_region 4 with(refine ssb R.heap.size ((nbF P.y).map bval) C.o j.o (zag (zbw _)) (zac _) ?_;intro a7 E I)
 have h:=jh (zab t.o I (q101 _))
 obtain⟨n,l⟩:=nxq R.heap.size
 have ag:Hid (Xn<n):=jh (by rw[l];exact u.o.lt)
 rw[←l]at E⊢
 have g:=jh (g.o.ext h.o)
 obtain⟨f,d⟩:=xq2 f d h.o
 have b:=xxt b h.o
 have u:=xxb u h.o
 obtain⟨N,k⟩:=jq2 E (And.intro k.o ag.o)
 clear E I C t h l j
 have T:=nbF_odd P.x
 have W:=u.o.cell 0
 rw[zbf (by rw[zbw];omega)]at W
 have c1:=N.o.cell 31
 rw[zbf (by rw[zbw];omega)]at c1
 have f1:=N.o.free 31
 have B:=jh (encB_length P)
 have m:P.x.val%2=1∨P.x.val%2=0:=by omega
 rcases m with m|m
 ·have hq:bits .and .u8 (((nbF P.x).getD 0 0).toNat:Int) 1=1:=by
   rw[andU1,T,m]
   rfl
  have L:Hid (((nbF P.y).map bval).set 31 (.int .u8 (bits .or .u8 (((nbF P.y).getD 31 0).toNat:Int) 128))=(encB P).map bval):=jh (by
   have e1:=u8_or ((nbF P.y).getD 31 0) 128
   rw[show (128:Int)=((128:UInt8).toNat:Int)from rfl,e1,u8_set,enc_odd m])
  clear T m
  generalize (((nbF P.x).getD 0 0).toNat:Int)=q0 at*
  generalize (((nbF P.y).getD 31 0).toNat:Int)=q at*
  have aj:(1:Int)*2^7=128:=by decide
  go_upto_region 5 with(fail)
  have G:=jh (N.o.set 31 (.int .u8 (bits .or .u8 q 128)))
  rw[L.o]at G
  have d:=jh (d.o.far (a:=⟨n,31,none⟩) (by have:=k.o;simp;omega) (.int .u8 (bits .or .u8 q 128)))
  have b:=jh (Below.setCell b.o (p:=⟨n,31,none⟩) (by have:=k.o;simp;omega) (.int .u8 (bits .or .u8 q 128)))
  generalize bits .or .u8 q 128=v1 at*
  generalize a7.setCell ⟨n,31,none⟩ (.int .u8 v1)=wz at*
  have b:Hid (Ext w wz):=jh b.o
  clear W c1 f1 L
  have j:Hid (((encB P).map bval).length=(ints .u8 (List.replicate 32 0)).length):=jh (by rw[q100,B.o,zaa];rfl)
  go_wp2_with (first|(refine slb n G.o Tryd.underlying23 (zag B.o) ?_)|(refine ssb (A+1) ((encB P).map bval) d.o j.o (zag B.o) (zac _) ?_;intro w9 a4 a3))
  refine bodyPost_ret (zat rfl _ (A+1) _ _ _ _ rfl a4 Tryd.underlying23 (zag B.o)) rfl ?_
  exact⟨rfl,zab b.o a3 (by have:=k.o;omega)⟩
 have hq:bits .and .u8 (((nbF P.x).getD 0 0).toNat:Int) 1=0:=by
  rw[andU1,T,m]
  rfl
 have L:Hid (((nbF P.y).map bval).set 31 (.int .u8 (bits .or .u8 (((nbF P.y).getD 31 0).toNat:Int) 0))=(encB P).map bval):=jh (by
  have e1:=u8_or ((nbF P.y).getD 31 0) 0
  rw[show (0:Int)=((0:UInt8).toNat:Int)from rfl,e1,u8_set,enc_even m])
 clear T m
 generalize (((nbF P.x).getD 0 0).toNat:Int)=q0 at*
 generalize (((nbF P.y).getD 31 0).toNat:Int)=q at*
 go_upto_region 5 with(fail)
 have G:=jh (N.o.set 31 (.int .u8 (bits .or .u8 q 0)))
 rw[L.o]at G
 have d:=jh (d.o.far (a:=⟨n,31,none⟩) (by have:=k.o;simp;omega) (.int .u8 (bits .or .u8 q 0)))
 have b:=jh (Below.setCell b.o (p:=⟨n,31,none⟩) (by have:=k.o;simp;omega) (.int .u8 (bits .or .u8 q 0)))
 generalize bits .or .u8 q 0=v1 at*
 generalize a7.setCell ⟨n,31,none⟩ (.int .u8 v1)=wz at*
 have b:Hid (Ext w wz):=jh b.o
 clear W c1 f1 L
 have j:Hid (((encB P).map bval).length=(ints .u8 (List.replicate 32 0)).length):=jh (by rw[q100,B.o,zaa];rfl)
 go_wp2_with (first|(refine slb n G.o Tryd.underlying23 (zag B.o) ?_)|(refine ssb (A+1) ((encB P).map bval) d.o j.o (zag B.o) (zac _) ?_;intro w9 a4 a3))
 refine bodyPost_ret (zat rfl _ (A+1) _ _ _ _ rfl a4 Tryd.underlying23 (zag B.o)) rfl ?_
 exact⟨rfl,zab b.o a3 (by have:=k.o;omega)⟩
theorem rclamped_any(b:List UInt8)(w:World)(C:b.length=32):Calls Tryd.prog 54 #[.agg (b.map bval).toArray] w fun e M=>e=.returned (.agg ((clampB b).map bval).toArray)∧Below w.heap.size w M:=by
 obtain⟨B,l⟩:=jq2 (boxes2 w (b.map bval) (ints .u8 (List.replicate 32 0)) 23 23) C
 clear C
 go_enter Tryd.func54,Tryd.ntmps54
 go_upto_region 1 with(fail)
 obtain⟨g,d,c⟩:=B.o
 change Code.wp _ _ _ _ ((w.alloc (.cells (b.map bval).toArray 23)).alloc (.cells (ints .u8 (List.replicate 32 0)).toArray 23))
 generalize (w.alloc (.cells (b.map bval).toArray 23)).alloc (.cells (ints .u8 (List.replicate 32 0)).toArray 23)=y at*
 obtain⟨A,x⟩:=nxq w.heap.size
 have n:Hid (w.heap.size≤A):=jh (by omega)
 rw[←x]at g d⊢
 obtain⟨g,d⟩:=jq2 g d
 have c:Hid (Ext w y):=jh c
 clear x B
 obtain⟨f,k⟩:=nxq (b.set 0 (b.getD 0 0 &&& 248))
 have z:Hid ((b.map bval).set 0 (.int .u8 (bits .and .u8 ((b.getD 0 0).toNat:Int) 248))=f.map bval):=jh (by
  have v:=u8_and (b.getD 0 0) 248
  rw[show (248:Int)=((248:UInt8).toNat:Int)from rfl,v,u8_set,k])
 have K:Hid (f.length=32):=jh (by rw[k,q117,l.o])
 have q:Hid ((f.map bval).set 31 (.int .u8 (bits .or .u8 (bits .and .u8 ((f.getD 31 0).toNat:Int) 127) 64))=(clampB b).map bval):=jh (by
  have v:=u8_and (f.getD 31 0) 127
  have N:=u8_or (f.getD 31 0 &&& 127) 64
  rw[show (127:Int)=((127:UInt8).toNat:Int)from rfl,show (64:Int)=((64:UInt8).toNat:Int)from rfl,v,N,u8_set,k]
  rfl)
 have s:=jh (zcp l.o)
 obtain⟨t,m⟩:=nxq (clampB b)
 rw[←m]at s q
 have E:=jh m
 clear m
 clear k
 have c1:=g.o.cell 0
 rw[zbf (by rw[l.o];omega)]at c1
 have r:=g.o.free 0
 generalize ((b.getD 0 0).toNat:Int)=i at*
 go_upto_region 2 with(fail)
 have h:=jh (g.o.set 0 (.int .u8 (bits .and .u8 i 248)))
 rw[z.o]at h
 have d:=jh (d.o.far (a:=⟨A,0,none⟩) (by simp) (.int .u8 (bits .and .u8 i 248)))
 have c:=jh (Below.setCell c.o (p:=⟨A,0,none⟩) (by have:=n.o;simp;omega) (.int .u8 (bits .and .u8 i 248)))
 generalize bits .and .u8 i 248=G at*
 generalize y.setCell ⟨A,0,none⟩ (.int .u8 G)=J at*
 clear c1 r z g
 have c1:=h.o.cell 31
 rw[zbf (by rw[K.o];omega)]at c1
 have r:=h.o.free 31
 generalize ((f.getD 31 0).toNat:Int)=j at*
 go_upto_region 3 with(fail)
 have D:=jh (h.o.set 31 (.int .u8 (bits .or .u8 (bits .and .u8 j 127) 64)))
 rw[q.o]at D
 have d:=jh (d.o.far (a:=⟨A,31,none⟩) (by simp) (.int .u8 (bits .or .u8 (bits .and .u8 j 127) 64)))
 have c:=jh (Below.setCell c.o (p:=⟨A,31,none⟩) (by have:=n.o;simp;omega) (.int .u8 (bits .or .u8 (bits .and .u8 j 127) 64)))
 generalize bits .or .u8 (bits .and .u8 j 127) 64=H at*
 generalize J.setCell ⟨A,31,none⟩ (.int .u8 H)=wc at*
 clear c1 r q h
 have c:Hid (Ext w wc):=jh c.o
 have u:Hid ((Tryd.prog.info? 23).map (·.size)=some (t.map bval).length):=jh (zag s.o)
 have L:Hid ((t.map bval).length=(ints .u8 (List.replicate 32 0)).length):=jh (by rw[q100,s.o,zaa,q110])
 go_wp2_with (first|(refine slb A D.o Tryd.underlying23 u.o ?_)|(refine ssb (A+1) (t.map bval) d.o L.o u.o (zac _) ?_;intro O F I))
 refine bodyPost_ret (zat rfl _ (A+1) _ _ _ _ rfl F Tryd.underlying23 u.o) rfl ?_
 exact⟨by rw[E.o],zab c.o I (by have:=n.o;omega)⟩
theorem Blk.row {w:World} {c:Nat} {a:List Value} {t:TypeId} {n:Nat}(h:Blk w c a t)(b:a.length=n)(d:n≤maxLen):Row1 w (.slice (some ⟨c,0,none⟩) n n) a:=by
 subst b
 refine⟨_,_,rfl,q101 _,d,(fun e=>by cases e),fun _=>⟨c,0,rfl,h.lt,fun i f=>?_⟩⟩
 rw[q111,h.cell i]
theorem Row1.head {w:World} {a:Option Addr} {n d:Nat} {c:List Value}(h:Row1 w (.slice a n d) c)(k:Nat)(t:k≤c.length):Row1 w (.slice a k d) (c.take k):=by
 obtain⟨a',s,e,h1,h2,j,m⟩:=h
 cases e
 have f:(c.take k).length=k:=by simp;omega
 refine⟨a,d,by rw[f],by rw[f];omega,h2,j,fun p=>?_⟩
 have l:c≠[]:=by intro e;subst e;simp at p
 obtain⟨b,off,e,q,r⟩:=m l
 refine⟨b,off,e,q,fun i g=>?_⟩
 rw[f]at g
 rw[r i (by omega),List.getElem?_take,if_pos g]
theorem rReduce_num(v:Value)(l:List UInt8)(w:World)(hv:Row1 w v (l.map bval))(hG:GlobO w):
  Calls Tryd.prog 71 #[v] w fun e w'=>e=.returned (.agg ((nq (leN (l.take 64):Nat)).map bval).toArray)∧Below w.heap.size w w':=by
 have HV:=jh hv
 obtain⟨a,S,rfl,r1,r2,r3,r4⟩:=hv
 have HG:=jh hG
 have M:Hid ((l.map bval).length=l.length):=jh (q100 _)
 clear hG r4 r3
 rw[M.o]at r1⊢
 unfold maxLen at r2
 obtain⟨HB,bd⟩:=jq2 (boxes2 w (ints .u8 (List.replicate 32 0)) (ints .i64 (List.replicate 33 0)) 23 131) (Ext.alloc w (.cells (ints .u8 (List.replicate 32 0)).toArray 23))
 go_enter Tryd.func71,Tryd.ntmps71
 go_upto_if 12 with(fail)
 change Code.wp _ _ _ _ (w.alloc (.cells (ints .u8 (List.replicate 32 0)).toArray 23))
 go_cut [0]from 13 to 14 (fun v wc=>∃n:Nat,v=.slice a n S∧n=(l.take 64).length∧Row1 w (.slice a n S) ((l.take 64).map bval)∧wc=w.alloc (.cells (ints .u8 (List.replicate 32 0)).toArray 23))
 case first=>
  by_cases a5:l.length≤64
  ·have an:(l.length:Int)≤64:=by omega
   have a1:Hid (Row1 w (.slice a l.length S) ((l.take 64).map bval)):=jh (by rw[q105 a5];have:=HV.o;rwa [M.o]at this)
   go_wp2_with fail
   go_meet
   exact⟨_,rfl,by rw[q105 a5],a1.o,rfl⟩
  have an:(64:Int)<(l.length:Int):=by omega
  have a1:Hid (Row1 w (.slice a 64 S) ((l.take 64).map bval)):=jh (by rw[List.map_take];exact HV.o.head 64 (by rw[M.o];omega))
  go_wp2_with fail
  go_meet
  exact⟨_,rfl,by rw[q106];omega,a1.o,rfl⟩
 case rest=>
  obtain⟨n,rfl,hn,Y,rfl⟩:=hcut
  have a2:(l.take 64).length≤64:=by simp;omega
  obtain⟨L,W⟩:=nxq (l.take 64)
  rw[←W]at hn Y a2
  have b9:=jh W
  clear W
  subst hn
  obtain⟨a',bi,ah,ax,bc,b7,ab⟩:=id Y
  rw[q100]at ah
  cases ah
  unfold maxLen at bc
  have HR:=jh ab
  have ae:Hid ((L.map bval).length=L.length):=jh (q100 _)
  have am:=jh a2
  rw[ae.o]at ax
  clear r1 r2 HV M Y b7 ab
  go_wp2_with fail
  change Code.wp _ _ _ _ ((w.alloc (.cells (ints .u8 (List.replicate 32 0)).toArray 23)).alloc (.cells (ints .i64 (List.replicate 33 0)).toArray 131))
  generalize (w.alloc (.cells (ints .u8 (List.replicate 32 0)).toArray 23)).alloc (.cells (ints .i64 (List.replicate 33 0)).toArray 131)=w0 at*
  obtain⟨b1,X,b4⟩:=HB.o
  obtain⟨A,hA⟩:=nxq w.heap.size
  rw[←hA]at b1 X⊢
  have bj:w.heap.size≤A:=by omega
  obtain⟨q,g⟩:=jq2 b1 X
  have f:Hid (Ext w w0):=jh b4
  clear b1 X b4 hA HB bd a2
  have bo:=am.o
  go_loopw [4] (fun i wr=>∃(j:Nat),j≤8*L.length∧i=.int .i64 ((j:Int) - 1)∧Blk wr (A+1) (ints .i64 (dig 33 (upQ (leN L) j))) 131∧Blk wr A (ints .u8 (List.replicate 32 0)) 23∧Ext w wr) (fun i _=>(intOf i+1).toNat)
  case atStart=>exact⟨8*L.length,q101 _,by congr 1,by rw[upQ_start];exact g.o,q.o,f.o⟩
  case round=>
   clear q g f
   obtain⟨j,hj,rfl,m,t,r⟩:=hrel
   by_cases bl:1≤j
   ·obtain⟨i,rfl⟩:∃i,j=i+1:=⟨j - 1,by omega⟩
    have C:((i+1:Nat):Int) - 1=(i:Int):=by omega
    rw[C]
    have i0:(0:Int)≤(i:Int):=Int.natCast_nonneg _
    have i1:(i:Int)<8*(L.length:Int):=by omega
    have J:i / 8<L.length:=by omega
    obtain⟨b,off,rfl,bg,aj⟩:=HR.o (by intro e;rw[List.map_eq_nil_iff]at e;rw[e]at J;exact absurd J (by simp))
    have hc:=aj (i / 8) (by rw[ae.o];exact J)
    rw[zbf J]at hc
    have a4:wr.cell? ⟨b,off+i / 8,none⟩=some (.int .u8 ((L.getD (i / 8) 0).toNat:Int)):=by rw[←hc];exact r.cell (p:=⟨b,off+i / 8,none⟩) bg
    have O:=leN_bit L i (by omega)
    have aq:=UInt8.toNat_lt (L.getD (i / 8) 0)
    obtain⟨p,hp⟩:=nxq (i / 8)
    obtain⟨s,hs⟩:=nxq (i%8)
    rw[←hp]at a4 aq O J
    rw[←hs]at O
    have bh:(i:Int) / 8=(p:Int):=by omega
    have bp:(i:Int)%8=(s:Int):=by omega
    have pL:(p:Int)<(L.length:Int):=by omega
    have s8:(s:Int)<8:=by omega
    have b0:bits .and .i64 (((L.getD p 0).toNat:Int) / 2^s) 1=((leN L / 2^i%2:Nat):Int):=by
     have e:(((L.getD p 0).toNat:Int) / 2^s)=(((L.getD p 0).toNat / 2^s:Nat):Int):=by simp
     have h3:(L.getD p 0).toNat / 2^s≤(L.getD p 0).toNat:=Nat.div_le_self _ _
     rw[e,O]
     generalize (L.getD p 0).toNat / 2^s=z at*
     rw[and_i64_1 _ (by omega) (by omega)]
     omega
    obtain⟨ay,HX⟩:=jq2 (upQ_step (leN L) i) (upQ_lt (leN L) (i+1))
    have a3:Hid (leN L / 2^i%2=0∨leN L / 2^i%2=1):=jh (by omega)
    generalize leN L / 2^i%2=B at*
    generalize upQ (leN L) (i+1)=x at*
    generalize (L.getD p 0).toNat=c at*
    obtain⟨q,g,f⟩:=jq3 m t r
    clear m t r aj hc O hp hs C
    go_wp2_with fail
    have bf:Hid (x<256^33):=jh (by have h1:=HX.o;have h2:zci<256^33:=(by decide+kernel);omega)
    have a8:Hid (2*x+B<256^33):=jh (by have h1:=HX.o;have h0:=a3.o;have h2:2*zci+1<256^33:=(by decide+kernel);omega)
    obtain⟨P,a9⟩:=jq2 (zck 33 x) (dig_digits 33 x)
    have ba:Hid (∀z c,DB (dig 33 x) z (B:Int) c 33→z=dig 33 (2*x+B)):=jh (fun z c h=>h.done bf.o a8.o)
    have ao:Hid (DB (dig 33 x) (dig 33 x) (B:Int) (B:Int) 0):=jh (DB.start P.o (by have:=a3.o;omega))
    generalize dig 33 x=d at*
    obtain⟨wo,rfl⟩:=nxq wr
    go_loopw [5,6] (fun cv kv wr=>∃(k:Nat) (c:Int) (z:List Int),k≤33∧kv=.int .i64 (k:Int)∧cv=.int .i64 c∧DB d z (B:Int) c k∧Blk wr (A+1) (ints .i64 z) 131∧Blk wr A (ints .u8 (List.replicate 32 0)) 23∧Ext w wr) (fun _ kv _=>33 - (intOf kv).toNat)
    case atStart=>exact⟨0,_,d,by omega,rfl,rfl,ao.o,q.o,g.o,f.o⟩
    case round=>
     clear q g f a4
     obtain⟨k,cc,z,K,rfl,rfl,E,m,t,r⟩:=hrel
     have k0:(0:Int)≤(k:Int):=Int.natCast_nonneg _
     have ak:=E.car
     by_cases I:k<33
     ·have k1:(k:Int)<33:=by omega
      have bb:=E.len
      have e1:=m.cell k
      rw[zav (by omega)]at e1
      have f1:=m.free k
      have q1:=a9.o k I
      rw[←E.far k (q101 _)]at q1
      have ad:=E.step I P.o (a9.o k I)
      have hm:=zcl (2*z.getD k 0+cc) (by omega) (by omega)
      have R:=jh ad
      generalize z.getD k 0=u at*
      obtain⟨q,g,f⟩:=jq3 m t r
      clear ad m t r E bb
      go_wp2_with fail
      go_roundw
      case rel=>exact⟨k+1,_,_,by omega,by go_num,rfl,R.o,q.o.seti k _,g.o.far (by simp<;>omega) _,Below.setCell f.o (by simp<;>omega) _⟩
      case measure=>simp[intOf];omega
     have ap:k=33:=by omega
     subst ap
     have Q:=ba.o z cc E
     subst Q
     have Z:=jh (fun w hw=>scl_rsub_any (2*x+B) w a8.o hw)
     have HF:Hid ((if 2*x+B<zci then 2*x+B else 2*x+B - zci)=upQ (leN L) i):=jh (by rw[sub_once _ (by have:=HX.o;have:=a3.o;omega),ay.o])
     have C:Hid ((Tryd.prog.info? 131).map (·.size)=some (ints .i64 (dig 33 (2*x+B))).length):=jh (by rw[zaa,zck];exact Tryd.arr131)
     have a6:Hid ((Tryd.prog.info? 131).map (·.size)=some (ints .i64 (dig 33 (upQ (leN L) i))).length):=jh (by rw[zaa,zck];exact Tryd.arr131)
     have af:Hid ((ints .i64 (dig 33 (upQ (leN L) i))).length=(ints .i64 (dig 33 (2*x+B))).length):=jh (by rw[zaa,zaa,zck,zck])
     rw[HF.o]at Z
     obtain⟨q,g,f⟩:=jq3 m t r
     clear m t r E ak b0
     generalize 2*x+B=y at*
     obtain⟨x2,a0⟩:=nxq (upQ (leN L) i)
     rw[←a0]at Z a6 af
     have aw:=jh a0
     clear a0 HF
     go_wp2_with (refine slb (A+1) q.o Tryd.underlying131 C.o ?_)
     refine(Z.o _ (HG.o.ext f.o)).mono ?_
     rintro e w5 ⟨rfl,T⟩
     obtain⟨q,g⟩:=xq2 q g T
     have f:=xxt f T
     clear T
     go_wp2_with (refine zah rfl _ _ _ rfl (A+1) _ rfl rfl _ _ q.o af.o a6.o (zai _ _) ?_;intro w6 a7 ac)
     go_roundw
     case rel=>
      rw[aw.o]at a7
      exact⟨i,by omega,rfl,a7,g.o.grown ac (by simp),zab f.o ac (by omega)⟩
     case measure=>simp[intOf]
   have b3:j=0:=by omega
   subst b3
   have be:((0:Nat):Int) - 1=-1:=rfl
   rw[be]
   have aa:Hid (nq (leN L:Nat)=bytesN 32 (upQ (leN L) 0)):=jh (by rw[nq_nat];unfold upQ;rw[Nat.pow_zero,Nat.div_one])
   have az:Hid (∀k,k<33→(dig 33 (upQ (leN L) 0)).getD k 0=((upQ (leN L) 0 / 256^k%256:Nat):Int)):=jh (fun k K=>dig_cut 33 _ k K)
   have H:=jh (nq_length (leN L:Nat))
   generalize upQ (leN L) 0=x at*
   have ag:Hid (∀k,k<32→((nq (leN L:Nat)).getD k 0).toNat=x / 256^k%256):=jh (fun k K=>by rw[aa.o,zcz 32 x k K])
   obtain⟨N,V⟩:=nxq (nq (leN L:Nat))
   rw[←V]at ag H
   have b6:Hid (N=nq (leN (l.take 64):Nat)):=jh (by rw[V,b9.o])
   clear V
   have P:=jh (zck 33 x)
   generalize dig 33 x=d at*
   obtain⟨G,q,g,f⟩:=jq4 (Blk.made wr (ints .u8 (List.replicate 32 0)) 23) (m.alloc (.cells (ints .u8 (List.replicate 32 0)).toArray 23)) (t.alloc (.cells (ints .u8 (List.replicate 32 0)).toArray 23)) (Ext.trans r (Ext.alloc wr (.cells (ints .u8 (List.replicate 32 0)).toArray 23)))
   have bm:A+1<wr.heap.size:=m.lt
   clear m t r aa
   go_wp2_with fail
   change Code.wp _ _ _ _ (wr.alloc (.cells (ints .u8 (List.replicate 32 0)).toArray 23))
   generalize wr.alloc (.cells (ints .u8 (List.replicate 32 0)).toArray 23)=w3 at*
   generalize wr.heap.size=D at*
   go_loopw [9] (fun U wr=>∃(k:Nat),k≤32∧U=.int .i64 (k:Int)∧Blk wr D ((fill 32 N k).map bval) 23∧Blk wr (A+1) (ints .i64 d) 131∧Blk wr A (ints .u8 (List.replicate 32 0)) 23∧Ext w wr) (fun U _=>32 - (intOf U).toNat)
   case atStart=>exact⟨0,by omega,rfl,by rw[fill_start];exact G.o,q.o,g.o,f.o⟩
   case round=>
    clear G q g f
    obtain⟨k,K,rfl,F,m,t,r⟩:=hrel
    have k0:(0:Int)≤(k:Int):=Int.natCast_nonneg _
    by_cases I:k<32
    ·have k1:(k:Int)<32:=by omega
     have k2:(k:Int)<33:=by omega
     have au:=P.o
     have e1:=m.cell k
     rw[zav (by omega),az.o k (by omega)]at e1
     have al:((fill 32 N k).map bval).length=32:=by rw[q100,zdr H.o (by omega)]
     have e3:=F.cell k
     rw[List.getElem?_eq_getElem (by omega)]at e3
     have f3:=F.free k
     generalize ((fill 32 N k).map bval)[k]'(by omega)=c3 at e3
     have Q:((x / 256^k%256:Nat):Int)%256=((N.getD k 0).toNat:Int):=by rw[ag.o k I];omega
     have R:=jh (zcv H.o I Q)
     have bk:x / 256^k%256<256:=Nat.mod_lt _ (by omega)
     have ai:((x / 256^k%256:Nat):Int)%256=((x / 256^k%256:Nat):Int):=by omega
     rw[ai]at R
     clear Q ai
     generalize x / 256^k%256=y at*
     obtain⟨q,g,G,f⟩:=jq4 m t F r
     clear m t F r au al
     go_wp2_with fail
     go_roundw
     case rel=>
      refine⟨k+1,by omega,by go_num,?_,q.o.far (by simp<;>omega) _,g.o.far (by simp<;>omega) _,Below.setCell f.o (by simp<;>omega) _⟩
      rw[←R.o]
      exact G.o.set k _
     case measure=>simp[intOf];omega
    have b8:k=32:=by omega
    subst b8
    rw[fill_full H.o]at F
    obtain⟨g,G,f⟩:=jq3 t F r
    clear m t F r
    have C:Hid ((Tryd.prog.info? 23).map (·.size)=some (N.map bval).length):=jh (zag H.o)
    have ar:Hid ((N.map bval).length=(ints .u8 (List.replicate 32 0)).length):=jh (by rw[q100,H.o];rfl)
    go_wp2_with (first|(refine slb D G.o Tryd.underlying23 C.o ?_)|(refine zah rfl _ _ _ rfl A _ rfl rfl _ _ g.o ar.o C.o (zac _) ?_;intro w7 av b5))
    exact bodyPost_ret (v:=.agg (N.map bval).toArray) (result_row (by rfl) _ A _ _ _ (by rfl) av Tryd.underlying23 rfl C.o) rfl ⟨by rw[b6.o],zab f.o b5 (by omega)⟩
theorem flat_succ(a:List (List UInt8))(k:Nat)(l:List UInt8)(h:a[k]? =some l):(a.take (k+1)).flatten=(a.take k).flatten++l:=by
 have c:k<a.length:=by
  rcases q108 k a.length with b|b
  ·exact b
  rw[List.getElem?_eq_none b]at h;cases h
 rw[q128 c,List.flatten_append]
 rw[List.getElem?_eq_getElem c]at h
 cases h
 simp
theorem flat_part(a:List (List UInt8))(k:Nat):(a.take k).flatten.length≤a.flatten.length:=by
 have h:a.flatten=(a.take k).flatten++(a.drop k).flatten:=by rw[←List.flatten_append,q126]
 rw[h,q102]
 omega
theorem join_any(v:Value)(b:List (List UInt8))(w:World)(hv:RowB w v b)(N:b.flatten.length≤1099511627776):
  Calls Tryd.prog 70 #[v] w fun e L=>∃x,e=.returned x∧Row1 L x (b.flatten.map bval)∧Below w.heap.size w L:=by
 obtain⟨Z,B,z,D,J⟩:=info_parts Tryd.info5
 obtain⟨W,E,n,t⟩:=hv
 obtain⟨a,a4,rfl,Q,r2,U,F⟩:=id E
 unfold maxLen at r2
 rw[n]at Q⊢
 obtain⟨a1,V,T,a0,P,HC⟩:=jq6 B z D J t F
 obtain⟨l,Y⟩:=jq2 n N
 have H:Hid (w.ownsRow w.heap.size 5 1 (.slice none 0 0) 0 []):=jh (World.ownsRow_nil _ _ _ _)
 clear E t U F N n B z D J
 go_enter Tryd.func70,Tryd.ntmps70
 go_wp2_with fail
 go_loopw [3,4] (fun x i wr=>∃(k:Nat),k≤b.length∧i=.int .i64 (k:Int)∧wr.ownsRow w.heap.size 5 1 x (b.take k).flatten.length ((b.take k).flatten.map bval)∧Ext w wr) (fun _ i _=>b.length - (intOf i).toNat)
 case atStart=>exact⟨0,by omega,rfl,H.o,Ext.refl w⟩
 case round=>
  clear H
  obtain⟨k,hk,rfl,y,r⟩:=hrel
  have k0:(0:Int)≤(k:Int):=Int.natCast_nonneg _
  obtain⟨c,d,HS⟩:=jq3 y r r.size
  clear y r
  by_cases j:k<b.length
  ·have k1:(k:Int)<(b.length:Int):=by omega
   obtain⟨u,off,rfl,a2,M⟩:=HC.o (by intro e;have h:=congrArg List.length e;rw[l.o]at h;simp only[q115]at h;omega)
   obtain⟨C,m⟩:∃x,W[k]? =some x:=⟨_,List.getElem?_eq_getElem (by rw[l.o];exact j)⟩
   obtain⟨f,q⟩:∃x,b[k]? =some x:=⟨_,List.getElem?_eq_getElem j⟩
   have R:=jh ((P.o k C f m q).below d.o)
   have s:=flat_succ b k f q
   have I:=flat_part b (k+1)
   rw[s,q102]at I
   have S:=jh s
   have c0:wr.cell? ⟨u,off+k,none⟩=some C:=by
    have h:=M k (by rw[l.o];exact j)
    rw[m]at h
    rw[←h]
    exact d.o.cell (p:=⟨u,off+k,none⟩) a2
   have A:Hid ((b.take k).flatten.length+(f.map bval).length≤1099511627776):=jh (by rw[q100];have:=Y.o;omega)
   clear M m q s I
   go_wp2_with (at_builtin;refine zad rfl _ _ 24 rfl w.heap.size 5 Z (.int .u8 0) 1 Tryd.underlying24 a1.o V.o T.o a0.o rfl _ _ _ rfl c.o rfl R.o (zac _) (by have:=A.o;unfold maxLen;omega) (by have:=A.o;omega) HS.o ?_;intro v3 w3 G O)
   go_roundw
   case rel=>
    refine⟨k+1,by omega,by go_num,?_,zay d.o c.o (q101 _) O⟩
    rw[S.o,q104,q102]
    rw[q100]at G
    exact G
   case measure=>simp[intOf];omega
  have a3:(b.length:Int)≤(k:Int):=by omega
  have K:k=b.length:=by omega
  have g:=Row1.of_own c.o
  rw[K,q125]at g
  have X:=jh g
  clear g
  clear c K
  go_wp2_with fail
  go_ret
  exact⟨_,rfl,X.o,d.o⟩
theorem sha512_take(m:List UInt8):(sha512 m).take 64=sha512 m:=q105 (by rw[zdg];exact q101 _)
theorem rwide_f(v:Value)(b:List (List UInt8))(w:World)(D:RowB w v b)(F:b.flatten.length≤1099511627776)(C:GlobK5 w)(t:GlobO w):Calls Tryd.prog 50 #[v] w fun e O=>e=.returned (.agg ((wideB b.flatten).map bval).toArray)∧Below w.heap.size w O:=by
 obtain⟨G,m,I,L,y⟩:=jq5 D F C t (boxes_one w (ints .u8 (List.replicate 32 0)) 23)
 clear D F C t
 go_enter Tryd.func50,Tryd.ntmps50
 go_upto_region 1 with(fail)
 obtain⟨j,a⟩:=y.o
 change Code.wp _ _ _ _ (w.alloc (.cells (ints .u8 (List.replicate 32 0)).toArray 23))
 generalize w.alloc (.cells (ints .u8 (List.replicate 32 0)).toArray 23)=s at*
 obtain⟨A,r⟩:=nxq w.heap.size
 have K:Hid (w.heap.size≤A):=jh (by omega)
 rw[←r]at j⊢
 have d:=jh j
 have a:Hid (Ext w s):=jh a
 clear r y j
 go_wp2_with fail
 refine(join_any v b s (G.o.below a.o) m.o).mono ?_
 rintro e M ⟨x,rfl,l,c⟩
 have q:=jh l
 have d:=xxb d c
 have a:=xxt a c
 clear l c
 go_wp2_with fail
 refine(rShb_any x b.flatten M q.o m.o (I.o.ext a.o)).mono ?_
 rintro e wc ⟨rfl,c⟩
 have d:=xxb d c
 have a:=xxt a c
 clear c q
 have i:=jh (zdg b.flatten)
 have J:Hid (wideB b.flatten=nq (leN ((sha512 b.flatten).take 64):Nat)):=jh (by rw[sha512_take];rfl)
 generalize sha512 b.flatten=h at*
 obtain⟨E,z⟩:=jq2 (Blk.made wc (ints .u8 (List.replicate 64 0)) 26) (Ext.alloc wc (.cells (ints .u8 (List.replicate 64 0)).toArray 26))
 have f:Hid ((h.map bval).length=(ints .u8 (List.replicate 64 0)).length):=jh (by rw[q100,i.o,zaa];rfl)
 go_upto_region 2 with(refine ssb wc.heap.size (h.map bval) E.o f.o (zeb i.o) (zac _) ?_;intro H p B)
 have k:=jh (zab z.o B (q101 _))
 have d:=xxb d k.o
 have a:=xxt a k.o
 generalize wc.heap.size=S at*
 have u:=jh (zbv (n:=64) p (by rw[q100,i.o]) (by unfold maxLen;omega))
 clear p B E z k f
 go_wp2_with fail
 refine(rReduce_num _ h H u.o (L.o.ext a.o)).mono ?_
 rintro e Q ⟨rfl,c⟩
 have d:=xxb d c
 have a:=xxt a c
 clear c u
 rw[←J.o]
 have g:=jh (wideB_length b.flatten)
 have f:Hid (((wideB b.flatten).map bval).length=(ints .u8 (List.replicate 32 0)).length):=jh (by rw[q100,g.o,zaa];rfl)
 go_wp2_with (refine ssb A ((wideB b.flatten).map bval) d.o f.o (zag g.o) (zac _) ?_;intro R N P)
 refine bodyPost_ret (zat rfl _ A _ _ _ _ rfl N Tryd.underlying23 (zag g.o)) rfl ⟨rfl,zab a.o P K.o⟩
theorem nbc_cong {x y:Int}(h:Cong x y):nb x=nb y:=by unfold nb;rw[cong_iff.1 h]
theorem leN_nbc(x:Int):((leN (nb x):Nat):Int)=x%pP:=by
 unfold nb
 have h0:0≤x%pP:=Int.emod_nonneg x (by decide+kernel)
 have h1:x%pP<pP:=Int.emod_lt_of_pos x (by decide+kernel)
 have h2:pP<((256^32:Nat):Int):=by decide+kernel
 rw[zdw,q112 (by omega)]
 omega
theorem nbc_iff {x y:Int}:nb x=nb y↔Cong x y:=by
 constructor
 ·intro h
  have h1:=leN_nbc x
  have h2:=leN_nbc y
  rw[h]at h1
  exact cong_iff.2 (h1.symm.trans h2)
 exact nbc_cong
theorem rtc_iff {x:Int}(h:¬pP∣x):rootB x=true↔Cong (x^pM) 1:=by
 rw[←root_found h]
 unfold rootB rootR
 by_cases h1:nb (x^pE*x^pE)=nb x
 ·rw[if_pos h1,decide_eq_true_iff]
  exact⟨fun _=>Or.inl (nbc_iff.1 h1),fun _=>h1⟩
 rw[if_neg h1,decide_eq_true_iff]
 constructor
 ·intro h2
  exact Or.inr (nbc_iff.1 h2)
 rintro(h2|h2)
 ·exact absurd (nbc_iff.2 h2) h1
 exact nbc_iff.2 h2
theorem rtc_sq {x:Int}(h:rootB x=true):Cong (rootR x*rootR x) x:=nbc_iff.1 (of_decide_eq_true h)
theorem rtc_of {x y:Int}(h:Cong y (x*x)):rootB y=true:=by
 by_cases a:pP∣y
 ·have c:=cong_zero.2 a
  have b:Cong (y^pE) 0:=by
   have e:(0:Int)^pE=0:=Int.zero_pow (by decide+kernel)
   have:=c.pow pE
   rw[e]at this
   exact this
  have d:nb (y^pE*y^pE)=nb y:=nbc_cong (((b.mul b).trans (by rw[Int.zero_mul];exact Cong.refl _)).trans c.symm)
  exact rootB_true (by unfold rootR;rw[if_pos d];exact d)
 exact(rtc_iff a).2 (half_of_square a h.symm)
noncomputable def rtB(a:Fp):Bool:=@decide (∃x:Fp,x*x=a) (Classical.propDecidable _)
theorem rtB_true {a:Fp}(h:∃x:Fp,x*x=a):rtB a=true:=@decide_eq_true _ (Classical.propDecidable _) h
theorem rtB_false {a:Fp}(h:¬∃x:Fp,x*x=a):rtB a=false:=@decide_eq_false _ (Classical.propDecidable _) h
theorem rt_is(x:Int):rootB x=rtB (fp x):=by
 cases hb:rootB x with
 |true=>exact(rtB_true ⟨fp (rootR x),by rw[←fp_mul,fp_eq];exact rtc_sq hb⟩).symm
 |false=>
  refine(rtB_false ?_).symm
  rintro⟨f,a⟩
  have e:fp (f.val*f.val:Int)=fp x:=by rw[fp_mul,fp_self,a]
  rw[rtc_of (x:=f.val) (fp_eq.1 e).symm]at hb
  cases hb
theorem rad_eq(y:Fp):(y*y - fp 1)*fi (dF*(y*y)+fp 1)=rad y:=by
 unfold rad
 rw[fp_one]
theorem read_is {n:List UInt8}(h:n.length=32)(d:leN (yB n)<pN) {f:Fp}(a:f*f=rad (fp ((leN (yB n):Nat):Int)))(h0:¬(f=0∧bitN n=1)) {x:Fp}(c:x=pickX f (bitN n)):
  edMay n∧∀P,encB P=n→(⟨x,fp ((leN (yB n):Nat):Int),fp 1,x*fp ((leN (yB n):Nat):Int)⟩:ES).is P:=by
 have b:=read_enc h d a h0
 refine⟨⟨_,b⟩,fun P g=>?_⟩
 have e:P=readP f (fp ((leN (yB n):Nat):Int)) (bitN n) a:=encB_inj (g.trans b.symm)
 rw[e,c,fp_one]
 exact Pt.es_is _
theorem nbc_self {l:List UInt8}(h:l.length=32)(a:leN l<pN):nb ((leN l:Nat):Int)=l:=by
 have e:pP=((pN:Nat):Int):=by decide+kernel
 unfold nb
 rw[e,←Int.natCast_emod,Int.toNat_natCast,q112 a]
 have:=bytesN_leN l
 rwa [h]at this
theorem nbc_not {l:List UInt8}(a:pN≤leN l):nb ((leN l:Nat):Int)≠l:=by
 intro h
 have h1:=leN_nbc ((leN l:Nat):Int)
 rw[h]at h1
 have e:pP=((pN:Nat):Int):=by decide+kernel
 have h2:((leN l:Nat):Int)%pP<pP:=Int.emod_lt_of_pos _ (by decide+kernel)
 rw[e]at h1 h2
 omega
theorem may_no_f {n:List UInt8}(h:n.length=32)(b:leN (yB n)<pN) {f:Fp}(c:f*f=rad (fp ((leN (yB n):Nat):Int)))(a:f=0)(d:bitN n=1):¬edMay n:=by
 refine may_no_bit h b d ?_
 rw[←c,a,Fin.zero_mul]
theorem rroot_f {u:Value} {a:Fp}(w:World)(c:ElF u a)(g:Glob w):Calls Tryd.prog 69 #[u] w fun e b=>∃r f,e=.returned (.tuple #[r,.bool (rtB a)])∧ElF r f∧(rtB a=true→f*f=a)∧Below w.heap.size w b:=by
 obtain⟨x,d,rfl⟩:=c
 refine(rroot_any u x w d g).mono ?_
 rintro e b ⟨⟨r,rfl,j⟩,i⟩
 refine⟨r,fp (rootR x),by rw[rt_is],⟨_,j,rfl⟩,fun h=>?_,i⟩
 rw[←fp_mul,fp_eq]
 exact rtc_sq (by rw[rt_is];exact h)
theorem rCanon_num(l:List UInt8)(w:World)(a:l.length=32):
  Calls Tryd.prog 68 #[.agg (l.map bval).toArray] w fun e D=>e=.returned (numP (leN l))∧Below w.heap.size w D:=by
 obtain⟨E,c⟩:=jq2 a (boxes2 w (l.map bval) (ints .u8 (List.replicate 32 0)) 23 23)
 have B:Hid ((Tryd.prog.info? 23).map (·.size)=some (l.map bval).length):=jh (by rw[q100,a];exact Tryd.arr23)
 have f:Hid ((Tryd.prog.info? 23).map (·.size)=some ((bytesN 32 ((leN l:Int)%pP).toNat).map bval).length):=jh (by rw[q100,zap];exact Tryd.arr23)
 have t:=jh (rin_el l ((w.alloc (.cells (l.map bval).toArray 23)).alloc (.cells (ints .u8 (List.replicate 32 0)).toArray 23)) a)
 clear a
 go_enter Tryd.func68,Tryd.ntmps68
 go_wp2_with (refine slb w.heap.size c.o.1 Tryd.underlying23 B.o ?_)
 change Calls _ _ _ ((w.alloc (.cells (l.map bval).toArray 23)).alloc (.cells (ints .u8 (List.replicate 32 0)).toArray 23)) _
 generalize (w.alloc (.cells (l.map bval).toArray 23)).alloc (.cells (ints .u8 (List.replicate 32 0)).toArray 23)=G at*
 obtain⟨h1,h2,k⟩:=c.o
 obtain⟨A,g⟩:=nxq w.heap.size
 rw[←g]at h1 h2⊢
 have I:w.heap.size≤A:=by omega
 obtain⟨z,b⟩:=jq2 h2 k
 clear h1 h2 k c g
 refine t.o.mono ?_
 rintro e s ⟨q,rfl,m,j⟩
 have u:=jh (rout_any q _ s m)
 have h:=jh j
 clear j m
 go_wp2_with fail
 refine u.o.mono ?_
 rintro e F ⟨rfl,i⟩
 have d:=jh (h.o.trans (i.mono h.o.size))
 have y:=jh (bl_blk z.o d.o)
 have n:Hid (((bytesN 32 ((leN l:Int)%pP).toNat).map bval).length=(ints .u8 (List.replicate 32 0)).length):=jh (by rw[q100,zap];rfl)
 clear i
 go_wp2_with (refine zah rfl _ _ _ rfl (A+1) _ rfl rfl _ _ y.o n.o f.o (zac _) ?_;intro H p x)
 exact bodyPost_ret (v:=numP (leN l)) (zat (by rfl) _ (A+1) _ _ _ _ (by rfl) p Tryd.underlying23 f.o) rfl ⟨rfl,(b.o.trans (d.o.mono b.o.size)).grown x (q118 b.o.size d.o.size) (fun r C=>by cases C;omega)⟩
end Go.Proofs.YtgnfdonbholcdaaDoor


