/- Lemmas. -/
import Derived.Test.YtgnfdonbholcdaaDoorQz02
namespace Go.Proofs.YtgnfdonbholcdaaDoor
set_option linter.unusedVariables false
set_option maxRecDepth 100000
set_option maxHeartbeats 32000000
set_option linter.unusedSimpArgs false
open Go.RowKit
def GlobK5(w:World):Prop:=w.rangeAt 4 0 (ints .u64 (qs K512))
theorem GlobK5.ext {w a:World}(h:GlobK5 w)(b:Ext w a):GlobK5 a:=glob_ext h b
theorem GlobK5.cell {w:World}(h:GlobK5 w) {j:Nat}(a:j<80):w.cell? ⟨4,j,none⟩=some (.int .u64 (qi (K512.getD j 0#64))):=by
 have:=h j (.int .u64 (qi (K512.getD j 0#64))) (by rw[zav (by rw[zcr];exact a),qs_getD])
 simpa using this
theorem qTop_at(m:List UInt8)(s:Nat):∀k i,k≤i→i<80→(qTop m s k).getD i 0#64=0#64
 |0,i,_,h=>by
  rw[qTop,List.getD,List.getElem?_replicate,if_pos h]
  rfl
 |k+1,i,h,h2=>by
  rw[qTop]
  have:=qTop_at m s k i (by omega) h2
  simp only[List.getD,List.getElem?_set_ne (show k≠i by omega)]at this⊢
  exact this
theorem qTop_same(m:List UInt8)(s k:Nat)(h:k<80):(qTop m s k).set k (BitVec.ofNat 64 (beN m (s+8*k) 0))=qTop m s k:=by
 have e:=qTop_at m s k k (q101 _) h
 have b:=qTop_length m s k
 apply List.ext_getElem?
 intro i
 by_cases a:k=i
 ·subst a
  rw[List.getElem?_set_self (by omega)]
  simp only[List.getD]at e
  rw[List.getElem?_eq_getElem (by omega)]at e⊢
  simp only[Option.getD_some]at e
  rw[e]
  rfl
 rw[List.getElem?_set_ne a]
theorem outQ_getD(h:List Q64)(i:Nat)(a:i<64):(outQ h).getD i 0=UInt8.ofNat ((h.getD (i / 8) 0#64).toNat / 2^(56 - 8*(i%8))%256):=by
 unfold outQ
 simp[List.getD,a]
theorem and_q_255(a:Q64):bits .and .u64 (qi a) 255=((a.toNat%256:Nat):Int):=by
 have h:(255:Int)=qi 255#64:=rfl
 rw[h,qi_and]
 unfold qi
 rw[BitVec.toNat_and]
 have h2:(255#64).toNat=2^8 - 1:=by decide
 rw[h2,q124]
theorem rShb_any(v:Value)(b:List UInt8)(w:World)(hv:Row1 w v (b.map bval))(hb:b.length≤1099511627776)(hG:GlobK5 w):
  Calls Tryd.prog 53 #[v] w fun e S=>e=.returned (.agg ((sha512 b).map bval).toArray)∧Below w.heap.size w S:=by
 obtain⟨bk,HG,HB,bu⟩:=jq4 hv hG (boxes2 w (ints .u8 (List.replicate 64 0)) (ints .u64 (List.replicate 8 0)) 26 121) hb
 clear hv hG hb
 go_enter Tryd.func53,Tryd.ntmps53
 go_wp2_with (refine zah rfl _ _ _ rfl (w.heap.size+1) (ints .u64 (qs H512)) rfl rfl _ _ HB.o.2.1 rfl (by rw[zaa];exact Tryd.arr121) (zai _ _) ?_;intro w1 C al)
 have g:=HB.o.1.grown al (by simp)
 have f:=zab HB.o.2.2 al (by omega)
 have d:=C
 obtain⟨A,hA⟩:=nxq w.heap.size
 rw[←hA]at g d⊢
 have de:w.heap.size≤A:=by omega
 obtain⟨HP,g,d,f⟩:=jq4 (paddedQ_any v b w1 (bk.o.below f) bu.o) g d f
 clear hA C al HB
 refine HP.o.mono ?_
 rintro e w2 ⟨mv,rfl,ag,y⟩
 obtain⟨g,d,f⟩:=jq3 (zal g.o y) (zal d.o y) (f.o.trans y)
 have a7:=paddedQ_length b
 obtain⟨m,hm⟩:=nxq (paddedQ b)
 obtain⟨N,hN⟩:=nxq ((b.length+144) / 128)
 obtain⟨HM,HN⟩:=jq2 hm hN
 rw[←hm]at ag a7
 rw[←hN]at a7
 have HR:=jh ag
 obtain⟨a,e3,rfl,r1,r2,r3,r4⟩:=id ag
 rw[q100,a7]at r1 HR⊢
 unfold maxLen at r2
 obtain⟨b',off,rfl,bd,c6⟩:=r4 (by intro e;have h:=congrArg List.length e;rw[q100,a7]at h;simp only[q115]at h;omega)
 have au:MsgAt w2.heap.size b' off m w2:=⟨bd,q101 _,fun j hj=>by rw[c6 j (by rw[q100];exact hj),zbf hj]⟩
 have bv:b'≠A+1:=by
  rintro rfl
  have h1:=au.2.2 0 (by omega)
  rw[d.o.cell]at h1
  exact(not_bytes (by decide)) h1
 obtain⟨c8,cj,aj⟩:=jq3 bv au bd
 have dw:N≤17179869300:=by have:=bu.o;omega
 have d2:=jh a7
 clear y ag hm hN a7 r3 r4 HP bk au c6 bv bd
 go_wp2_with fail
 go_loopw [5] (fun H wr=>∃(n:Nat),n≤N∧H=.int .i64 (128*(n:Int))∧Blk wr (A+1) (ints .u64 (qs (gRun m n))) 121∧Blk wr A (ints .u8 (List.replicate 64 0)) 26∧MsgAt w2.heap.size b' off m wr∧Ext w wr) (fun H _=>128*N - (intOf H).toNat)
 case atStart=>exact⟨0,by omega,rfl,d.o,g.o,cj.o,f.o⟩
 case round=>
  clear g d f
  obtain⟨n,hn,rfl,y,C,I,G⟩:=hrel
  have n0:(0:Int)≤128*(n:Int):=by omega
  by_cases dm:n<N
  ·have n1:128*(n:Int)<128*(N:Int):=by omega
   obtain⟨g,d,f,B⟩:=jq4 C y G I
   clear C y G I
   have HZ:=jh (Blk.made wr (ints .u64 (List.replicate 80 0)) 122)
   have dt:=d.o.lt
   obtain⟨g,d⟩:=jq2 (g.o.alloc (.cells (ints .u64 (List.replicate 80 0)).toArray 122)) (d.o.alloc (.cells (ints .u64 (List.replicate 80 0)).toArray 122))
   have bx:=B.o.2.1
   obtain⟨f,B⟩:=jq2 (f.o.trans (Ext.alloc wr (.cells (ints .u64 (List.replicate 80 0)).toArray 122))) (B.o.ext (Ext.alloc wr (.cells (ints .u64 (List.replicate 80 0)).toArray 122)))
   have dr:w2.heap.size≤wr.heap.size:=bx
   clear bx
   go_upto_region 7 with(fail)
   change Code.wp _ _ _ _ (wr.alloc (.cells (ints .u64 (List.replicate 80 0)).toArray 122))
   generalize wr.alloc (.cells (ints .u64 (List.replicate 80 0)).toArray 122)=w3 at*
   generalize wr.heap.size=D at*
   go_wp2_with fail
   go_loopw [7] (fun H wr=>∃(k:Nat),k≤16∧H=.int .i64 (k:Int)∧Blk wr D (ints .u64 (qs (qTop m (128*n) k))) 122∧Blk wr (A+1) (ints .u64 (qs (gRun m n))) 121∧Blk wr A (ints .u8 (List.replicate 64 0)) 26∧MsgAt w2.heap.size b' off m wr∧Ext w wr) (fun H _=>16 - (intOf H).toNat)
   case atStart=>exact⟨0,by omega,rfl,by rw[qTop,qs_zeros];exact HZ.o,d.o,g.o,B.o,f.o⟩
   case round=>
    clear g d f B HZ
    obtain⟨k,hk,rfl,K,y,C,I,G⟩:=hrel
    have k0:(0:Int)≤(k:Int):=Int.natCast_nonneg _
    have ae:=qTop_length m (128*n) k
    by_cases dy:k<16
    ·have k1:(k:Int)<16:=by omega
     have dn:(k:Int)<80:=by omega
     obtain⟨p,hp⟩:=nxq (128*n+8*k)
     have dq:128*(n:Int)+8*(k:Int)=(p:Int):=by omega
     have dv:p+8≤128*N:=by omega
     have af:Hid (qTop m (128*n) (k+1)=(qTop m (128*n) k).set k (beQ m p)):=jh (by rw[hp];rfl)
     have H0:Hid ((qTop m (128*n) k).set k (BitVec.ofNat 64 (beN m p 0))=qTop m (128*n) k):=jh (qTop_same m (128*n) k (by omega))
     have a9:Hid ((qTop m (128*n) k).length=80):=jh ae
     generalize qTop m (128*n) k=T0 at*
     obtain⟨J,g,d,f,B⟩:=jq5 K C y G I
     clear K C y G I ae hp
     go_wp2_with fail
     obtain⟨wo,rfl⟩:=nxq wr
     go_loopw [8] (fun H wr=>∃(j:Nat),j≤8∧H=.int .i64 (j:Int)∧Blk wr D (ints .u64 (qs (T0.set k (BitVec.ofNat 64 (beN m p j))))) 122∧Blk wr (A+1) (ints .u64 (qs (gRun m n))) 121∧Blk wr A (ints .u8 (List.replicate 64 0)) 26∧MsgAt w2.heap.size b' off m wr∧Ext w wr) (fun H _=>8 - (intOf H).toNat)
     case atStart=>exact⟨0,by omega,rfl,by rw[H0.o];exact J.o,d.o,g.o,B.o,f.o⟩
     case round=>
      clear J g d f B
      obtain⟨j,hj,rfl,K,y,C,I,G⟩:=hrel
      have j0:(0:Int)≤(j:Int):=Int.natCast_nonneg _
      by_cases am:j<8
      ·have j1:(j:Int)<8:=by omega
       have cq:=beN_lt m p j
       have co:256^j≤256^7:=Nat.pow_le_pow_right (by omega) (by omega)
       have h7:(256:Nat)^7=72057594037927936:=rfl
       have c0:=I.2.2 (p+j) (by rw[d2.o];omega)
       have d0:=UInt8.toNat_lt (m.getD (p+j) 0)
       have d3:Hid (beN m p (j+1)=256*beN m p j+(m.getD (p+j) 0).toNat):=jh rfl
       generalize (m.getD (p+j) 0).toNat=x0 at*
       generalize beN m p j=U at*
       have da:U<72057594037927936:=by omega
       have e1:=K.cell k
       rw[zav (by rw[zcr,q117,a9.o];omega),qs_getD]at e1
       have e2:(T0.set k (BitVec.ofNat 64 U)).getD k 0#64=BitVec.ofNat 64 U:=by simp[List.getD,a9.o,(by omega:k<80)]
       rw[e2,qi_lit U (by omega)]at e1
       have f1:=K.free k
       have c3:bits .or .u64 ((U:Int)*256) (x0:Int)=qi (BitVec.ofNat 64 (beN m p (j+1))):=by
        have a1:(U:Int)*256=((256*U:Nat):Int):=by omega
        rw[a1,or64 _ _ (by omega) (by omega),d3.o,qi_lit _ (by omega)]
        exact congrArg _ (or_sum 8 x0 U (by omega))
       obtain⟨cs,J,g,d,f,B⟩:=jq6 c3 K C y G I
       have pj:(p:Int)+(j:Int)<128*(N:Int):=by omega
       have di:(0:Int)≤(p:Int):=Int.natCast_nonneg _
       clear K C y G I cq co h7 e2 c3
       go_upto_region 13 with(fail)
       go_region
       go_wp2_with fail
       go_roundw
       case rel=>
        refine⟨j+1,by omega,by go_num,?_,(d.o.far (by simp<;>omega) _).drewN 1,(g.o.far (by simp<;>omega) _).drewN 1,(B.o.far (by have:=aj.o;simp;omega) _).drew,(Below.setCell f.o (by simp<;>omega) _).drew⟩
        have h:=(J.o.seti k (bits .or .u64 ((U:Int)*256) (x0:Int))).drewN 1
        rw[cs.o]at h⊢
        rw[qs_set,List.set_set]at h
        exact h
       case measure=>simp[intOf];omega
      have ab:j=8:=by omega
      subst ab
      obtain⟨J,g,d,f,B⟩:=jq5 K C y G I
      clear K C y G I
      go_wp2_with fail
      go_roundw
      case rel=>exact⟨k+1,by omega,by go_num,by rw[af.o];exact J.o,d.o,g.o,B.o,f.o⟩
      case measure=>simp[intOf];omega
    have cu:k=16:=by omega
    have c4:(k:Int)=16:=by omega
    rw[c4]
    clear c4
    subst cu
    have bn:qTop m (128*n) 16=qSch m (128*n) 0:=rfl
    rw[bn]at K
    obtain⟨J,g,d,f,B⟩:=jq5 K C y G I
    clear K C y G I ae bn
    go_wp2_with fail
    obtain⟨wo,rfl⟩:=nxq wr
    go_loopw [9] (fun H wr=>∃(q:Nat),q≤64∧H=.int .i64 ((16+q:Nat):Int)∧Blk wr D (ints .u64 (qs (qSch m (128*n) q))) 122∧Blk wr (A+1) (ints .u64 (qs (gRun m n))) 121∧Blk wr A (ints .u8 (List.replicate 64 0)) 26∧MsgAt w2.heap.size b' off m wr∧Ext w wr) (fun H _=>80 - (intOf H).toNat)
    case atStart=>exact⟨0,by omega,rfl,J.o,d.o,g.o,B.o,f.o⟩
    case round=>
     clear g d f B J
     obtain⟨q,hq,rfl,K,y,C,I,G⟩:=hrel
     by_cases dk:q<64
     ·obtain⟨i,hi⟩:=nxq (16+q)
      rw[←hi]
      have i0:(16:Int)≤(i:Int):=by omega
      have i1:(i:Int)<80:=by omega
      have ae:=qSch_length m (128*n) q
      obtain⟨a2,bo⟩:=nxq (i - 16)
      obtain⟨ac,bs⟩:=nxq (i - 15)
      obtain⟨j7,be⟩:=nxq (i - 7)
      obtain⟨j2,c5⟩:=nxq (i - 2)
      have ds:(i:Int) - 16=(a2:Int):=by omega
      have d9:(i:Int) - 15=(ac:Int):=by omega
      have g7:(i:Int) - 7=(j7:Int):=by omega
      have g2:(i:Int) - 2=(j2:Int):=by omega
      have dp:(a2:Int)<80:=by omega
      have dc:(ac:Int)<80:=by omega
      have l7:(j7:Int)<80:=by omega
      have l2:(j2:Int)<80:=by omega
      have d6:=K.cell a2
      rw[zav (by rw[zcr];omega),qs_getD]at d6
      have cd:=K.cell ac
      rw[zav (by rw[zcr];omega),qs_getD]at cd
      have e7:=K.cell j7
      rw[zav (by rw[zcr];omega),qs_getD]at e7
      have e2:=K.cell j2
      rw[zav (by rw[zcr];omega),qs_getD]at e2
      have e0:=K.cell i
      rw[zav (by rw[zcr];omega),qs_getD]at e0
      have f0:=K.free i
      have af:Hid (qSch m (128*n) (q+1)=(qSch m (128*n) q).set i ((qSch m (128*n) q).getD a2 0#64+tg0 ((qSch m (128*n) q).getD ac 0#64)+(qSch m (128*n) q).getD j7 0#64+tg1 ((qSch m (128*n) q).getD j2 0#64))):=jh (by rw[hi,bo,bs,be,c5,hi];rfl)
      generalize (qSch m (128*n) q).getD a2 0#64=bm at*
      generalize (qSch m (128*n) q).getD ac 0#64=a6 at*
      generalize (qSch m (128*n) q).getD j7 0#64=y7 at*
      generalize (qSch m (128*n) q).getD j2 0#64=y2 at*
      generalize (qSch m (128*n) q).getD i 0#64=y0 at*
      obtain⟨J,g,d,f,B,HI⟩:=jq6 K C y G I hi
      clear K C y G I ae hi bo bs be c5 hq
      go_wp2_with fail
      have cy:IntKind.i64.wrap (a2:Int)=(a2:Int):=IntWalk.i64_in _ (by omega)
      have w7:IntKind.i64.wrap (j7:Int)=(j7:Int):=IntWalk.i64_in _ (by omega)
      have z16:(0:Int)≤(a2:Int):=Int.natCast_nonneg _
      have z7:(0:Int)≤(j7:Int):=Int.natCast_nonneg _
      go_still_tail 29,(by kernel_rfl)
      still_call ((rot_any _ 1 (by omega) _).mono fun _ _ h=>⟨h.1,h.2.symm⟩)
      repeat still_step
      still_call ((rot_any _ 8 (by omega) _).mono fun _ _ h=>⟨h.1,h.2.symm⟩)
      repeat still_step
      still_call ((rot_any _ 19 (by omega) _).mono fun _ _ h=>⟨h.1,h.2.symm⟩)
      repeat still_step
      still_call ((rot_any _ 61 (by omega) _).mono fun _ _ h=>⟨h.1,h.2.symm⟩)
      repeat still_step
      try refine wpStill_nil ?_
      change wpList _ _ _ _ _ wr.drew
      have dg:(wr.drew).cell? ⟨D,i,none⟩=some (.int .u64 (qi y0)):=e0
      have db:(wr.drew).frozen? ⟨D,i,none⟩=false:=f0
      have J:Hid (Blk wr.drew D _ _):=jh J.o
      have g:Hid (Blk wr.drew A _ _):=jh g.o
      have d:Hid (Blk wr.drew (A+1) _ _):=jh d.o
      have f:Hid (Ext w wr.drew):=jh (f.o.trans (Ext.drew wr))
      have B:Hid (MsgAt w2.heap.size b' off m wr.drew):=jh (B.o.ext (Ext.drew wr))
      clear e0 f0
      generalize wr.drew=w4 at*
      have z0:(0:Int)≤(i:Int):=by omega
      have x1:bits .xor .u64 (bits .xor .u64 (qi (rotq a6 1)) (qi (rotq a6 8))) (qi a6 / 128)=qi (tg0 a6):=by rw[show (128:Int)=2^7 from rfl,qi_shr,qi_xor,qi_xor];rfl
      have x2:bits .xor .u64 (bits .xor .u64 (qi (rotq y2 19)) (qi (rotq y2 61))) (qi y2 / 64)=qi (tg1 y2):=by rw[show (64:Int)=2^6 from rfl,qi_shr,qi_xor,qi_xor];rfl
      obtain⟨d7,cn⟩:=jq2 x1 x2
      clear x1 x2 cy w7 z16 z7
      have cm:Hid (IntKind.u64.wrap (IntKind.u64.wrap (IntKind.u64.wrap (qi bm+qi (tg0 a6))+qi y7)+qi (tg1 y2))=qi (bm+tg0 a6+y7+tg1 y2)):=jh (by rw[qi_add,qi_add,qi_add])
      rw[d7.o,cn.o]
      go_wp2_with fail
      go_roundw
      case rel=>
       refine⟨q+1,by omega,by have:=HI.o;subst this;go_num,?_,d.o.far (by simp<;>omega) _,g.o.far (by simp<;>omega) _,B.o.far (by have:=aj.o;simp;omega) _,Below.setCell f.o (by simp<;>omega) _⟩
       rw[af.o,←qs_set,←cm.o]
       exact J.o.seti i _
      case measure=>simp[intOf];omega
     have d8:q=64:=by omega
     subst d8
     obtain⟨J,g,d,f,B⟩:=jq5 K C y G I
     have c9:Hid (gRun m (n+1)=qAdd (gRun m n) (qRun (gRun m n) (qSch m (128*n) 64) 80) 8):=jh rfl
     obtain⟨ah,c7⟩:=jq2 (gRun_length m n) (qSch_length m (128*n) 64)
     clear K y C I G
     generalize qSch m (128*n) 64=W at*
     generalize gRun m n=h at*
     have br:Hid ((Tryd.prog.info? 121).map (·.size)=some (ints .u64 (qs h)).length):=jh (by rw[zaa,zcr,ah.o];exact Tryd.arr121)
     obtain⟨bp,a9,ak,a8,K1,K2⟩:=jq6 (Blk.made wr (ints .u64 (List.replicate 8 0)) 121) J.o.lt g.o.lt d.o.lt (g.o.alloc (.cells (ints .u64 (List.replicate 8 0)).toArray 121)) (d.o.alloc (.cells (ints .u64 (List.replicate 8 0)).toArray 121))
     obtain⟨KW,HS,c1,KE,bq⟩:=jq5 (J.o.alloc (.cells (ints .u64 (List.replicate 8 0)).toArray 121)) f.o.size B.o.2.1 (f.o.trans (Ext.alloc wr (.cells (ints .u64 (List.replicate 8 0)).toArray 121))) (B.o.ext (Ext.alloc wr (.cells (ints .u64 (List.replicate 8 0)).toArray 121)))
     have bf:Hid ((ints .u64 (qs h)).length=(ints .u64 (List.replicate 8 0)).length):=jh (by rw[zaa,zcr,ah.o,zaa,q110])
     go_upto_region 21 with(first|(refine zar rfl _ _ rfl (A+1) rfl _ _ _ _ d.o Tryd.underlying121 br.o ?_)|(refine zah rfl _ _ _ rfl wr.heap.size (ints .u64 (qs h)) rfl rfl _ _ bp.o bf.o br.o (zai _ _) ?_;intro wq bl a5))
     have g:=jh (K1.o.grown a5 (by have:=ak.o;simp;omega))
     have d:=jh (K2.o.grown a5 (by have:=a8.o;simp;omega))
     have J:=jh (KW.o.grown a5 (by have:=a9.o;simp;omega))
     have f:=jh (zab KE.o a5 HS.o)
     have B:=jh (bq.o.grown a5 (by have:=aj.o;have:=c1.o;simp;omega))
     have L:=jh bl
     have ca:Hid (D<wr.heap.size):=a9
     have ai:Hid (A+1<wr.heap.size):=a8
     generalize wr.heap.size=E at*
     clear bl a5 bp ak a8 K1 K2 KW KE bq bf HS
     go_wp2_with fail
     obtain⟨wo,rfl⟩:=nxq wq
     go_loopw [13] (fun H wr=>∃(k:Nat),k≤80∧H=.int .i64 (k:Int)∧Blk wr E (ints .u64 (qs (qRun h W k))) 121∧Blk wr D (ints .u64 (qs W)) 122∧Blk wr (A+1) (ints .u64 (qs h)) 121∧Blk wr A (ints .u8 (List.replicate 64 0)) 26∧MsgAt w2.heap.size b' off m wr∧Ext w wr) (fun H _=>80 - (intOf H).toNat)
     case atStart=>exact⟨0,by omega,rfl,L.o,J.o,d.o,g.o,B.o,f.o⟩
     case round=>
      clear L J g d f B
      obtain⟨k,hk,rfl,a4,K,y,C,I,G⟩:=hrel
      obtain⟨L,J,g,d,f,B⟩:=jq6 a4 K C y G I
      have Z:=jh (qRun_length h W ah.o k)
      have k0:(0:Int)≤(k:Int):=Int.natCast_nonneg _
      clear a4 K y C I G
      by_cases bi:k<80
      ·have kr:(k:Int)<80:=by omega
       have cf:Hid (∀S,Blk S D (ints .u64 (qs W)) 122→S.cell? ⟨D,k,none⟩=some (.int .u64 (qi (W.getD k 0#64)))):=jh (fun S h=>blk_q h (by rw[c7.o];exact bi))
       have d5:Hid (∀S,Ext wr S→S.cell? ⟨4,k,none⟩=some (.int .u64 (qi (K512.getD k 0#64)))):=jh (fun S h=>(HG.o.ext (f.o.trans h)).cell bi)
       have Y:Hid (qRun h W (k+1)=rndq (qRun h W k) (K512.getD k 0#64) (W.getD k 0#64)):=jh rfl
       unfold rndq at Y
       generalize K512.getD k 0#64=kk at*
       generalize W.getD k 0#64=wk at*
       generalize qRun h W k=O at*
       have X:Hid (∀j,j<8→∀S,Blk S E (ints .u64 (qs O)) 121→∀x,x=O.getD j 0#64→S.cell? ⟨E,j,none⟩=some (.int .u64 (qi x))):=jh (fun j hj S hb x hx=>by rw[hx];exact blk_q hb (by rw[Z.o];exact hj))
       have a0:=L.o
       have U:=blk_q a0 (j:=0) (by rw[Z.o];omega)
       have b1:=blk_q a0 (j:=1) (by rw[Z.o];omega)
       have b2:=blk_q a0 (j:=2) (by rw[Z.o];omega)
       have b3:=blk_q a0 (j:=3) (by rw[Z.o];omega)
       have b4:=blk_q a0 (j:=4) (by rw[Z.o];omega)
       have b5:=blk_q a0 (j:=5) (by rw[Z.o];omega)
       have b6:=blk_q a0 (j:=6) (by rw[Z.o];omega)
       have b7:=blk_q a0 (j:=7) (by rw[Z.o];omega)
       obtain⟨l,av⟩:=nxq (O.getD 0 0#64)
       have dj:=jh av
       rw[←av]at U Y
       clear av
       obtain⟨P,ba⟩:=nxq (O.getD 1 0#64)
       have an:=jh ba
       rw[←ba]at b1 Y
       clear ba
       obtain⟨Q,ar⟩:=nxq (O.getD 2 0#64)
       have ap:=jh ar
       rw[←ar]at b2 Y
       clear ar
       obtain⟨v3,b8⟩:=nxq (O.getD 3 0#64)
       have cx:=jh b8
       rw[←b8]at b3 Y
       clear b8
       obtain⟨c,aw⟩:=nxq (O.getD 4 0#64)
       have dz:=jh aw
       rw[←aw]at b4 Y
       clear aw
       obtain⟨T,az⟩:=nxq (O.getD 5 0#64)
       have bj:=jh az
       rw[←az]at b5 Y
       clear az
       obtain⟨V,aq⟩:=nxq (O.getD 6 0#64)
       have bg:=jh aq
       rw[←aq]at b6 Y
       clear aq
       obtain⟨v7,bc⟩:=nxq (O.getD 7 0#64)
       have cc:=jh bc
       rw[←bc]at b7 Y
       clear bc
       clear a0
       go_wp2_with fail
       refine zdf (by kernel_rfl) (by kernel_rfl) ?_
       refine zbu _ _ _ _ E 8 7 (by rfl) rfl rfl rfl Tryd.underlying121 (by omega) (Tryd.sizeOf100) ?_
       simp only[nm]
       refine zch _ _ E 7 (.int .u64 (qi v7)) (by rfl) rfl rfl (fun w M=>X.o 7 (by omega) _ (zal L.o M) _ cc.o) (Tryd.isAgg100) ?_
       simp only[nm]
       refine zbq _ (.int .u64 (qi c)) (by rfl) rfl rfl ?_
       simp only[nm]
       refine zco _ _ _ [.int .u64 (qi c),.int .u64 14] (.int .u64 (qi (rotq c 14))) (by rfl) rfl Tryd.call72 rfl (fun w M=>rot_ext c 14 (by omega) w) ?_
       simp only[nm]
       refine zbq _ (.int .u64 (qi c)) (by rfl) rfl rfl ?_
       simp only[nm]
       refine zco _ _ _ [.int .u64 (qi c),.int .u64 18] (.int .u64 (qi (rotq c 18))) (by rfl) rfl Tryd.call72 rfl (fun w M=>rot_ext c 18 (by omega) w) ?_
       simp only[nm]
       refine zeh _ _ _ _ _ _ _ (qi ((rotq c 14)^^^(rotq c 18))) (by rfl) rfl rfl rfl (qi_xor _ _) ?_
       simp only[nm]
       refine zbq _ (.int .u64 (qi c)) (by rfl) rfl rfl ?_
       simp only[nm]
       refine zco _ _ _ [.int .u64 (qi c),.int .u64 41] (.int .u64 (qi (rotq c 41))) (by rfl) rfl Tryd.call72 rfl (fun w M=>rot_ext c 41 (by omega) w) ?_
       simp only[nm]
       refine zeh _ _ _ _ _ _ _ (qi (((rotq c 14)^^^(rotq c 18))^^^(rotq c 41))) (by rfl) rfl rfl rfl (qi_xor _ _) ?_
       simp only[nm]
       refine det_add _ _ _ _ _ _ _ (qi (v7+(((rotq c 14)^^^(rotq c 18))^^^(rotq c 41)))) (by rfl) rfl rfl rfl (qi_add _ _) ?_
       simp only[nm]
       refine zbq _ (.int .u64 (qi c)) (by rfl) rfl rfl ?_
       simp only[nm]
       refine zbu _ _ _ _ E 8 5 (by rfl) rfl rfl rfl Tryd.underlying121 (by omega) (Tryd.sizeOf100) ?_
       simp only[nm]
       refine zch _ _ E 5 (.int .u64 (qi T)) (by rfl) rfl rfl (fun w M=>X.o 5 (by omega) _ (zal L.o M) _ bj.o) (Tryd.isAgg100) ?_
       simp only[nm]
       refine det_and _ _ _ _ _ _ _ (qi (c &&& T)) (by rfl) rfl rfl rfl (qi_and _ _) ?_
       simp only[nm]
       refine zbq _ (.int .u64 (qi c)) (by rfl) rfl rfl ?_
       simp only[nm]
       refine det_qinot _ _ c (by rfl) rfl rfl ?_
       simp only[nm]
       refine zbu _ _ _ _ E 8 6 (by rfl) rfl rfl rfl Tryd.underlying121 (by omega) (Tryd.sizeOf100) ?_
       simp only[nm]
       refine zch _ _ E 6 (.int .u64 (qi V)) (by rfl) rfl rfl (fun w M=>X.o 6 (by omega) _ (zal L.o M) _ bg.o) (Tryd.isAgg100) ?_
       simp only[nm]
       refine det_and _ _ _ _ _ _ _ (qi ((~~~c) &&& V)) (by rfl) rfl rfl rfl (qi_and _ _) ?_
       simp only[nm]
       refine zeh _ _ _ _ _ _ _ (qi ((c &&& T)^^^((~~~c) &&& V))) (by rfl) rfl rfl rfl (qi_xor _ _) ?_
       simp only[nm]
       refine det_add _ _ _ _ _ _ _ (qi ((v7+(((rotq c 14)^^^(rotq c 18))^^^(rotq c 41)))+((c &&& T)^^^((~~~c) &&& V)))) (by rfl) rfl rfl rfl (qi_add _ _) ?_
       simp only[nm]
       refine zbq _ (.int .i64 ((k:Nat):Int)) (by rfl) rfl rfl ?_
       simp only[nm]
       refine zbu _ _ _ _ 4 80 k (by rfl) rfl rfl rfl Tryd.underlying122 (by omega) (Tryd.sizeOf100) ?_
       simp only[nm]
       refine zch _ _ 4 k (.int .u64 (qi kk)) (by rfl) rfl rfl (fun w M=>d5.o _ M) (Tryd.isAgg100) ?_
       simp only[nm]
       refine det_add _ _ _ _ _ _ _ (qi (((v7+(((rotq c 14)^^^(rotq c 18))^^^(rotq c 41)))+((c &&& T)^^^((~~~c) &&& V)))+kk)) (by rfl) rfl rfl rfl (qi_add _ _) ?_
       simp only[nm]
       refine zbq _ (.int .i64 ((k:Nat):Int)) (by rfl) rfl rfl ?_
       simp only[nm]
       refine zbu _ _ _ _ D 80 k (by rfl) rfl rfl rfl Tryd.underlying122 (by omega) (Tryd.sizeOf100) ?_
       simp only[nm]
       refine zch _ _ D k (.int .u64 (qi wk)) (by rfl) rfl rfl (fun w M=>cf.o _ (zal J.o M)) (Tryd.isAgg100) ?_
       simp only[nm]
       refine det_add _ _ _ _ _ _ _ (qi ((((v7+(((rotq c 14)^^^(rotq c 18))^^^(rotq c 41)))+((c &&& T)^^^((~~~c) &&& V)))+kk)+wk)) (by rfl) rfl rfl rfl (qi_add _ _) ?_
       simp only[nm]
       refine det_assign _ (.int .u64 (qi ((((v7+(((rotq c 14)^^^(rotq c 18))^^^(rotq c 41)))+((c &&& T)^^^((~~~c) &&& V)))+kk)+wk))) (by rfl) rfl rfl ?_
       simp only[nm]
       refine det_nil (fun wx hx=>?_)
       obtain⟨L,J,g,d,B,f⟩:=jq6 (zal L.o hx) (zal J.o hx) (zal g.o hx) (zal d.o hx) (B.o.ext hx) (f.o.trans hx)
       clear hx
       generalize ht:(((v7+(((rotq c 14)^^^(rotq c 18))^^^(rotq c 41)))+((c &&& T)^^^((~~~c) &&& V)))+kk)+wk=t at*
       have HT:=jh ht
       clear ht
       go_wp2_with fail
       refine zdf (by kernel_rfl) (by kernel_rfl) ?_
       refine zbq _ (.int .u64 (qi l)) (by rfl) rfl rfl ?_
       simp only[nm]
       refine zco _ _ _ [.int .u64 (qi l),.int .u64 28] (.int .u64 (qi (rotq l 28))) (by rfl) rfl Tryd.call72 rfl (fun w M=>rot_ext l 28 (by omega) w) ?_
       simp only[nm]
       refine zbq _ (.int .u64 (qi l)) (by rfl) rfl rfl ?_
       simp only[nm]
       refine zco _ _ _ [.int .u64 (qi l),.int .u64 34] (.int .u64 (qi (rotq l 34))) (by rfl) rfl Tryd.call72 rfl (fun w M=>rot_ext l 34 (by omega) w) ?_
       simp only[nm]
       refine zeh _ _ _ _ _ _ _ (qi ((rotq l 28)^^^(rotq l 34))) (by rfl) rfl rfl rfl (qi_xor _ _) ?_
       simp only[nm]
       refine zbq _ (.int .u64 (qi l)) (by rfl) rfl rfl ?_
       simp only[nm]
       refine zco _ _ _ [.int .u64 (qi l),.int .u64 39] (.int .u64 (qi (rotq l 39))) (by rfl) rfl Tryd.call72 rfl (fun w M=>rot_ext l 39 (by omega) w) ?_
       simp only[nm]
       refine zeh _ _ _ _ _ _ _ (qi (((rotq l 28)^^^(rotq l 34))^^^(rotq l 39))) (by rfl) rfl rfl rfl (qi_xor _ _) ?_
       simp only[nm]
       refine zbq _ (.int .u64 (qi l)) (by rfl) rfl rfl ?_
       simp only[nm]
       refine zbu _ _ _ _ E 8 1 (by rfl) rfl rfl rfl Tryd.underlying121 (by omega) (Tryd.sizeOf100) ?_
       simp only[nm]
       refine zch _ _ E 1 (.int .u64 (qi P)) (by rfl) rfl rfl (fun w M=>X.o 1 (by omega) _ (zal L.o M) _ an.o) (Tryd.isAgg100) ?_
       simp only[nm]
       refine det_and _ _ _ _ _ _ _ (qi (l &&& P)) (by rfl) rfl rfl rfl (qi_and _ _) ?_
       simp only[nm]
       refine zbq _ (.int .u64 (qi l)) (by rfl) rfl rfl ?_
       simp only[nm]
       refine zbu _ _ _ _ E 8 2 (by rfl) rfl rfl rfl Tryd.underlying121 (by omega) (Tryd.sizeOf100) ?_
       simp only[nm]
       refine zch _ _ E 2 (.int .u64 (qi Q)) (by rfl) rfl rfl (fun w M=>X.o 2 (by omega) _ (zal L.o M) _ ap.o) (Tryd.isAgg100) ?_
       simp only[nm]
       refine det_and _ _ _ _ _ _ _ (qi (l &&& Q)) (by rfl) rfl rfl rfl (qi_and _ _) ?_
       simp only[nm]
       refine zeh _ _ _ _ _ _ _ (qi ((l &&& P)^^^(l &&& Q))) (by rfl) rfl rfl rfl (qi_xor _ _) ?_
       simp only[nm]
       refine zbu _ _ _ _ E 8 1 (by rfl) rfl rfl rfl Tryd.underlying121 (by omega) (Tryd.sizeOf100) ?_
       simp only[nm]
       refine zch _ _ E 1 (.int .u64 (qi P)) (by rfl) rfl rfl (fun w M=>X.o 1 (by omega) _ (zal L.o M) _ an.o) (Tryd.isAgg100) ?_
       simp only[nm]
       refine zbu _ _ _ _ E 8 2 (by rfl) rfl rfl rfl Tryd.underlying121 (by omega) (Tryd.sizeOf100) ?_
       simp only[nm]
       refine zch _ _ E 2 (.int .u64 (qi Q)) (by rfl) rfl rfl (fun w M=>X.o 2 (by omega) _ (zal L.o M) _ ap.o) (Tryd.isAgg100) ?_
       simp only[nm]
       refine det_and _ _ _ _ _ _ _ (qi (P &&& Q)) (by rfl) rfl rfl rfl (qi_and _ _) ?_
       simp only[nm]
       refine zeh _ _ _ _ _ _ _ (qi (((l &&& P)^^^(l &&& Q))^^^(P &&& Q))) (by rfl) rfl rfl rfl (qi_xor _ _) ?_
       simp only[nm]
       refine det_add _ _ _ _ _ _ _ (qi ((((rotq l 28)^^^(rotq l 34))^^^(rotq l 39))+(((l &&& P)^^^(l &&& Q))^^^(P &&& Q)))) (by rfl) rfl rfl rfl (qi_add _ _) ?_
       simp only[nm]
       refine det_assign _ (.int .u64 (qi ((((rotq l 28)^^^(rotq l 34))^^^(rotq l 39))+(((l &&& P)^^^(l &&& Q))^^^(P &&& Q))))) (by rfl) rfl rfl ?_
       simp only[nm]
       refine det_nil (fun wy hy=>?_)
       obtain⟨L,J,g,d,B,f⟩:=jq6 (zal L.o hy) (zal J.o hy) (zal g.o hy) (zal d.o hy) (B.o.ext hy) (f.o.trans hy)
       clear hy
       generalize hu:(((rotq l 28)^^^(rotq l 34))^^^(rotq l 39))+(((l &&& P)^^^(l &&& Q))^^^(P &&& Q))=u at*
       have HU:=jh hu
       clear hu
       clear U b1 b2 b3 b4 b5 b6 b7
       have b1:=X.o 1 (by omega) _ L.o _ an.o
       have b2:=X.o 2 (by omega) _ L.o _ ap.o
       have b3:=X.o 3 (by omega) _ L.o _ cx.o
       have b5:=X.o 5 (by omega) _ L.o _ bj.o
       have b6:=X.o 6 (by omega) _ L.o _ bg.o
       have q7:(qi t+qi u)%18446744073709551616=qi (t+u):=by rw[←qi_add,IntKind.wrap_u64]
       have q8:(qi v3+qi t)%18446744073709551616=qi (v3+t):=by rw[←qi_add,IntKind.wrap_u64]
       have cl:Hid (qRun h W (k+1)=[t+u,l,P,Q,v3+t,c,T,V]):=jh (by rw[Y.o,←HT.o,←HU.o])
       clear Y
       have ci:Hid ((ints .u64 (qs [t+u,l,P,Q,v3+t,c,T,V])).length=(ints .u64 (qs O)).length):=jh (by rw[zaa,zcr,zaa,zcr,Z.o];rfl)
       have cp:Hid ((Tryd.prog.info? 121).map (·.size)=some (ints .u64 (qs [t+u,l,P,Q,v3+t,c,T,V])).length):=jh Tryd.arr121
       go_wp2_with (refine zah rfl _ _ _ rfl E (ints .u64 (qs [t+u,l,P,Q,v3+t,c,T,V])) rfl rfl _ _ L.o ci.o cp.o (zai _ _) ?_;intro wz cr ad)
       go_roundw
       case rel=>exact⟨k+1,by omega,by go_num,by rw[cl.o];exact cr,J.o.grown ad (by have:=ca.o;simp;omega),d.o.grown ad (by have:=ai.o;simp;omega),g.o.grown ad (by have:=ai.o;simp;omega),B.o.grown ad (by have:=aj.o;have:=c1.o;simp;omega),zab f.o ad (by have:=ai.o;omega)⟩
       case measure=>simp[intOf];omega
      have ce:k=80:=by omega
      have bt:(k:Int)=80:=by omega
      rw[bt]
      clear bt
      subst ce
      generalize qRun h W 80=O at*
      go_wp2_with fail
      obtain⟨e4,rfl⟩:=nxq wr
      go_loopw [18] (fun H wr=>∃(j:Nat),j≤8∧H=.int .i64 (j:Int)∧Blk wr E (ints .u64 (qs O)) 121∧Blk wr (A+1) (ints .u64 (qs (qAdd h O j))) 121∧Blk wr A (ints .u8 (List.replicate 64 0)) 26∧MsgAt w2.heap.size b' off m wr∧Ext w wr) (fun H _=>8 - (intOf H).toNat)
      case atStart=>exact⟨0,by omega,rfl,L.o,d.o,g.o,B.o,f.o⟩
      case round=>
       clear L d g B f
       obtain⟨j,hj,rfl,a4,y,C,I,G⟩:=hrel
       have j0:(0:Int)≤(j:Int):=Int.natCast_nonneg _
       by_cases am:j<8
       ·have j1:(j:Int)<8:=by omega
        have e1:=blk_q y (j:=j) (by rw[qAdd_length,ah.o];exact am)
        have e2:=blk_q a4 (j:=j) (by rw[Z.o];exact am)
        have f1:=y.free j
        have af:Hid (qs (qAdd h O (j+1))=(qs (qAdd h O j)).set j (qi ((qAdd h O j).getD j 0#64+O.getD j 0#64))):=jh (by rw[qs_set,qAdd])
        generalize (qAdd h O j).getD j 0#64=p1 at*
        generalize O.getD j 0#64=p2 at*
        have q1:(qi p1+qi p2)%18446744073709551616=qi (p1+p2):=by rw[←qi_add,IntKind.wrap_u64]
        obtain⟨cw,L,g,d,f,B⟩:=jq6 q1 a4 C y G I
        clear a4 C y G I q1
        go_wp2_with fail
        go_region
        go_wp2_with fail
        go_roundw
        case rel=>
         refine⟨j+1,by omega,by go_num,(L.o.far (by have:=ai.o;simp;omega) _).drewN 1,?_,(g.o.far (by simp<;>omega) _).drewN 1,(B.o.far (by have:=c8.o;simp;omega) _).drew,(Below.setCell f.o (by simp<;>omega) _).drew⟩
         rw[af.o,←cw.o]
         exact(d.o.seti j _).drewN 1
        case measure=>simp[intOf];omega
       have ab:j=8:=by omega
       subst ab
       rw[←c9.o]at y
       obtain⟨g,d,f,B⟩:=jq4 C y G I
       clear a4 C y G I
       go_wp2_with fail
       go_roundw
       case rel=>exact⟨n+1,by omega,by rw[show 128*(n:Int)+128=128*((n+1:Nat):Int)from by omega],d.o,g.o,B.o,f.o⟩
       case measure=>simp[intOf];omega
  have cg:n=N:=by omega
  have c2:(128:Int)*(n:Int)=128*(N:Int):=by omega
  rw[c2]
  clear c2
  have bw:Hid (outQ (gRun m N)=sha512 b):=jh (by rw[HM.o,HN.o];rfl)
  subst cg
  have d4:=jh (gRun_length m n)
  generalize gRun m n=R at*
  obtain⟨bz,ak,a8,K1,K2,HS⟩:=jq6 (Blk.made wr (ints .u8 (List.replicate 64 0)) 26) C.lt y.lt (C.alloc (.cells (ints .u8 (List.replicate 64 0)).toArray 26)) (y.alloc (.cells (ints .u8 (List.replicate 64 0)).toArray 26)) G.size
  have KE:=jh (G.trans (Ext.alloc wr (.cells (ints .u8 (List.replicate 64 0)).toArray 26)))
  clear C y G I
  go_upto_region 34 with(fail)
  change Code.wp _ _ _ _ (wr.alloc (.cells (ints .u8 (List.replicate 64 0)).toArray 26))
  generalize wr.alloc (.cells (ints .u8 (List.replicate 64 0)).toArray 26)=wf at*
  have bb:Hid (A+1<wr.heap.size):=a8
  generalize wr.heap.size=F at*
  obtain⟨o,ho⟩:=nxq (outQ R)
  have aa:Hid (o.length=64):=jh (by rw[ho,outQ_length])
  have ct:=jh ho
  have cb:Hid (o=sha512 b):=jh (by rw[ho];exact bw.o)
  clear ho bw ak a8
  go_wp2_with fail
  go_loopw [20] (fun H wr=>∃(j:Nat),j≤64∧H=.int .i64 (j:Int)∧Blk wr F ((fill 64 o j).map bval) 26∧Blk wr (A+1) (ints .u64 (qs R)) 121∧Blk wr A (ints .u8 (List.replicate 64 0)) 26∧Ext w wr) (fun H _=>64 - (intOf H).toNat)
  case atStart=>exact⟨0,by omega,rfl,by rw[fill_start];exact bz.o,K2.o,K1.o,KE.o⟩
  case round=>
   clear bz K2 K1 KE
   obtain⟨j,hj,rfl,a3,y,C,G⟩:=hrel
   have j0:(0:Int)≤(j:Int):=Int.natCast_nonneg _
   by_cases ay:j<64
   ·have j1:(j:Int)<64:=by omega
    obtain⟨q,hq⟩:=nxq (j / 8)
    obtain⟨r,hr⟩:=nxq (j%8)
    obtain⟨s,hs⟩:=nxq (56 - 8*r)
    have dh:(j:Int) / 8=(q:Int):=by omega
    have du:(j:Int)%8=(r:Int):=by omega
    have dx:56 - 8*(r:Int)=(s:Int):=by omega
    have dd:(q:Int)<8:=by omega
    have q0:(0:Int)≤(q:Int):=Int.natCast_nonneg _
    have r0:(0:Int)≤(r:Int):=Int.natCast_nonneg _
    have r4:(r:Int)<8:=by omega
    have s0:(0:Int)≤(s:Int):=Int.natCast_nonneg _
    have df:(s:Int)≤56:=by omega
    have e1:=blk_q y (j:=q) (by rw[d4.o];omega)
    have ao:=outQ_getD R j ay
    rw[←hq,←hr,←hs,←ct.o]at ao
    generalize R.getD q 0#64=x at*
    have dl:=qi_range x
    have e2:=a3.cell j
    rw[zbf (by rw[zdr aa.o (by omega)];exact ay)]at e2
    have f2:=a3.free j
    have b9:∀z:Int,z=((o.getD j 0).toNat:Int)→_:=fun z hz=>zcv aa.o ay hz
    have b9:=jh b9
    have bh:bits .and .u64 (qi x / 2^s) 255%256=((o.getD j 0).toNat:Int):=by
     rw[ao,UInt8.toNat_ofNat',qi_shr,and_q_255]
     rw[BitVec.toNat_ushiftRight,Nat.shiftRight_eq_div_pow]
     omega
    obtain⟨cz,HF,g,d,f⟩:=jq5 bh a3 C y G
    clear a3 C y G ao bh hq hr hs
    generalize ((fill 64 o j).getD j 0)=z2 at*
    generalize qi x=zx at*
    go_wp2_with fail
    go_roundw
    case rel=>
     refine⟨j+1,by omega,by go_num,?_,d.o.far (by have:=bb.o;simp;omega) _,g.o.far (by have:=bb.o;simp;omega) _,Below.setCell f.o (by have:=bb.o;simp;omega) _⟩
     rw[←b9.o _ cz.o]
     exact HF.o.set j _
    case measure=>simp[intOf];omega
   have ab:j=64:=by omega
   subst ab
   rw[fill_full aa.o]at a3
   obtain⟨g,HF,f⟩:=jq3 C a3 G
   clear a3 C y G
   have ax:Hid ((Tryd.prog.info? 26).map (·.size)=some (o.map bval).length):=jh (zeb aa.o)
   have d1:Hid ((o.map bval).length=(ints .u8 (List.replicate 64 0)).length):=jh (by rw[q100,aa.o,zaa,q110])
   go_wp2_with (first|(refine zar rfl _ _ rfl F rfl _ _ _ _ HF.o Tryd.underlying26 ax.o ?_)|(refine zah rfl _ _ _ rfl A (o.map bval) rfl rfl _ _ g.o d1.o ax.o (zac _) ?_;intro w7 ck cv))
   refine bodyPost_ret (zat rfl _ A _ _ _ _ rfl ck Tryd.underlying26 ax.o) rfl ?_
   exact⟨by rw[cb.o],zab f.o cv (by omega)⟩
end Go.Proofs.YtgnfdonbholcdaaDoor


